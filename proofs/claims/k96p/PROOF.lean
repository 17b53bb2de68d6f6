import PyProof.Rows.All
import Wide.All
import OpenK.AllK
import Wide.FinOn
import Lean
import PyProof.EqAt
import PyProof.EqKinds
import PyProof.TupleCall
import KE.KRevIter
import KE.KDictOf
import PyProof.AttrMissHeap
import PyProof.SetRoads
import PyProof.SetNew
import PyProof.TupleKey
import PyProof.InstEq
import PySem.SetOps
import KE.KLam
import KE.KNestM
import KE.KSortTup
import PySem.Challenge.RW_satchelmeet_k96_whole_days_written_out
open List renaming length_map → zA,getElem?_eq_some_iff → zB,mem_of_getElem? → zC,mem_cons → zF,map_append → zG,mem_singleton → zH,mem_map → zI,mem_append_right → zL,size_toArray → zN,length_append → zP,getElem?_map → zR,mem_append → zS,getElem?_eq_getElem → zU,pairwise_iff_getElem → zW,mem_range → zY,length_take → zZ,length_cons → za,length_singleton → ze,take_length → zf,pairwise_cons → zg,getElem?_append_right → zh,not_mem_nil → zi,mem_cons_of_mem → zj,map_cons → zk,map_map → zn,getElem?_append_left → zp,getElem_mem → zq,pairwise_singleton → zv,pairwise_map → zz,pairwise_append → z4,getElem?_eq_none → yA,getElem?_cons_succ → yC,mem_cons_self → yD,filter_append → yI,mem_append_left → yJ,getElem?_cons_zero → yK,map_congr_left → yL,length_nil → yM,foldl_append → yR,lookup_cons → yT,map_reverse → yU,mem_filterMap → yV,set_cons_zero → yY,set_cons_succ → yZ,length_filter_le → ya,append_nil → yc,flatMap_cons → yd,mem_of_getLast? → ye,filterMap_cons → yf,length_reverse → yg,getElem_of_mem → yi,length_drop → yj,all_eq_true → yk,mem_flatMap → yl,mem_filter → yn,find?_cons → yp,any_cons → yr,length_range → yt,getLast?_map → yu,cons_append → yz,map_nil → xD
open Nat renaming le_refl → zD,lt_of_lt_of_le → zO,ne_of_lt → zQ,zero_le → zT,not_lt_zero → zd,le_trans → z6,lt_irrefl → z8,ne_of_gt → yF,lt_succ_iff → yN,lt_succ_of_lt → yQ,lt_or_ge → ym,le_succ → yw,le_of_lt → xB,zero_add → xE
open PySem.W renaming nsIn → zE,keepIn → zJ,mg_of → zK,mg_none_of → zc,kia_one → yE,fnOf → xC
open Bool renaming false_ne_true → zM,false_eq_true → zV,and_eq_true → yS,false_and → yW,eq_iff_iff → yo
open Int renaming le_refl → zX,eq_ofNat_of_zero_le → zb,toNat_natCast → zy,mul_le_mul_of_nonneg_right → yG,emod_lt_of_pos → yX,toNat_of_nonneg → yh,emod_nonneg → yq,add_mul → yx,one_mul → xA,zero_add → xF
open PySem.F renaming slot_list_append → zl,type_list_append → zm,plainAttrs_list → zo
open PyProof.Rows renaming boot_isinstance → zu,boot_tuple → zx,callWith_type1 → yB,boot_max → yO,boot_min → yP
open Option renaming ne_none_iff_exists' → zw,map_some → yb
open PySem renaming mem_of_lookup → yH
set_option Elab.async false
set_option linter.all false
set_option maxRecDepth 100000
set_option maxHeartbeats 4000000
namespace L2
open PySem PySem.Spec PyProof.Rows
abbrev Key:=Sum Int Str
def keyIs:Key->Value->Bool
 | .inl k,v=>Value.isInt k v
 | .inr x,v=>Value.isStrOf x v
def keyH (w:World):Key->Int
 | .inl k=>hashInt k
 | .inr x=>hashStr w x
theorem xw:∀ {k:Key}{v:Value},keyIs k v=true->(∃ i t,k=Sum.inl i/\v=Value.int i t)\/(∃ x t,k=Sum.inr x/\v=Value.str x t)
 | .inl i,v,h=>by
  obtain ⟨t,e⟩:=Value.isInt_shape (k:=i) (v:=v) h
  exact .inl ⟨i,t,rfl,e⟩
 | .inr x,v,h=>by
  obtain ⟨t,e⟩:=Value.isStrOf_shape (x:=x) (v:=v) h
  exact .inr ⟨x,t,rfl,e⟩
theorem keyIs_int (i:Int) (t:Tok):keyIs (.inl i) (.int i t)=true:=by simp [keyIs,Value.isInt]
theorem keyIs_str (x:Str) (t:Tok):keyIs (.inr x) (.str x t)=true:=by simp [keyIs,Value.isStrOf]
theorem key_ll (a b:Int):decide ((Sum.inl a:Key)=Sum.inl b)=(a == b):=by
 by_cases e:a=b
 ·subst e;simp
 ·have h:¬ (Sum.inl a:Key)=Sum.inl b:=λq=>e (Sum.inl.inj q)
  rw [decide_eq_false h]
  exact (beq_eq_false_iff_ne.mpr e).symm
theorem key_rr (a b:Str):decide ((Sum.inr a:Key)=Sum.inr b)=decide (a=b):=by
 by_cases e:a=b
 ·subst e;simp
 ·have h:¬ (Sum.inr a:Key)=Sum.inr b:=λq=>e (Sum.inr.inj q)
  rw [decide_eq_false h,decide_eq_false e]
theorem key_lr (a:Int) (b:Str):decide ((Sum.inl a:Key)=Sum.inr b)=false:=decide_eq_false (λq=>nomatch q)
theorem key_rl (a:Str) (b:Int):decide ((Sum.inr a:Key)=Sum.inl b)=false:=decide_eq_false (λq=>nomatch q)
def mixKind (prog:Program) (w:World):PySem.KeyKind prog w Key where
 is:=keyIs
 hash:=keyH w
 inj:=λv a b ha hb=>by
  rcases xw ha with ⟨i,t,rfl,rfl⟩ | ⟨x,t,rfl,rfl⟩
  ·rcases xw hb with ⟨j,u,rfl,e⟩ | ⟨y,u,rfl,e⟩
   ·injection e with e1 _;rw [e1]
   ·exact nomatch e
  ·rcases xw hb with ⟨j,u,rfl,e⟩ | ⟨y,u,rfl,e⟩
   ·exact nomatch e
   ·injection e with e1 _;rw [e1]
 byValue:=λk v h=>by
  rcases xw h with ⟨i,t,rfl,rfl⟩ | ⟨x,t,rfl,rfl⟩ <;> rfl
 pyHash:=λhv h=>by
  rcases xw hv with ⟨i,t,rfl,rfl⟩ | ⟨x,t,rfl,rfl⟩
  ·exact wpAny_pyHash_int h
  ·exact wpAny_pyHash_str h
 eqBool:=λhu hv h=>by
  rcases xw hu with ⟨i,t,rfl,rfl⟩ | ⟨x,t,rfl,rfl⟩
  ·rcases xw hv with ⟨j,u,rfl,rfl⟩ | ⟨y,u,rfl,rfl⟩
   ·rw [key_ll] at h;exact wpAny_eqBool_int h
   ·rw [key_lr] at h;exact SeqAt.EqAt.int_str i t y u _ _ _ _ h
  ·rcases xw hv with ⟨j,u,rfl,rfl⟩ | ⟨y,u,rfl,rfl⟩
   ·rw [key_rl] at h;exact SeqAt.EqAt.str_int x t j u _ _ _ _ h
   ·rw [key_rr] at h;exact wpAny_eqBool_str h
 «strs»:=λk x t v h=>by
  rcases xw h with ⟨i,u,rfl,e⟩ | ⟨y,u,rfl,e⟩
  ·exact nomatch e
  ·injection e with e1 _
   subst e1
   cases v <;> rfl
theorem mixKind_int (prog:Program) (w:World) (i:Int) (t:Tok):(mixKind prog w).is (.inl i) (.int i t)=true:=keyIs_int i t
theorem mixKind_str (prog:Program) (w:World) (x:Str) (t:Tok):(mixKind prog w).is (.inr x) (.str x t)=true:=keyIs_str x t
end L2
namespace L2
open PySem PySem.Spec PyProof.Rows
inductive V where
 | non | bl (b:Bool) | int (i:Int) | str (x:Str) | byt (b:Array UInt8) | flt (b:UInt64) | ref (a:Addr) | ty (n:String)
 deriving DecidableEq
def RelV:V->Value->Prop
 | .non,u=>u=Value.none
 | .bl b,u=>u=Value.bool b
 | .int i,u=>∃ t,u=Value.int i t
 | .str x,u=>∃ t,u=Value.str x t
 | .byt b,u=>∃ t,u=Value.bytes b t
 | .flt b,u=>∃ t,u=Value.float b t
 | .ref a,u=>u=Value.ref a
 | .ty n,u=>u=Value.type n
abbrev Vals:List V->List Value->Prop:=Paired RelV
theorem Vals.length {xs:List V}{us:List Value} (r:Vals xs us):xs.length=us.length:=Paired.length r
theorem Vals.get:∀ {xs:List V}{us:List Value}{i:Nat}{x:V},Vals xs us->xs[i]?=some x->∃ u,us[i]?=some u/\RelV x u
 | _,_,_,_,.nil,e=>by simp at e
 | _,_,0,_,.cons r _,e=>by simp at e;subst e;exact ⟨_,rfl,r⟩
 | _,_,i + 1,x,.cons _ t,e=>by
  obtain ⟨u,h1,h2⟩:=Vals.get (i:=i) (x:=x) t (by simpa using e)
  exact ⟨u,by simpa using h1,h2⟩
theorem Vals.set {x:V}{u:Value} (r:RelV x u):∀ {xs:List V}{us:List Value} (i:Nat),Vals xs us->Vals (xs.set i x) (us.set i u)
 | _,_,_,.nil=>.nil
 | _,_,0,.cons _ t=>.cons r t
 | _,_,i + 1,.cons q t=>.cons q (Vals.set r i t)
theorem Vals.append:∀ {xs ys:List V}{us ws:List Value},Vals xs us->Vals ys ws->Vals (xs++ys) (us++ws)
 | _,_,_,_,.nil,s=>s
 | _,_,_,_,.cons r t,s=>.cons r (Vals.append t s)
theorem Vals.take:∀ {xs:List V}{us:List Value} (n:Nat),Vals xs us->Vals (xs.take n) (us.take n)
 | _,_,0,_=>.nil
 | _,_,_ + 1,.nil=>.nil
 | _,_,n + 1,.cons r t=>.cons r (Vals.take n t)
theorem Vals.drop:∀ {xs:List V}{us:List Value} (n:Nat),Vals xs us->Vals (xs.drop n) (us.drop n)
 | _,_,0,r=>r
 | _,_,_ + 1,.nil=>.nil
 | _,_,n + 1,.cons _ t=>Vals.drop n t
def RelO:Option V->Option Value->Prop
 | some v,some u=>RelV v u
 | none,none=>True
 | _,_=>False
def KV {κ:Type}:List (κ×V)->List (κ×Value)->Prop:=Paired λ(p:κ×V) (q:κ×Value)=>p.1=q.1/\RelV p.2 q.2
def kV:Key->V
 | .inl i=>.int i
 | .inr x=>.str x
inductive HO where
  | lst (xs:List V)
  | tup (xs:List V)
  | dK (kvs:List (Key×V)) | dT (kvs:List (List Key×V))
  | set (S:Int->Bool) (n:Nat)
  | ins (C dx:Addr) (fs:List (Str×V))
  | own (x:Addr)
  | xd (fs:List (Str×V))
  | met (f x:Addr)
  | rng (lo hi:Int)
  | frz (o:Obj) (u:HO)
  | tbl (ps:Array Value)
  | ext (φ:Heap->Prop)
abbrev Hp:=Addr->Option HO
def upd (H:Hp) (a:Addr) (o:HO):Hp:=λb=>if b=a then some o else H b
theorem xI {H:Hp}{a:Addr}{o:HO}:upd H a o a=some o:=by unfold upd;rw [if_pos rfl]
theorem xO {H:Hp}{a b:Addr}{o:HO} (h:b≠a):upd H a o b=H b:=by unfold upd;rw [if_neg h]
theorem wa {H:Hp}{a b:Addr}{o u:HO} (h:H a=some o) (h':H b=some u) (d:o≠u):a≠b:=by
 intro e;subst e;rw [h] at h';exact d (Option.some.inj h')
theorem xJ {H:Hp}{a b:Addr}{o:HO} (h:H a=some o) (h':H b=none):a≠b:=by
 intro e;subst e;rw [h] at h';cases h'
theorem new_bare {h:Heap}{o:Obj} (hf:o.isFreed=false:=by rfl) (hd:o.dict=none:=by rfl):∀ ob,(h.push o).get? h.objs.size=some ob->ob.dict=none:=λob e=>by
 rw [Heap.get?_push_size h hf] at e;cases e;exact hd
section
variable (P:Program) (w:World)
def ObjOk (H:Hp) (h:Heap) (a:Addr):HO->Prop
 | .lst xs=>xs.length<=sizeLine/\∃ (its:List Value) (n:Nat),Vals xs its/\h.get? a=some { cls:=.type "list", data:=.seq its.toArray n }
 | .tup xs=>(xs.length<=sizeLine/\∀ ob,h.get? a=some ob->ob.dict=none)/\∃ its:List Value,Vals xs its/\IsTup h a its.toArray
 | .dK kvs=>kvs.length<=sizeLine/\(a == sysModules)=false/\∃ vs,KV kvs vs/\h.DictOf (mixKind P w) a vs
 | .dT kvs=>kvs.length<=sizeLine/\(a == sysModules)=false/\∃ xs:List (List Key×Addr×Value),
   Paired (λ(p:List Key×V) (q:List Key×Addr×Value)=>p.1=q.1/\H q.2.1=some (.tup (p.1.map kV))/\RelV p.2 q.2.2) kvs xs /\
   ∃ o es ep,h.get? a=some o/\o.ExactDict/\o.data=.dict es ep/\es.toList=xs.map (entryOfKey (tupleKind (mixKind P w)))/\(xs.map (·.1)).Nodup
 | .set S n=>h.SetOf (intKind P w) a S n
 | .ins C dx fs=>H dx=some (.own a)/\fs.length<=1000/\dx≠a/\h.get? a=some (PySem.W.instObj C dx) /\
   ∃ mA,h.Ns1 dx mA/\(∀ f,RelO (fs.lookup f) (mA f))/\PySem.Within mA (fs.map (·.1))
 | .own _=>∃ o,h.get? a=some o
 | .xd fs=>∃ mA,h.Ns1 a mA/\∀ f,RelO (fs.lookup f) (mA f)
 | .rng lo hi=>∃ t u v,h.get? a=some { cls:=.type "range", data:=.fields #[.int lo t,.int hi u,.int 1 v] }
 | .frz o u=>h.get? a=some o/\ObjOk H h a u
 | .tbl ps=>h.get? a=some { cls:=.none,data:=.fields ps }
 | .met f x=>h.get? a=some (PySem.W.methodObj (.ref f) (.ref x))
 | .ext φ=>φ h/\(∃ o,h.get? a=some o)/\∀ h1 h2:Heap,φ h1->(∀ o,h1.get? a=some o->h2.get? a=some o)->φ h2
def HOk (H:Hp) (h:Heap):Prop:=∀ a o,H a=some o->ObjOk P w H h a o
end
section
variable {P:Program}{w:World}{H H':Hp}{h h':Heap}{a:Addr}{o:HO}
theorem ObjOk.lt (x:ObjOk P w H h a o):a < h.objs.size:=by
 cases o with
 | lst xs=>obtain ⟨_,_,_,_,e⟩:=x;exact Heap.lt_size e
 | tup xs=>obtain ⟨_,_,_,p⟩:=x;exact p.lt
 | dK kvs=>obtain ⟨_,_,_,_,o,_,_,e,_⟩:=x;exact Heap.lt_size e
 | dT kvs=>obtain ⟨_,_,_,_,o,_,_,e,_⟩:=x;exact Heap.lt_size e
 | set S n=>obtain ⟨o,_,_,_,e,_⟩:=x;exact Heap.lt_size e
 | ins C dx fs=>obtain ⟨_,_,_,e,_⟩:=x;exact Heap.lt_size e
 | own y=>obtain ⟨_,e⟩:=x;exact Heap.lt_size e
 | xd fs=>obtain ⟨_,⟨_,_,_,e,_⟩,_⟩:=x;exact Heap.lt_size e
 | rng lo hi=>obtain ⟨_,_,_,e⟩:=x;exact Heap.lt_size e
 | frz ob u=>obtain ⟨e,_⟩:=x;exact Heap.lt_size e
 | tbl ps=>exact Heap.lt_size (show h.get? a=some _ from x)
 | met f y=>exact Heap.lt_size (show h.get? a=some _ from x)
 | ext φ=>obtain ⟨_,⟨_,e⟩,_⟩:=x;exact Heap.lt_size e
theorem Paired.mapP {α β:Type}{F G:α->β->Prop}:∀ {l₁:List α}{l₂:List β},Paired F l₁ l₂->(∀ a b,F a b->G a b)->Paired G l₁ l₂
 | _,_,.nil,_=>.nil
 | _,_,.cons r t,f=>.cons (f _ _ r) (Paired.mapP t f)
theorem ObjOk.stay (x:ObjOk P w H h a o) (k:∀ b u,(b=a\/H b=some (.own a))->h.get? b=some u->h'.get? b=some u)
  (ho:∀ b,H b=some (.own a)->H' b=some (.own a)) (ht:∀ b xs,H b=some (.tup xs)->H' b=some (.tup xs)):ObjOk P w H' h' a o:=by
 induction o with
 | lst xs=>obtain ⟨z,its,n,r,e⟩:=x;exact ⟨z,its,n,r,k _ _ (.inl rfl) e⟩
 | tup xs=>obtain ⟨z,its,r,ob,e,c⟩:=x;exact ⟨⟨z.1,λob' e'=>by rw [k _ _ (.inl rfl) e] at e';cases e';exact z.2 _ e⟩,its,r,ob,k _ _ (.inl rfl) e,c⟩
 | dK kvs=>obtain ⟨z,y,vs,r,ob,es,ep,e,c⟩:=x;exact ⟨z,y,vs,r,ob,es,ep,k _ _ (.inl rfl) e,c⟩
 | dT kvs=>
  obtain ⟨z,y,xs,r,ob,es,ep,e,c⟩:=x
  exact ⟨z,y,xs,Paired.mapP r λp q z=>⟨z.1,ht _ _ z.2.1,z.2.2⟩,ob,es,ep,k _ _ (.inl rfl) e,c⟩
 | set S n=>obtain ⟨ob,es,ep,t,e,c⟩:=x;exact ⟨ob,es,ep,t,k _ _ (.inl rfl) e,c⟩
 | ins C dx fs=>
  obtain ⟨d,z,ne,e,mA,⟨od,es,ep,e2,c⟩,r⟩:=x
  exact ⟨ho _ d,z,ne,k _ _ (.inl rfl) e,mA,⟨od,es,ep,k _ _ (.inr d) e2,c⟩,r⟩
 | own y=>obtain ⟨ob,e⟩:=x;exact ⟨ob,k _ _ (.inl rfl) e⟩
 | xd fs=>obtain ⟨mA,⟨od,es,ep,e,c⟩,r⟩:=x;exact ⟨mA,⟨od,es,ep,k _ _ (.inl rfl) e,c⟩,r⟩
 | rng lo hi=>obtain ⟨t,u,v,e⟩:=x;exact ⟨t,u,v,k _ _ (.inl rfl) e⟩
 | frz ob u ih=>obtain ⟨e,q⟩:=x;exact ⟨k _ _ (.inl rfl) e,ih q⟩
 | tbl ps=>
  have e:h.get? a=some { cls:=.none,data:=.fields ps }:=x
  show h'.get? a=some { cls:=.none,data:=.fields ps }
  exact k a _ (.inl rfl) e
 | met f y=>
  have e:h.get? a=some (PySem.W.methodObj (.ref f) (.ref y)):=x
  show h'.get? a=some (PySem.W.methodObj (.ref f) (.ref y))
  exact k a _ (.inl rfl) e
 | ext φ=>obtain ⟨p,⟨o,e⟩,st⟩:=x;exact ⟨st _ _ p λo q=>k _ _ (.inl rfl) q,⟨o,k _ _ (.inl rfl) e⟩,st⟩
theorem HOk.lt (x:HOk P w H h) (e:H a=some o):a < h.objs.size:=(x a o e).lt
theorem HOk.fresh (x:HOk P w H h) (e:h.objs.size<=a):H a=none:=by
 cases q:H a with
 | none=>rfl
 | some u=>exact absurd (zO (x.lt q) e) (z8 _)
theorem HOk.kept (x:HOk P w H h) (k:∀ b u,h.get? b=some u->h'.get? b=some u):HOk P w H h':=λa o e=>
 (x a o e).stay (λb u _ q=>k b u q) (λ_ q=>q) λ_ _ q=>q
theorem HOk.laid (x:HOk P w H h) (k:∀ b u,h.get? b=some u->h'.get? b=some u) (hp:h.objs.size<=a) (new:ObjOk P w (upd H a o) h' a o):HOk P w (upd H a o) h':=λb u e=>by
 have hn:=x.fresh hp
 by_cases hb:b=a
 ·subst hb;rw [xI] at e;cases e;exact new
 ·rw [xO hb] at e
  exact (x b u e).stay (λc v _ q=>k c v q) (λc q=>by rw [xO (xJ q hn)];exact q) λc xs q=>by rw [xO (xJ q hn)];exact q
end
def Rd (H:Hp) (a:Addr) (u:HO):Prop:=H a=some u\/∃ o,H a=some (.frz o u)
theorem Rd.ok {P:Program}{w:World}{H:Hp}{h:Heap}{a:Addr}{u:HO} (r:Rd H a u) (x:HOk P w H h):ObjOk P w H h a u:=by
 rcases r with r | ⟨o,r⟩
 ·exact x a u r
 ·obtain ⟨_,q⟩:=x a _ r
  exact q
def Mut:Option HO->Prop
 | some (.lst _)=>True
 | some (.dK _)=>True
 | some (.dT _)=>True
 | some (.set _ _)=>True
 | some (.ins _ _ _)=>True
 | some (.ext _)=>True
 | _=>False
section
variable {P:Program}{w:World}{H:Hp}{h h':Heap}{x e:Addr}{o':HO}
theorem HOk.write (ok:HOk P w H h) (mu:Mut (H x)) (he:e=x\/H e=some (.own x)) (k:∀ b u,b≠e->h.get? b=some u->h'.get? b=some u) (heo:∃ u,h'.get? e=some u)
  (new:ObjOk P w (upd H x o') h' x o'):HOk P w (upd H x o') h':=λb u q=>by
 have nown:∀ c y,H c=some (.own y)->c≠x:=λc y r z=>by subst z;rw [r] at mu;exact mu
 have ntup:∀ c xs,H c=some (.tup xs)->c≠x:=λc xs r z=>by subst z;rw [r] at mu;exact mu
 by_cases hb:b=x
 ·subst hb;rw [xI] at q;cases q;exact new
 ·rw [xO hb] at q
  by_cases hbe:b=e
  ·have q':H b=some (.own x):=by
    rcases he with z | z
    ·exact absurd (hbe.trans z) hb
    ·rw [hbe];exact z
   rw [q] at q';cases q'
   obtain ⟨v,hv⟩:=heo
   exact ⟨v,by rw [hbe];exact hv⟩
  ·refine (ok b u q).stay (λc v hc r=>k c v ?_ r) (λc r=>by rw [xO (nown c b r)];exact r) λc xs r=>by rw [xO (ntup c xs r)];exact r
   rcases hc with rfl | hc
   ·exact hbe
   ·rintro rfl
    rcases he with z | z
    ·exact nown c b hc z
    ·rw [hc] at z;cases z;exact hb rfl
end
structure Un (fs ex:List Addr) (H H':Hp) (h h':Heap):Prop where
 keep:∀ b o,h.get? b=some o->H b=none->b ∉ fs->b ∉ ex->h'.get? b=some o
 slot:∀ b o,h.get? b=some o->H b=none->b∈fs->b ∉ ex->∃ sl,h'.get? b=some { o with slots:=sl }
 free:∀ b o,h.get? b=some o->H b=none->b ∉ ex->H' b=none
 there:∀ b o,h.get? b=some o->b ∉ ex->∃ o',h'.get? b=some o'
 tups:∀ b xs,H b=some (.tup xs)->H' b=some (.tup xs)
 frzs:∀ b o u,H b=some (.frz o u)->H' b=some (.frz o u)
 tbls:∀ b ps,H b=some (.tbl ps)->∃ more,H' b=some (.tbl (ps++more))
section
variable {fs fs' ex ex':List Addr} {H H1 H2:Hp} {h h1 h2 h':Heap}{a x e:Addr}{o:HO}
theorem Un.any (u:Un fs ex H H1 h h1) {b:Addr}{ob:Obj} (q:h.get? b=some ob) (n:H b=none) (hx:b ∉ ex):∃ sl,h1.get? b=some { ob with slots:=sl }:=by
 by_cases hb:b∈fs
 ·exact u.slot b ob q n hb hx
 ·exact ⟨ob.slots,u.keep b ob q n hb hx⟩
theorem Un.kept (k:∀ b u,h.get? b=some u->h'.get? b=some u):Un fs ex H H h h':=
 ⟨λb ob q _ _ _=>k b ob q,λb ob q _ _ _=>⟨ob.slots,k b ob q⟩,λ_ _ _ n _=>n,λb ob q _=>⟨ob,k b ob q⟩,λ_ _ q=>q,λ_ _ _ q=>q,λ_ ps q=>⟨#[],by rw [q];simp⟩⟩
theorem Un.refl:Un fs ex H H h h:=Un.kept λ_ _ q=>q
theorem Un.laid (k:∀ b u,h.get? b=some u->h'.get? b=some u) (hp:h.objs.size<=a) (hn:H a=none):Un fs ex H (upd H a o) h h' where
 keep:=λb u q _ _ _=>k b u q
 slot:=λb u q _ _ _=>⟨u.slots,k b u q⟩
 free:=λb u q n _=>by rw [xO (zQ (zO (Heap.lt_size q) hp))];exact n
 there:=λb u q _=>⟨u,k b u q⟩
 tups:=λb xs q=>by rw [xO (xJ q hn)];exact q
 frzs:=λb u xs q=>by rw [xO (xJ q hn)];exact q
 tbls:=λb ps q=>⟨#[],by rw [xO (xJ q hn),q];simp⟩
theorem Un.write (mu:Mut (H x)) (he:e=x\/H e=some (.own x)) (k:∀ b u,b≠e->h.get? b=some u->h'.get? b=some u) (heo:∃ u,h'.get? e=some u):Un fs ex H (upd H x o) h h':=by
 have hx:∀ b,H b=none->b≠x:=λb n z=>by subst z;rw [n] at mu;exact mu
 have hb:∀ b,H b=none->b≠e:=λb n z=>by
  subst z
  rcases he with r | r
  ·exact hx b n r
  ·rw [n] at r;cases r
 have hm:∀ b u,H b=some u->¬ Mut (some u)->b≠x:=λb u q nm z=>by subst z;rw [q] at mu;exact nm mu
 refine ⟨λb u q n _ _=>k b u (hb b n) q,λb u q n _ _=>⟨u.slots,k b u (hb b n) q⟩,λb u q n _=>by rw [xO (hx b n)];exact n,λb u q _=>?_,
  λb xs q=>by rw [xO (hm b _ q λz=>z)];exact q,λb u xs q=>by rw [xO (hm b _ q λz=>z)];exact q,λb ps q=>⟨#[],by rw [xO (hm b _ q λz=>z),q];simp⟩⟩
 by_cases hbe:b=e
 ·subst hbe;exact heo
 ·exact ⟨u,k b u hbe q⟩
end
def trk (h:Heap) (H:Hp):List Addr:=(List.range h.objs.size).filter λa=>(H a).isSome
def hidT (h:Heap) (H:Hp):Heap:=PySem.W.hideAll h (trk h H)
theorem hidT_size (h:Heap) (H:Hp):(hidT h H).objs.size=h.objs.size:=PySem.W.hideAll_size _ _
theorem hidT_get {h:Heap}{H:Hp}{b:Addr}{o:Obj} (e:h.get? b=some o) (n:H b=none):(hidT h H).get? b=some o:=
 PySem.W.hideAll_get _ e λhm=>by
  have q:(H b).isSome=true:=(yn.mp hm).2
  rw [n] at q;simp at q
theorem of_hidT {h:Heap}{H:Hp}{b:Addr}{o:Obj} (e:(hidT h H).get? b=some o):h.get? b=some o/\H b=none:=by
 have e':h.get? b=some o:=PySem.W.of_hideAll (trk h H) e
 refine ⟨e',?_⟩
 cases q:H b with
 | none=>rfl
 | some x=>
  have hm:b∈trk h H:=yn.mpr ⟨zY.mpr (Heap.lt_size e'),by simp [q]⟩
  have z:(hidT h H).get? b=none:=PySem.W.hideAll_none (trk h H) hm
  rw [z] at e;cases e
def allNews (g h:Heap) (L:Addr):List (Addr×Obj):=(List.range h.objs.size).filterMap λa=>if a=L\/(g.get? a).isSome=true then none else (h.get? a).map λo=>(a,o)
theorem mem_allNews {g h:Heap}{L a:Addr}{o:Obj} (h1:a≠L) (h2:g.get? a=none) (h3:h.get? a=some o):(a,o)∈allNews g h L:=
 yV.mpr ⟨a,zY.mpr (Heap.lt_size h3),by simp [h1,h2,h3]⟩
theorem of_mem_allNews {g h:Heap}{L:Addr}{p:Addr×Obj} (hp:p∈allNews g h L):p.1≠L/\g.get? p.1=none/\h.get? p.1=some p.2:=by
 obtain ⟨b,_,e⟩:=yV.mp hp
 split at e
 ·cases e
 ·rename_i hn
  cases q:h.get? b with
  | none=>rw [q] at e;simp at e
  | some u=>
   rw [q] at e
   simp only [yb,Option.some.injEq] at e
   subst e
   refine ⟨λz=>hn (.inl z),?_,q⟩
   show g.get? b=none
   cases r:g.get? b with
   | none=>rfl
   | some v=>exact (hn (.inr (by simp [r]))).elim
theorem news_all {g h:Heap}{L:Addr}:News g L h (allNews g h L):=λp hp=>let ⟨a,b,c⟩:=of_mem_allNews hp;⟨c,a,b⟩
end L2
namespace L2
open PySem PySem.Spec PyProof.Rows
structure Mod (K:PySem.W.Frag) (mg:Str->Option Value) (base:Heap):Prop where
 kin:K.In base
 glob:base.Ns mainGlobals mg
 blt:∃ mb,base.Ns builtinsNs mb/\∀ x:Str,x ≠ "__name__" -> mb x=bootBuiltins x
 nolimit:base.NoLimit
structure Cx where
 prog:Program
 w:World
 K:PySem.W.Frag
 mg:Str->Option Value
 base:Heap
 A:Around
 N:List Str
 s₀:Shared
 H₀:Hp
 env:Env
 outer:List Env
 stack:List Env
 ex:List Addr
 fn:Str->Bool
 calm:Bool
 pn:List (Addr×Obj)
 xe:Value->Shared->Prop
def frs (l:List Env):List Addr:=l.filterMap (·.frame)
abbrev Cx.fs (X:Cx):List Addr:=frs X.outer
def Vis (sc:Scope) (x:Str):Prop:=sc.names.lookup x=some .local\/sc.names.lookup x=some .cell\/sc.names.lookup x=some .free
def Loc (sc:Scope) (x:Str):Prop:=sc.names.lookup x=some .local\/sc.names.lookup x=some .cell
def Look (env:Env) (h:Heap) (m:Str->Option Value) (x:Str) (u:Value):Prop:=
 (env.kindOf x=some .local/\m x=some u)\/((env.kindOf x=some .cell\/env.kindOf x=some .free)/\∃ c,env.cells.lookup x=some c/\h.IsCell c (some u))
structure Cx.Ok (X:Cx):Prop where
 mod:Mod X.K X.mg X.base
 kind:X.env.scope.kind=.function
 glob:X.env.globals=mainGlobals
 blt:X.env.builtins=builtinsNs
 above:X.s₀.heap.objs.size<=X.env.locals
 inj:∀ x y c,X.env.cells.lookup x=some c->X.env.cells.lookup y=some c->x=y
 has:∀ x,(X.env.kindOf x=some .cell\/X.env.kindOf x=some .free)->∃ c,X.env.cells.lookup x=some c
 cab:∀ x c,X.fn x=true->X.env.cells.lookup x=some c->X.s₀.heap.objs.size<=c
 hd:X.calm=true->X.A.handled=none
 frames:X.A.frames=some X.stack
 stk:X.stack=X.outer\/(X.stack=X.env::X.outer/\X.env.frame=some X.env.locals)
 exf:∀ b∈X.ex,b≠X.env.locals/\∀ x c,X.env.cells.lookup x=some c->c≠b
 bs:∀ b o,X.base.get? b=some o->X.s₀.heap.get? b=some o/\X.H₀ b=none
 bsz:X.base.objs.size<=X.s₀.heap.objs.size
 noex:∀ b o,X.base.get? b=some o->b ∉ X.ex
 exfs:∀ b∈X.ex,b ∉ X.fs
 funs:X.s₀.heap.FunFrames X.base X.outer
 frf:∀ b∈X.fs,X.H₀ b=none
structure Inv (X:Cx) (pins:List (Addr×Obj)) (σ:List (Option V)) (H:Hp) (s:Shared):Prop where
 ok:X.Ok
 os:s.os=X.s₀.os
 bare:AllBare s.gens
 base:Un X.fs X.ex X.H₀ H X.s₀.heap s.heap
 loc:∃ m,s.heap.Ns X.env.locals m/\∀ (i:Nat) (x:Str) (v:V),X.N[i]?=some x->σ[i]?=some (some v)->Vis X.env.scope x->∃ u,RelV v u/\Look X.env s.heap m x u
 cell:∀ x c,X.env.cells.lookup x=some c->∃ v,s.heap.IsCell c v
 free:H X.env.locals=none
 freeC:∀ x c,X.env.cells.lookup x=some c->H c=none
 pin:∀ p∈X.pn++pins,s.heap.get? p.1=some p.2/\H p.1=none/\p.1≠X.env.locals/\p.1 ∉ X.fs/\∀ v,p.2.data≠.cell v
 hok:HOk X.prog X.w H s.heap
 len:σ.length=X.N.length
section
variable {X:Cx}{pins:List (Addr×Obj)}{σ:List (Option V)}{H H':Hp}{s:Shared}{h':Heap}
theorem Cx.Ok.nofr (ok:X.Ok) {b:Addr}{o:Obj} (e:X.base.get? b=some o):b ∉ X.fs:=λhb=>by
 have:=(ok.funs.mem hb).1
 rw [e] at this;cases this
theorem Inv.bs (I:Inv X pins σ H s):∀ b o,X.base.get? b=some o->s.heap.get? b=some o/\H b=none:=λb o e=>
 ⟨I.base.keep b o (I.ok.bs b o e).1 (I.ok.bs b o e).2 (I.ok.nofr e) (I.ok.noex b o e),I.base.free b o (I.ok.bs b o e).1 (I.ok.bs b o e).2 (I.ok.noex b o e)⟩
theorem Inv.bk (I:Inv X pins σ H s):∀ b o,X.base.get? b=some o->s.heap.get? b=some o:=λb o e=>(I.bs b o e).1
theorem Inv.mod (I:Inv X pins σ H s):Mod X.K X.mg X.base:=I.ok.mod
theorem Inv.kIn (I:Inv X pins σ H s):X.K.In s.heap:=I.ok.mod.kin.keeps I.bk
theorem Inv.fr (I:Inv X pins σ H s):∃ m,Fr X.base X.env.locals s.heap m:=
 let ⟨m,hn,_⟩:=I.loc
 ⟨m,hn,I.bk,z6 I.ok.bsz I.ok.above⟩
theorem Inv.lt (I:Inv X pins σ H s):X.env.locals < s.heap.objs.size:=let ⟨_,hn,_⟩:=I.loc;hn.lt
theorem Inv.sz (I:Inv X pins σ H s):X.s₀.heap.objs.size<=s.heap.objs.size:=z6 I.ok.above (xB I.lt)
theorem Inv.nofs (I:Inv X pins σ H s) {a:Addr} (h:s.heap.objs.size<=a):a ∉ X.fs:=λhb=>by
 obtain ⟨_,o,ho,_⟩:=I.ok.funs.mem hb
 exact absurd (zO (Heap.lt_size ho) (z6 I.sz h)) (z8 _)
theorem Inv.cne (I:Inv X pins σ H s):∀ x c,X.env.cells.lookup x=some c->c≠X.env.locals:=λx c e z=>by
 obtain ⟨v,o,ho,hd⟩:=I.cell x c e
 obtain ⟨m,⟨o',es,ep,ho',hd',_⟩,_⟩:=I.loc
 rw [z,ho'] at ho;cases ho;rw [hd'] at hd;cases hd
theorem Inv.funs (I:Inv X pins σ H s):s.heap.FunFrames X.base X.outer:=by
 have all:∀ (l:List Env),(∀ b∈frs l,b∈X.fs)->X.s₀.heap.FunFrames X.base l->s.heap.FunFrames X.base l:=by
  intro l
  induction l with
  | nil=>intro _ _;trivial
  | cons env r ih=>
   intro hs hl
   obtain ⟨hk,⟨L,o,hf,hn,ho,hd⟩,hr⟩:=hl
   have hL:L∈X.fs:=hs L (by unfold frs;rw [yf,hf];exact yD)
   obtain ⟨sl,e⟩:=I.base.slot L o ho (I.ok.frf L hL) hL λz=>I.ok.exfs L z hL
   exact ⟨hk,⟨L,_,hf,hn,e,hd⟩,ih (λb hb=>hs b (by unfold frs;rw [yf,hf];exact zj _ hb)) hr⟩
 exact all X.outer (λ_ hb=>hb) I.ok.funs
theorem Inv.stack (I:Inv X pins σ H s):s.heap.FunFrames X.base X.stack:=by
 rcases I.ok.stk with e | ⟨e,hf⟩
 ·rw [e];exact I.funs
 ·rw [e]
  obtain ⟨m,hn,_⟩:=I.loc
  refine .cons (by rw [I.ok.kind];decide) hf hn ?_ I.funs
  exact Heap.get?_none_of_le (z6 I.ok.bsz I.ok.above)
theorem Inv.stkSub (I:Inv X pins σ H s):∀ b∈frs X.stack,b∈X.env.locals::X.fs:=λb hb=>by
 rcases I.ok.stk with e | ⟨e,hf⟩
 ·rw [e] at hb;exact zj _ hb
 ·rw [e] at hb
  unfold frs at hb
  rw [yf,hf] at hb
  exact hb
theorem Inv.stkFree (I:Inv X pins σ H s):∀ b∈frs X.stack,H b=none:=λb hb=>by
 rcases zF.mp (I.stkSub b hb) with e | hb
 ·rw [e];exact I.free
 ·obtain ⟨_,o,ho,_⟩:=I.ok.funs.mem hb
  exact I.base.free b o ho (I.ok.frf b hb) λz=>I.ok.exfs b z hb
theorem Inv.step {g':Array GenState}{t':Nat}{d':Drawn}{ch:List Addr} (I:Inv X pins σ H s)
  (hch:∀ b∈ch,(b∈X.ex\/X.s₀.heap.objs.size<=b)/\b≠X.env.locals/\(∀ x c,X.env.cells.lookup x=some c->c≠b)/\∀ p∈X.pn++pins,p.1≠b)
  (keep:∀ b o,b≠X.env.locals->b ∉ X.fs->b ∉ ch->s.heap.get? b=some o->H b=none->h'.get? b=some o)
  (slot:∀ b o,b≠X.env.locals->b∈X.fs->b ∉ ch->s.heap.get? b=some o->H b=none->∃ sl,h'.get? b=some { o with slots:=sl }) (free:∀ b o,b ∉ ch->s.heap.get? b=some o->H b=none->H' b=none)
  (there:∀ b o,b ∉ ch->s.heap.get? b=some o->∃ o',h'.get? b=some o')
  (tups:∀ b xs,H b=some (.tup xs)->H' b=some (.tup xs)) (frzs:∀ b o u,H b=some (.frz o u)->H' b=some (.frz o u)) (tbls:∀ b ps,H b=some (.tbl ps)->∃ more,H' b=some (.tbl (ps++more)))
  (ns:∀ m,s.heap.Ns X.env.locals m->h'.Ns X.env.locals m) (hok:HOk X.prog X.w H' h') (hg:AllBare g') :
  Inv X pins σ H' { s with heap:=h',gens:=g',drawn:=d',toks:=t' }:=by
 have neL:∀ b o,X.s₀.heap.get? b=some o->b≠X.env.locals:=λb o e=>zQ (zO (Heap.lt_size e) I.ok.above)
 have neC:∀ b o,X.s₀.heap.get? b=some o->b ∉ X.ex->b ∉ ch:=λb o e hx hb=>by
  rcases (hch b hb).1 with z | z
  ·exact hx z
  ·exact absurd (zO (Heap.lt_size e) z) (z8 _)
 have cellK:∀ x c,X.env.cells.lookup x=some c->∀ v,s.heap.IsCell c v->h'.IsCell c v:=λx c e v ⟨o,ho,hd⟩=>by
  have nch:c ∉ ch:=λz=>(hch c z).2.2.1 x c e rfl
  by_cases hc:c∈X.fs
  ·obtain ⟨sl,q⟩:=slot c o (I.cne x c e) hc nch ho (I.freeC x c e)
   exact ⟨_,q,hd⟩
  ·exact ⟨o,keep c o (I.cne x c e) hc nch ho (I.freeC x c e),hd⟩
 refine ⟨I.ok,I.os,hg,⟨λb o e n hb hx=>?_,λb o e n hb hx=>?_,λb o e n hx=>?_,λb o e hx=>?_,λb xs e=>tups b xs (I.base.tups b xs e),λb o xs e=>frzs b o xs (I.base.frzs b o xs e),λb ps e=>?_⟩,?_,λx c e=>?_,?_,λx c e=>?_,λp hp=>?_,hok,I.len⟩
 ·exact keep b o (neL b o e) hb (neC b o e hx) (I.base.keep b o e n hb hx) (I.base.free b o e n hx)
 ·obtain ⟨sl,e1⟩:=I.base.slot b o e n hb hx
  obtain ⟨sl',e2⟩:=slot b _ (neL b o e) hb (neC b o e hx) e1 (I.base.free b o e n hx)
  exact ⟨sl',e2⟩
 ·obtain ⟨o',e1⟩:=I.base.there b o e hx
  exact free b o' (neC b o e hx) e1 (I.base.free b o e n hx)
 ·obtain ⟨o',e1⟩:=I.base.there b o e hx
  exact there b o' (neC b o e hx) e1
 ·obtain ⟨m1,e1⟩:=I.base.tbls b ps e
  obtain ⟨m2,e2⟩:=tbls b _ e1
  exact ⟨m1++m2,by rw [e2,Array.append_assoc]⟩
 ·obtain ⟨m,hn,hl⟩:=I.loc
  refine ⟨m,ns m hn,λi x v e1 e2 e3=>?_⟩
  obtain ⟨u,r,l⟩:=hl i x v e1 e2 e3
  refine ⟨u,r,?_⟩
  rcases l with l | ⟨k,c,e,z⟩
  ·exact .inl l
  ·exact .inr ⟨k,c,e,cellK x c e _ z⟩
 ·obtain ⟨v,z⟩:=I.cell x c e
  exact ⟨v,cellK x c e v z⟩
 ·obtain ⟨m,⟨o,_,_,ho,_⟩,_⟩:=I.loc
  exact free _ o (λz=>(hch _ z).2.1 rfl) ho I.free
 ·obtain ⟨v,o,ho,hd⟩:=I.cell x c e
  exact free c o (λz=>(hch c z).2.2.1 x c e rfl) ho (I.freeC x c e)
 ·obtain ⟨e,n,ne,nf,d⟩:=I.pin p hp
  have nch:p.1 ∉ ch:=λz=>(hch p.1 z).2.2.2 p hp rfl
  exact ⟨keep p.1 p.2 ne nf nch e n,free p.1 p.2 nch e n,ne,nf,d⟩
theorem Inv.un {t':Nat} (I:Inv X pins σ H s) (u:Un X.fs [] H H' s.heap h') (hok:HOk X.prog X.w H' h'):Inv X pins σ H' { s with heap:=h',toks:=t' }:=by
 obtain ⟨m,⟨o,es,ep,ho,r⟩,_⟩:=id I.loc
 obtain ⟨sl,hL⟩:=u.any ho I.free (by simp)
 exact I.step (g':=s.gens) (d':=s.drawn) (ch:=[]) (λ_ z=>nomatch z) (λb o _ hb _ e n=>u.keep b o e n hb (by simp)) (λb o _ hb _ e n=>u.slot b o e n hb (by simp)) (λb o _ e n=>u.free b o e n (by simp)) (λb o _ e=>u.there b o e (by simp)) u.tups u.frzs u.tbls (λm' hm=>by
  obtain ⟨o',es',ep',ho',r'⟩:=hm
  rw [ho] at ho';cases ho'
  exact ⟨_,es',ep',hL,r'⟩) hok I.bare
theorem Inv.call {g':Array GenState}{t':Nat}{d':Drawn}{ch:List Addr} (I:Inv X pins σ H s) (u:Un (frs X.stack) ch H H' s.heap h') (hok:HOk X.prog X.w H' h') (hg:AllBare g')
  (hch:∀ b∈ch,(b∈X.ex\/X.s₀.heap.objs.size<=b)/\b≠X.env.locals/\(∀ x c,X.env.cells.lookup x=some c->c≠b)/\∀ p∈X.pn++pins,p.1≠b) :
  Inv X pins σ H' { s with heap:=h',gens:=g',drawn:=d',toks:=t' }:=by
 obtain ⟨m,⟨o,es,ep,ho,r⟩,_⟩:=id I.loc
 obtain ⟨sl,hL⟩:=u.any ho I.free λz=>(hch _ z).2.1 rfl
 exact I.step (ch:=ch) hch (λb o hL hb hc e n=>u.keep b o e n (λz=>(zF.mp (I.stkSub b z)).elim hL hb) hc) (λb o _ _ hc e n=>u.any e n hc) (λb o hc e n=>u.free b o e n hc) (λb o hc e=>u.there b o e hc) u.tups u.frzs u.tbls (λm' hm=>by
  obtain ⟨o',es',ep',ho',r'⟩:=hm
  rw [ho] at ho';cases ho'
  exact ⟨_,es',ep',hL,r'⟩) hok hg
theorem Inv.turned {t':Nat}{it:Addr} (I:Inv X pins σ H s) (k:∀ b o,b≠it->s.heap.get? b=some o->h'.get? b=some o) (hn:H it=none) (hL:it≠X.env.locals)
  (h1:it∈X.ex\/X.s₀.heap.objs.size<=it) (h2:∀ x c,X.env.cells.lookup x=some c->c≠it) (h3:∀ p∈X.pn++pins,p.1≠it):Inv X pins σ H { s with heap:=h',toks:=t' }:=by
 have nit:∀ b u,H b=some u->b≠it:=λb u e z=>by rw [z,hn] at e;cases e
 refine I.step (g':=s.gens) (d':=s.drawn) (ch:=[it]) (λb hb=>?_) (λb o _ _ hc e _=>k b o (λz=>hc (by simp [z])) e) (λb o _ _ hc e _=>⟨o.slots,k b o (λz=>hc (by simp [z])) e⟩) (λ_ _ _ _ n=>n)
  (λb o hc e=>⟨o,k b o (λz=>hc (by simp [z])) e⟩) (λ_ _ e=>e) (λ_ _ _ e=>e) (λb ps e=>⟨#[],by rw [e];simp⟩) (λm hm=>?_) (λb u e=>?_) I.bare
 ·have e:b=it:=by simpa using hb
  subst e
  exact ⟨h1,hL,h2,h3⟩
 ·obtain ⟨o,es,ep,ho,r⟩:=hm
  exact ⟨o,es,ep,k _ o (Ne.symm hL) ho,r⟩
 ·refine (I.hok b u e).stay (λc v hc q=>k c v ?_ q) (λ_ q=>q) λ_ _ q=>q
  rcases hc with z | z
  ·rw [z];exact nit b u e
  ·exact nit c _ z
theorem Inv.tok (I:Inv X pins σ H s) (t:Nat):Inv X pins σ H { s with toks:=t }:=I.un (h':=s.heap) (t':=t) Un.refl I.hok
theorem Inv.kept {t':Nat} (I:Inv X pins σ H s) (k:∀ b u,s.heap.get? b=some u->h'.get? b=some u):Inv X pins σ H { s with heap:=h',toks:=t' }:=I.un (Un.kept k) (I.hok.kept k)
theorem Inv.laid {a:Addr}{o:HO}{t':Nat} (I:Inv X pins σ H s) (k:∀ b u,s.heap.get? b=some u->h'.get? b=some u) (hp:s.heap.objs.size<=a) (new:ObjOk X.prog X.w (upd H a o) h' a o) :
  Inv X pins σ (upd H a o) { s with heap:=h',toks:=t' }:=I.un (Un.laid k hp (I.hok.fresh hp)) (I.hok.laid k hp new)
theorem Inv.write {x e:Addr}{o:HO}{t':Nat} (I:Inv X pins σ H s) (mu:Mut (H x)) (he:e=x\/H e=some (.own x)) (k:∀ b u,b≠e->s.heap.get? b=some u->h'.get? b=some u) (heo:∃ u,h'.get? e=some u)
  (new:ObjOk X.prog X.w (upd H x o) h' x o):Inv X pins σ (upd H x o) { s with heap:=h',toks:=t' }:=I.un (Un.write mu he k heo) (I.hok.write mu he k heo new)
theorem Inv.pins_of {pins':List (Addr×Obj)} (I:Inv X pins σ H s) (h:∀ p∈pins',s.heap.get? p.1=some p.2/\H p.1=none/\p.1≠X.env.locals/\p.1 ∉ X.fs/\∀ v,p.2.data≠.cell v):Inv X pins' σ H s:=
 ⟨I.ok,I.os,I.bare,I.base,I.loc,I.cell,I.free,I.freeC,λp hp=>(zS.mp hp).elim (λz=>I.pin p (yJ _ z)) (h p),I.hok,I.len⟩
theorem nodup_ix {N:List Str} (hN:N.Nodup) {i j:Nat}{x:Str} (a:N[i]?=some x) (b:N[j]?=some x):i=j:=by
 obtain ⟨h1,e1⟩:=zB.mp a
 obtain ⟨h2,e2⟩:=zB.mp b
 exact (List.getElem_inj hN).mp (e1.trans e2.symm)
theorem store_ok2 {M:Model}{A:Around}{E:Value->Shared->Prop}{i:Nat}{x:Str}{v:V}{u:Value}{Q:Unit->Shared->Prop} (I:Inv X pins σ H s) (hN:X.N.Nodup) (hi:X.N[i]?=some x) (hx:Loc X.env.scope x) (r:RelV v u)
  (h:∀ s',Inv X pins (σ.set i (some v)) H s'->(∃ a,Heap.SameBut a s.heap s'.heap/\(a=X.env.locals\/X.env.cells.lookup x=some a))->Q () s') (hf:X.fn x=true\/X.env.scope.names.lookup x=some .local:=by first | exact .inl rfl | exact .inr rfl | assumption):wpAny M A (storeName X.env x u) Q E s:=by
 obtain ⟨m,hn,hl⟩:=id I.loc
 have hcls:(X.env.scope.kind == .class || (X.env.scope.kind == .module && X.env.locals != X.env.globals))=false:=by rw [I.ok.kind];rfl
 have hiσ:i < σ.length:=by rw [I.len];exact (zB.mp hi).1
 have cne:=I.cne
 have tracked:∀ {a:Addr}{h':Heap},(∃ o,s.heap.get? a=some o/\H a=none)->Heap.SameBut a s.heap h'->HOk X.prog X.w H h':=λ{a h'} ha hs b ob e=>by
  obtain ⟨_,_,hfree⟩:=ha
  refine (I.hok b ob e).stay (λc w' hc q=>(hs.2 c ?_).trans q) (λ_ q=>q) λ_ _ q=>q
  rintro rfl
  rcases hc with rfl | hc
  ·rw [hfree] at e;cases e
  ·rw [hfree] at hc;cases hc
 rcases hx with hk | hk
 ·refine wpAny_storeName_local hk hn (λh' hn' hs=>?_) hcls
  obtain ⟨oL,_,_,hoL,_⟩:=id hn
  refine h _ ⟨I.ok,I.os,I.bare,⟨λb o e n hb hx=>?_,λb o e n hb hx=>?_,I.base.free,λb o e hx=>?_,I.base.tups,I.base.frzs,I.base.tbls⟩,⟨_,hn',λj y v' e1 e2 e3=>?_⟩,λy c e=>?_,I.free,I.freeC,λp hp=>?_,tracked ⟨oL,hoL,I.free⟩ hs,by simpa using I.len⟩ ⟨_,hs,.inl rfl⟩
  ·exact (hs.2 b (zQ (zO (Heap.lt_size e) I.ok.above))).trans (I.base.keep b o e n hb hx)
  ·obtain ⟨sl,e1⟩:=I.base.slot b o e n hb hx
   exact ⟨sl,(hs.2 b (zQ (zO (Heap.lt_size e) I.ok.above))).trans e1⟩
  ·obtain ⟨o',e1⟩:=I.base.there b o e hx
   exact ⟨o',(hs.2 b (zQ (zO (Heap.lt_size e) I.ok.above))).trans e1⟩
  ·by_cases hj:j=i
   ·subst hj
    rw [hi] at e1;cases e1
    rw [List.getElem?_set_self hiσ] at e2
    cases e2
    exact ⟨u,r,.inl ⟨hk,by simp⟩⟩
   ·rw [List.getElem?_set_ne (Ne.symm hj)] at e2
    obtain ⟨u',r',q⟩:=hl j y v' e1 e2 e3
    refine ⟨u',r',?_⟩
    rcases q with ⟨k,e⟩ | ⟨k,c,e,z⟩
    ·refine .inl ⟨k,?_⟩
     have:y≠x:=λe=>hj (nodup_ix hN e1 (e ▸ hi))
     simp [this,e]
    ·exact .inr ⟨k,c,e,z.sameBut hs (cne y c e)⟩
  ·obtain ⟨w',z⟩:=I.cell y c e
   exact ⟨w',z.sameBut hs (cne y c e)⟩
  ·obtain ⟨e,n,ne,nf,d⟩:=I.pin p hp
   exact ⟨(hs.2 p.1 ne).trans e,n,ne,nf,d⟩
 ·have hfn:X.fn x=true:=by
   rcases hf with z | z
   ·exact z
   ·rw [z] at hk;cases hk
  obtain ⟨c,hc⟩:=I.ok.has x (.inl hk)
  obtain ⟨w',z⟩:=I.cell x c hc
  refine wpAny_storeName_cell I.ok.kind hk hc z (λh' hc' hs=>?_)
  obtain ⟨oc,hoc,hocd⟩:=id z
  refine h { s with heap:=h' } ⟨I.ok,I.os,I.bare,⟨λb o e n hb hx=>?_,λb o e n hb hx=>?_,I.base.free,λb o e hx=>?_,I.base.tups,I.base.frzs,I.base.tbls⟩,⟨m,hn.sameBut hs (Ne.symm (cne x c hc)),λj y v' e1 e2 e3=>?_⟩,λy c' e=>?_,I.free,I.freeC,λp hp=>?_,tracked ⟨oc,hoc,I.freeC x c hc⟩ hs,by simpa using I.len⟩ ⟨c,hs,.inr hc⟩
  ·exact (hs.2 b (zQ (zO (Heap.lt_size e) (I.ok.cab x c hfn hc)))).trans (I.base.keep b o e n hb hx)
  ·obtain ⟨sl,e1⟩:=I.base.slot b o e n hb hx
   exact ⟨sl,(hs.2 b (zQ (zO (Heap.lt_size e) (I.ok.cab x c hfn hc)))).trans e1⟩
  ·obtain ⟨o',e1⟩:=I.base.there b o e hx
   exact ⟨o',(hs.2 b (zQ (zO (Heap.lt_size e) (I.ok.cab x c hfn hc)))).trans e1⟩
  ·by_cases hj:j=i
   ·subst hj
    rw [hi] at e1;cases e1
    rw [List.getElem?_set_self hiσ] at e2
    cases e2
    exact ⟨u,r,.inr ⟨.inl hk,c,hc,hc'⟩⟩
   ·rw [List.getElem?_set_ne (Ne.symm hj)] at e2
    obtain ⟨u',r',q⟩:=hl j y v' e1 e2 e3
    refine ⟨u',r',?_⟩
    rcases q with q | ⟨k,c',e,z'⟩
    ·exact .inl q
    ·refine .inr ⟨k,c',e,z'.sameBut hs ?_⟩
     rintro rfl
     exact hj (nodup_ix hN e1 (I.ok.inj _ _ _ e hc ▸ hi))
  ·by_cases hcc:c'=c
   ·subst hcc;exact ⟨_,hc'⟩
   ·obtain ⟨w2,z2⟩:=I.cell y c' e
    exact ⟨w2,z2.sameBut hs hcc⟩
  ·obtain ⟨e,n,ne,nf,d⟩:=I.pin p hp
   refine ⟨(hs.2 p.1 ?_).trans e,n,ne,nf,d⟩
   intro q
   rw [q,hoc] at e
   have q':oc=p.2:=Option.some.inj e
   exact d w' (by rw [<-q'];exact hocd)
theorem store_ok {M:Model}{A:Around}{E:Value->Shared->Prop}{i:Nat}{x:Str}{v:V}{u:Value}{Q:Unit->Shared->Prop} (I:Inv X pins σ H s) (hN:X.N.Nodup) (hi:X.N[i]?=some x) (hx:Loc X.env.scope x) (r:RelV v u)
  (h:∀ s',Inv X pins (σ.set i (some v)) H s'->Q () s') (hf:X.fn x=true\/X.env.scope.names.lookup x=some .local:=by first | exact .inl rfl | exact .inr rfl | assumption):wpAny M A (storeName X.env x u) Q E s:=
 store_ok2 I hN hi hx r (λs' I' _=>h s' I') hf
theorem Inv.call' {s':Shared}{ch:List Addr} (I:Inv X pins σ H s) (ho:s'.os=s.os) (u:Un (frs X.stack) ch H H' s.heap s'.heap) (hok:HOk X.prog X.w H' s'.heap) (hg:AllBare s'.gens)
  (hch:∀ b∈ch,(b∈X.ex\/X.s₀.heap.objs.size<=b)/\b≠X.env.locals/\(∀ x c,X.env.cells.lookup x=some c->c≠b)/\∀ p∈X.pn++pins,p.1≠b):Inv X pins σ H' s':=by
 obtain ⟨h',g',d',t',o'⟩:=s'
 have e:o'=s.os:=ho
 subst e
 exact I.call (g':=g') (t':=t') (d':=d') u hok hg hch
end
abbrev XK:=Value->Option Addr->Hp->Prop
abbrev St:=List (Option V)
abbrev VK:=V->Hp->Prop
abbrev TE:=St->Hp->VK->Prop
abbrev TT:=St->Hp->(Bool->Hp->Prop)->Prop
abbrev TA:=St->Hp->(List V->Hp->Prop)->Prop
structure Ends where
 nx:St->Hp->Prop
 rt:VK
 bk:St->Hp->Prop:=λ_ _=>False
 ct:St->Hp->Prop:=λ_ _=>False
abbrev Ends.go (D:Ends) (n:St->Hp->Prop):Ends:={ D with nx:=n }
abbrev Ends.lp (D:Ends) (n:St->Hp->Prop):Ends:={ D with nx:=n,ct:=n,bk:=D.nx }
abbrev TS:=Ends->St->Hp->Prop
def EP (X:Cx) (pins:List (Addr×Obj)) (σ:St) (Q:VK) (u:Value) (s':Shared):Prop:=∃ v H',Inv X pins σ H' s'/\RelV v u/\Q v H'
def TP (X:Cx) (pins:List (Addr×Obj)) (σ:St) (Q:Bool->Hp->Prop) (b:Bool) (s':Shared):Prop:=∃ H',Inv X pins σ H' s'/\Q b H'
def AP (X:Cx) (pins:List (Addr×Obj)) (σ:St) (Q:List V->Hp->Prop) (us:List Value) (s':Shared):Prop:=∃ vs H',Inv X pins σ H' s'/\Vals vs us/\Q vs H'
def SP (X:Cx) (pins:List (Addr×Obj)) (D:Ends) (f:Flow) (s':Shared):Prop:=
 match f with
 | .next=>∃ σ' H',Inv X pins σ' H' s'/\D.nx σ' H'
 | .brk=>∃ σ' H',Inv X pins σ' H' s'/\D.bk σ' H'
 | .cont=>∃ σ' H',Inv X pins σ' H' s'/\D.ct σ' H'
 | .ret u=>∃ v σ' H',Inv X pins σ' H' s'/\RelV v u/\D.rt v H'
def PE (X:Cx) (e:Expr) (t:TE):Prop:=
 ∀ (pins:List (Addr×Obj)) (s:Shared) (σ:St) (H:Hp) (Q:VK),Inv X pins σ H s->t σ H Q->wpAny (model X.prog X.w) X.A (eval e X.env) (EP X pins σ Q) X.xe s
def PT (X:Cx) (e:Expr) (t:TT):Prop:=
 ∀ (pins:List (Addr×Obj)) (s:Shared) (σ:St) (H:Hp) (Q:Bool->Hp->Prop),Inv X pins σ H s->t σ H Q->wpAny (model X.prog X.w) X.A (isTrue e X.env (eval e X.env)) (TP X pins σ Q) X.xe s
def PW (X:Cx) (e:Expr) (t:TT):Prop:=
 ∀ (whole:Sem Value) (pins:List (Addr×Obj)) (s:Shared) (σ:St) (H:Hp) (Q:Bool->Hp->Prop),Inv X pins σ H s->t σ H Q->wpAny (model X.prog X.w) X.A (isTrue e X.env whole) (TP X pins σ Q) X.xe s
theorem PW.pt {X:Cx}{e:Expr}{t:TT} (h:PW X e t):PT X e t:=h _
def PA (X:Cx) (es:List Expr) (t:TA):Prop:=
 ∀ (pos:Pos) (pins:List (Addr×Obj)) (s:Shared) (σ:St) (H:Hp) (Q:List V->Hp->Prop),Inv X pins σ H s->t σ H Q->wpAny (model X.prog X.w) X.A (spliced (backTo pos (starEach es X.env))) (AP X pins σ Q) X.xe s
def PS (X:Cx) (st:Stmt) (t:TS):Prop:=
 ∀ (pins:List (Addr×Obj)) (s:Shared) (σ:St) (H:Hp) (D:Ends),Inv X pins σ H s->t D σ H->wpAny (model X.prog X.w) X.A (exec st X.env) (SP X pins D) X.xe s
def PSs (X:Cx) (st:List Stmt) (t:TS):Prop:=
 ∀ (pins:List (Addr×Obj)) (s:Shared) (σ:St) (H:Hp) (D:Ends),Inv X pins σ H s->t D σ H->wpAny (model X.prog X.w) X.A (execs st X.env) (SP X pins D) X.xe s
theorem thn {α:Type}{t:Sem α}{Q Q':α->Shared->Prop}{M:Model}{A:Around}{E:Value->Shared->Prop}{s:Shared} (h:wpAny M A t Q E s) (hQ:∀ a s,Q a s->Q' a s):wpAny M A t Q' E s:=wpAny_mono h hQ λ_ _ x=>x
end L2
namespace L2
open PySem PySem.Spec PyProof.Rows
section
variable {X:Cx}
def tVar (i:Nat):TE:=fun σ H Q=>∃ v,σ[i]?=some (some v)/\Q v H
def tC (v:V):TE:=λ_ H Q=>Q v H
theorem pe_var {i:Nat}{x:Str}{pos:Pos} (hN:X.N[i]?=some x) (hv:Vis X.env.scope x) (hd:(x == ("__debug__" : Str))=false:=by decide) (hcd:(x == ("__classdict__" : Str))=false:=by decide):PE X (.Name x pos) (tVar i):=by
 intro pins s σ H Q I h
 obtain ⟨v,e,h⟩:=h
 obtain ⟨m,hn,hl⟩:=I.loc
 obtain ⟨u,r,l⟩:=hl i x v hN e hv
 have fin:EP X pins σ Q u s:=⟨v,H,I,r,h⟩
 rcases l with ⟨hk,hm⟩ | ⟨hk,c,hc,hcell⟩
 ·exact wpAny_Name (wpAny_loadName_local I.ok.kind hk hn hm fin) hd
 ·rcases hk with hk | hk
  ·exact wpAny_Name (wpAny_loadName_cell I.ok.kind hk hc hcell fin) hd
  ·exact wpAny_Name (wpAny_loadName_free I.ok.kind hk hc hcell fin hcd) hd
theorem xL {i j pos}:PE X (.Constant (.int i) j pos) (tC (.int i)):=λ_ _ _ H _ I h=>wpAny_Constant_int ⟨.int i,H,I.tok _,⟨_,rfl⟩,h⟩
theorem wZ {b j pos}:PE X (.Constant (.bool b) j pos) (tC (.bl b)):=λ_ _ _ H _ I h=>Constant_bool ⟨.bl b,H,I,rfl,h⟩
theorem pe_non {j pos}:PE X (.Constant .none j pos) (tC .non):=λ_ _ _ H _ I h=>Constant_none ⟨.non,H,I,rfl,h⟩
def Gl (X:Cx) (x:Str):Prop:=X.env.kindOf x=some .globalImplicit
theorem ld_glob {E:Value->Shared->Prop}{pins:List (Addr×Obj)}{s:Shared}{σ:St}{H:Hp}{x:Str}{u:Value}{pos:Pos}{Q:Value->Shared->Prop} (I:Inv X pins σ H s) (hg:Gl X x) (hm:X.mg x=some u) (h:Q u s)
  (hd:(x == ("__debug__" : Str))=false:=by decide):wpAny (model X.prog X.w) X.A (eval (.Name x pos) X.env) Q E s:=
 Calls.Name_function_global I.ok.kind hg (Calls.loadGlobal_global (by rw [I.ok.glob];exact I.mod.glob.keeps I.bk) hm h) hd
theorem ld_blt {E:Value->Shared->Prop}{pins:List (Addr×Obj)}{s:Shared}{σ:St}{H:Hp}{x:Str}{u:Value}{pos:Pos}{Q:Value->Shared->Prop} (I:Inv X pins σ H s) (hg:Gl X x) (hm:X.mg x=none) (hv:bootBuiltins x=some u) (h:Q u s)
  (hn:x ≠ "__name__" := by decide) (hd:(x == ("__debug__" : Str))=false:=by decide):wpAny (model X.prog X.w) X.A (eval (.Name x pos) X.env) Q E s:=by
 obtain ⟨mb,h1,h2⟩:=I.mod.blt
 exact Calls.Name_function_global I.ok.kind hg (Calls.loadGlobal_builtin (by rw [I.ok.glob];exact I.mod.glob.keeps I.bk) hm (by rw [I.ok.blt];exact h1.keeps I.bk) ((h2 x hn).trans hv) h) hd
theorem pe_glob {x:Str}{v:V}{u:Value}{pos:Pos} (hg:Gl X x) (hm:X.mg x=some u) (r:RelV v u) (hd:(x == ("__debug__" : Str))=false:=by decide):PE X (.Name x pos) (tC v):=
 λ_ _ _ H _ I h=>ld_glob I hg hm ⟨v,H,I,r,h⟩ hd
theorem pe_bltn {x:Str}{v:V}{u:Value}{pos:Pos} (hg:Gl X x) (hm:X.mg x=none) (hv:bootBuiltins x=some u) (r:RelV v u) (hn:x ≠ "__name__" := by decide) (hd:(x == ("__debug__" : Str))=false:=by decide):PE X (.Name x pos) (tC v):=
 λ_ _ _ H _ I h=>ld_blt I hg hm hv ⟨v,H,I,r,h⟩ hn hd
variable {a b:Expr}{ta tb:TE}{pos:Pos}
def PC (X:Cx) (op:CmpOp) (a b:Expr) (t:TE):Prop:=
 ∀ (pins:List (Addr×Obj)) (s:Shared) (σ:St) (H:Hp) (Q:VK),Inv X pins σ H s->t σ H Q ->
  wpAny (model X.prog X.w) X.A (eval a X.env) (λv s₁=>wpAny (model X.prog X.w) X.A (eval b X.env) (λu s₂=>wpAny (model X.prog X.w) X.A (compareOp op v u) (EP X pins σ Q) X.xe s₂) X.xe s₁) X.xe s
theorem nobehind (b:Expr) {op:CmpOp} (h:op≠.In) (h2:op≠.NotIn):behindInMarks op b=false:=by
 have e1:(op == CmpOp.In)=false:=by cases op <;> first | rfl | exact absurd rfl h
 have e2:(op == CmpOp.NotIn)=false:=by cases op <;> first | rfl | exact absurd rfl h2
 cases b <;> simp [behindInMarks,e1,e2]
def tIsN (ta:TE):TE:=fun σ H Q=>ta σ H λx H1=>Q (.bl (decide (x=.non))) H1
def tNotN (ta:TE):TE:=fun σ H Q=>ta σ H λx H1=>Q (.bl (!decide (x=.non))) H1
theorem RelV.none_iff {x:V}{v:Value} (r:RelV x v):(v == Value.none)=decide (x=.non):=by
 cases x with
 | non=>cases r;rfl
 | bl _=>cases r;rfl
 | int _=>obtain ⟨t,rfl⟩:=r;rfl
 | str _=>obtain ⟨t,rfl⟩:=r;rfl
 | byt _=>obtain ⟨t,rfl⟩:=r;rfl
 | flt _=>obtain ⟨t,rfl⟩:=r;rfl
 | ref _=>cases r;rfl
 | ty _=>cases r;rfl
theorem pc_isN {j pos'} (ha:PE X a ta):PC X .Is a (.Constant .none j pos') (tIsN ta):=by
 intro pins s σ H Q I h
 refine thn (ha pins s σ H _ I h) λv s1 ⟨x,H1,I1,r1,q1⟩=>?_
 exact Constant_none (is_none_gen ⟨.bl _,H1,I1,by rw [r1.none_iff];rfl,q1⟩)
theorem pc_notN {j pos'} (ha:PE X a ta):PC X .IsNot a (.Constant .none j pos') (tNotN ta):=by
 intro pins s σ H Q I h
 refine thn (ha pins s σ H _ I h) λv s1 ⟨x,H1,I1,r1,q1⟩=>?_
 exact Constant_none (isnot_none_gen ⟨.bl _,H1,I1,by rw [r1.none_iff];rfl,q1⟩)
def tB (t:TE):TT:=fun σ H Q=>t σ H λx H1=>∃ c,x=.bl c/\Q c H1
theorem pe_cmp {op:CmpOp}{t:TE} (h:PC X op a b t) (h1:behindInMarks op b=false:=by first | exact nobehind _ (by decide) (by decide) | rfl):PE X (.Compare a [op] [b] pos) t:=λpins s σ H Q I hw=>wpAny_Compare1 (h pins s σ H Q I hw) h1
theorem pt_cmp {op:CmpOp}{t:TE} (h:PC X op a b t) (h1:behindInMarks op b=false:=by first | exact nobehind _ (by decide) (by decide) | rfl):PT X (.Compare a [op] [b] pos) (tB t):=by
 intro pins s σ H Q I hw
 refine wpAny_isTrue_Compare1 (thn (h pins s σ H _ I hw) λv s1 h1=>thn h1 λu s2 h2=>thn h2 λc s3 ⟨x,H1,I1,r1,q1⟩=>?_) h1
 obtain ⟨d,rfl,q⟩:=q1
 cases r1
 exact wpAny_truthy_bool ⟨H1,I1,q⟩
theorem xz {e:Expr}{t:TE} (h:PE X e t) (he:∀ whole,isTrue e X.env whole=(do let v <- whole;standAt e.pos;holding [v] (truthy v)):=by intro _;rfl):PT X e (tB t):=by
 intro pins s σ H Q I hw
 refine isTrue_plain (thn (h pins s σ H _ I hw) λv s1 ⟨x,H1,I1,r1,q1⟩=>?_) (he _)
 obtain ⟨d,rfl,q⟩:=q1
 cases r1
 exact wpAny_truthy_bool ⟨H1,I1,q⟩
variable {tA tB':TT}{rest:List Expr}
def tAnd (t u:TT):TT:=fun σ H Q=>t σ H λc H1=>if c=true then u σ H1 Q else Q false H1
def tOr (t u:TT):TT:=fun σ H Q=>t σ H λc H1=>if c=true then Q true H1 else u σ H1 Q
def tNot (t:TT):TT:=fun σ H Q=>t σ H λc H1=>Q (!c) H1
theorem pw_and1 (ha:PT X a tA):PW X (.BoolOp .And [a] pos) tA:=by
 intro wh pins s σ H Q I h
 refine isTrue_and (thn (ha pins s σ H Q I h) λc s1 e=>?_)
 cases c with
 | true=>exact isTrue_and_nil e
 | false=>exact e
theorem pw_or1 (ha:PT X a tA):PW X (.BoolOp .Or [a] pos) tA:=by
 intro wh pins s σ H Q I h
 refine isTrue_or (thn (ha pins s σ H Q I h) λc s1 e=>?_)
 cases c with
 | false=>exact isTrue_or_nil e
 | true=>exact e
theorem pw_and (ha:PT X a tA) (hb:PW X (.BoolOp .And (b::rest) pos) tB'):PW X (.BoolOp .And (a::b::rest) pos) (tAnd tA tB'):=by
 intro wh pins s σ H Q I h
 refine isTrue_and (thn (ha pins s σ H _ I h) λc s1 ⟨H1,I1,q1⟩=>?_)
 cases c with
 | true=>exact hb wh pins s1 σ H1 Q I1 q1
 | false=>exact ⟨H1,I1,q1⟩
theorem pw_or (ha:PT X a tA) (hb:PW X (.BoolOp .Or (b::rest) pos) tB'):PW X (.BoolOp .Or (a::b::rest) pos) (tOr tA tB'):=by
 intro wh pins s σ H Q I h
 refine isTrue_or (thn (ha pins s σ H _ I h) λc s1 ⟨H1,I1,q1⟩=>?_)
 cases c with
 | true=>exact ⟨H1,I1,q1⟩
 | false=>exact hb wh pins s1 σ H1 Q I1 q1
theorem wF (ha:PT X a tA):PT X (.UnaryOp .Not a pos) (tNot tA):=by
 intro pins s σ H Q I h
 exact isTrue_not (ha pins s σ H (λc H1=>Q (!c) H1) I h)
def tAndV (ta tb:TE):TE:=fun σ H Q=>ta σ H λx H1=>∃ c,x=.bl c/\if c=true then tb σ H1 Q else Q (.bl false) H1
def tOrV (ta tb:TE):TE:=fun σ H Q=>ta σ H λx H1=>∃ c,x=.bl c/\if c=true then Q (.bl true) H1 else tb σ H1 Q
def tNotV (ta:TE):TE:=fun σ H Q=>ta σ H λx H1=>∃ c,x=.bl c/\Q (.bl (!c)) H1
theorem pe_one {op}{t:TE} (h:PE X a t):PE X (.BoolOp op [a] pos) t:=λpins s σ H Q I hw=>BoolOp_one (h pins s σ H Q I hw)
theorem pe_and (ha:PE X a ta) (hb:PE X (.BoolOp .And (b::rest) pos) tb):PE X (.BoolOp .And (a::b::rest) pos) (tAndV ta tb):=by
 intro pins s σ H Q I h
 refine BoolOp_and (thn (ha pins s σ H _ I h) λv s1 ⟨x,H1,I1,r1,q1⟩=>?_)
 obtain ⟨c,rfl,q1⟩:=q1
 cases r1
 refine wpAny_truthy_bool ?_
 cases c with
 | true=>exact hb pins s1 σ H1 Q I1 q1
 | false=>exact ⟨.bl false,H1,I1,rfl,q1⟩
theorem pe_or (ha:PE X a ta) (hb:PE X (.BoolOp .Or (b::rest) pos) tb):PE X (.BoolOp .Or (a::b::rest) pos) (tOrV ta tb):=by
 intro pins s σ H Q I h
 refine BoolOp_or (thn (ha pins s σ H _ I h) λv s1 ⟨x,H1,I1,r1,q1⟩=>?_)
 obtain ⟨c,rfl,q1⟩:=q1
 cases r1
 refine wpAny_truthy_bool ?_
 cases c with
 | false=>exact hb pins s1 σ H1 Q I1 q1
 | true=>exact ⟨.bl true,H1,I1,rfl,q1⟩
theorem pe_not (ha:PE X a ta):PE X (.UnaryOp .Not a pos) (tNotV ta):=by
 intro pins s σ H Q I h
 refine UnaryOp_ (thn (ha pins s σ H _ I h) λv s1 ⟨x,H1,I1,r1,q1⟩=>?_)
 obtain ⟨c,rfl,q1⟩:=q1
 cases r1
 exact not_of (wpAny_truthy_bool ⟨.bl (!c),H1,I1,rfl,q1⟩)
def tIf (t:TT) (ta tb:TE):TE:=fun σ H Q=>t σ H λc H1=>if c=true then ta σ H1 Q else tb σ H1 Q
theorem pe_ifExp {c:Expr} (hc:PT X c tA) (ha:PE X a ta) (hb:PE X b tb):PE X (.IfExp c a b pos) (tIf tA ta tb):=by
 intro pins s σ H Q I h
 refine wpAny_IfExp (thn (hc pins s σ H _ I h) λd s1 ⟨H1,I1,q1⟩=>?_)
 cases d with
 | true=>exact ha pins s1 σ H1 Q I1 q1
 | false=>exact hb pins s1 σ H1 Q I1 q1
end
end L2
namespace L2
open PySem PySem.Spec PyProof.Rows
def SqL (K:PySem.W.Frag) (H:Hp) (a:Addr) (xs:List V):Prop:=
 Rd H a (.lst xs) \/
  ∃ (o:Obj) (its:Array Value) (n:Nat),K.lookup a=some o/\o.cls=.type "list" /\ o.dict=none/\o.data=.seq its n/\its.size<=sizeLine/\Vals xs its.toList
def SqT (K:PySem.W.Frag) (H:Hp) (a:Addr) (xs:List V):Prop:=
 Rd H a (.tup xs) \/
  ∃ (o:Obj) (its:Array Value) (n:Nat),K.lookup a=some o/\o.cls=.type "tuple" /\ o.data=.seq its n/\its.size<=sizeLine/\Vals xs its.toList
def absV:Value->Option V
 | .none=>some .non
 | .bool b=>some (.bl b)
 | .int i _=>some (.int i)
 | .str x _=>some (.str x)
 | .bytes b _=>some (.byt b)
 | .float b _=>some (.flt b)
 | .ref a=>some (.ref a)
 | .type n=>some (.ty n)
 | _=>none
theorem RelV.abs {x:V}{u:Value} (r:RelV x u):absV u=some x:=by
 cases x with
 | non=>cases r;rfl
 | bl _=>cases r;rfl
 | int _=>obtain ⟨t,rfl⟩:=r;rfl
 | str _=>obtain ⟨t,rfl⟩:=r;rfl
 | byt _=>obtain ⟨t,rfl⟩:=r;rfl
 | flt _=>obtain ⟨t,rfl⟩:=r;rfl
 | ref _=>cases r;rfl
 | ty _=>cases r;rfl
theorem RelV.inj {x y:V}{u:Value} (r:RelV x u) (q:RelV y u):x=y:=Option.some.inj (r.abs.symm.trans q.abs)
theorem Vals.inj:∀ {xs ys:List V}{us:List Value},Vals xs us->Vals ys us->xs=ys
 | _,_,_,.nil,.nil=>rfl
 | _,_,_,.cons r t,.cons r' t'=>by rw [r.inj r',Vals.inj t t']
section
variable {X:Cx}{pins:List (Addr×Obj)}{σ:St}{H:Hp}{s:Shared}{a:Addr}{xs ys:List V}
theorem SqL.of {K:PySem.W.Frag} (h:H a=some (.lst xs)):SqL K H a xs:=.inl (.inl h)
theorem SqT.of {K:PySem.W.Frag} (h:H a=some (.tup xs)):SqT K H a xs:=.inl (.inl h)
theorem Inv.list (I:Inv X pins σ H s) (h:SqL X.K H a xs):∃ its:List Value,Vals xs its/\PlainL s.heap a its.toArray/\xs.length<=sizeLine:=by
 rcases h with h | ⟨o,its,n,hk,hc,hd,hs,hz,r⟩
 ·obtain ⟨z,its,n,r,e⟩:=h.ok I.hok
  exact ⟨its,r,⟨_,n,e,rfl,rfl,rfl⟩,z⟩
 ·refine ⟨its.toList,r,⟨o,n,I.kIn a o hk,hc,hd,by simpa using hs⟩,?_⟩
  have e:=r.length
  simp only [Array.length_toList] at e
  omega
theorem Inv.tuple (I:Inv X pins σ H s) (h:SqT X.K H a xs):∃ its:List Value,Vals xs its/\IsTup s.heap a its.toArray/\xs.length<=sizeLine:=by
 rcases h with h | ⟨o,its,n,hk,hc,hs,hz,r⟩
 ·obtain ⟨z,its,r,p⟩:=h.ok I.hok
  exact ⟨its,r,p,z.1⟩
 ·refine ⟨its.toList,r,⟨o,I.kIn a o hk,hc,n,by simpa using hs⟩,?_⟩
  have e:=r.length
  simp only [Array.length_toList] at e
  omega
theorem Inv.list_inj (I:Inv X pins σ H s) (h:SqL X.K H a xs) (h':SqL X.K H a ys):xs=ys:=by
 obtain ⟨its,r,⟨o,n,e,_,_,d⟩,_⟩:=I.list h
 obtain ⟨its',r',⟨o',n',e',_,_,d'⟩,_⟩:=I.list h'
 rw [e] at e';cases e'
 rw [d] at d'
 injection d' with d1 _
 have:its=its':=by simpa using congrArg Array.toList d1
 subst this
 exact r.inj r'
theorem Inv.tuple_inj (I:Inv X pins σ H s) (h:SqT X.K H a xs) (h':SqT X.K H a ys):xs=ys:=by
 obtain ⟨its,r,⟨o,e,_,n,d⟩,_⟩:=I.tuple h
 obtain ⟨its',r',⟨o',e',_,n',d'⟩,_⟩:=I.tuple h'
 rw [e] at e';cases e'
 rw [d] at d'
 injection d' with d1 _
 have:its=its':=by simpa using congrArg Array.toList d1
 subst this
 exact r.inj r'
end
abbrev Cx.wish (X:Cx) (E:Value->Shared->Prop):Cx:={ X with xe:=E }
abbrev Cx.nox (X:Cx):Cx:=X.wish λ_ _=>False
theorem Cx.Ok.wish {X:Cx} (ok:X.Ok) (E:Value->Shared->Prop):(X.wish E).Ok:=
 ⟨ok.mod,ok.kind,ok.glob,ok.blt,ok.above,ok.inj,ok.has,ok.cab,ok.hd,ok.frames,ok.stk,ok.exf,ok.bs,ok.bsz,ok.noex,ok.exfs,ok.funs,ok.frf⟩
theorem Cx.Ok.unwish {X:Cx}{E:Value->Shared->Prop} (ok:(X.wish E).Ok):X.Ok:=
 ⟨ok.mod,ok.kind,ok.glob,ok.blt,ok.above,ok.inj,ok.has,ok.cab,ok.hd,ok.frames,ok.stk,ok.exf,ok.bs,ok.bsz,ok.noex,ok.exfs,ok.funs,ok.frf⟩
section
variable {X:Cx}{pins:List (Addr×Obj)}{σ:St}{H:Hp}{s:Shared}{E:Value->Shared->Prop}
theorem Inv.wish (I:Inv X pins σ H s) (E:Value->Shared->Prop):Inv (X.wish E) pins σ H s:=⟨I.ok.wish E,I.os,I.bare,I.base,I.loc,I.cell,I.free,I.freeC,I.pin,I.hok,I.len⟩
theorem Inv.unwish (I:Inv (X.wish E) pins σ H s):Inv X pins σ H s:=⟨I.ok.unwish,I.os,I.bare,I.base,I.loc,I.cell,I.free,I.freeC,I.pin,I.hok,I.len⟩
theorem SP.unwish {D:Ends}{f:Flow}{s':Shared} (h:SP (X.wish E) pins D f s'):SP X pins D f s':=by
 cases f with
 | next=>obtain ⟨σ',H',I,q⟩:=h;exact ⟨σ',H',I.unwish,q⟩
 | brk=>obtain ⟨σ',H',I,q⟩:=h;exact ⟨σ',H',I.unwish,q⟩
 | cont=>obtain ⟨σ',H',I,q⟩:=h;exact ⟨σ',H',I.unwish,q⟩
 | ret u=>obtain ⟨v,σ',H',I,r,q⟩:=h;exact ⟨v,σ',H',I.unwish,r,q⟩
theorem PE.nox {e:Expr}{t:TE} (h:PE X.nox e t):PE X e t:=λpins s σ H Q I hw=>
 wpAny_mono (h pins s σ H Q (I.wish _) hw) (λ_ _ ⟨v,H',I',r,q⟩=>⟨v,H',I'.unwish,r,q⟩) λ_ _ z=>False.elim z
theorem PSs.nox {st:List Stmt}{t:TS} (h:PSs X.nox st t):PSs X st t:=λpins s σ H D I hw=>
 wpAny_mono (h pins s σ H D (I.wish _) hw) (λ_ _ q=>q.unwish) λ_ _ z=>False.elim z
end
section
variable {X:Cx}{st:Stmt}{rest:List Stmt}{t u:TS}{e:Expr}{te:TE}{pos:Pos}
def tNext:TS:=λD σ H=>D.nx σ H
def tSeq (t u:TS):TS:=λD σ H=>t (D.go (u D)) σ H
theorem xY:PSs X [] tNext:=λ_ _ σ H _ I h=>wpAny_execs_nil ⟨σ,H,I,h⟩
theorem pss_cons (h1:PS X st t) (h2:PSs X rest u):PSs X (st::rest) (tSeq t u):=by
 intro pins s σ H D I h
 refine wpAny_execs_cons (thn (h1 pins s σ H (D.go (u D)) I h) λf s1 q=>?_)
 cases f with
 | next=>
  obtain ⟨σ',H',I',q⟩:=q
  exact h2 pins s1 σ' H' D I' q
 | ret v=>exact q
 | brk=>exact q
 | cont=>exact q
theorem pss_one (h1:PS X st t):PSs X [st] t:=by
 intro pins s σ H D I h
 refine wpAny_execs_cons (thn (h1 pins s σ H D I h) λf s1 q=>?_)
 cases f with
 | next=>exact wpAny_execs_nil q
 | ret v=>exact q
 | brk=>exact q
 | cont=>exact q
theorem Inv.quiet {pins:List (Addr×Obj)}{σ:St}{H:Hp}{s:Shared} (I:Inv X pins σ H s):interactive X.env=false:=by simp [interactive,I.ok.kind]
def tDrop (te:TE):TS:=λD σ H=>te σ H λ_ H1=>D.nx σ H1
theorem wP (he:PE X e te) (hs:swapsWith e none pos.line X.env=pure false:=by rfl):PS X (.Expr e pos) (tDrop te):=by
 intro pins s σ H D I h
 exact wpAny_Expr_any (thn (he pins s σ H _ I h) λv s1 ⟨x,H1,I1,r1,q1⟩=>⟨σ,H1,I1,q1⟩) I.quiet hs
def tRet (te:TE):TS:=λD σ H=>te σ H D.rt
theorem xV (he:PE X e te):PS X (.Return (some e) pos) (tRet te):=by
 intro pins s σ H D I h
 exact wpAny_Return_some (thn (he pins s σ H _ I h) λv s1 ⟨x,H1,I1,r1,q1⟩=>⟨x,σ,H1,I1,r1,q1⟩)
def tIfS (c:TT) (t u:TS):TS:=λD σ H=>c σ H λb H1=>if b=true then t D σ H1 else u D σ H1
theorem xj {c:Expr}{a b:List Stmt}{tc:TT} (hc:PT X c tc) (ha:PSs X a t) (hb:PSs X b u):PS X (.If c a b pos) (tIfS tc t u):=by
 intro pins s σ H D I h
 refine wpAny_If (thn (hc pins s σ H _ I h) λd s1 ⟨H1,I1,q1⟩=>?_)
 cases d with
 | true=>exact ha pins s1 σ H1 D I1 q1
 | false=>exact hb pins s1 σ H1 D I1 q1
def tNever:TS:=λ_ _ _=>False
theorem ps_never:PS X st tNever:=λ_ _ _ _ _ _ h=>h.elim
end
abbrev TG:=V->St->Hp->(St->Hp->Prop)->Prop
abbrev TGs:=List V->St->Hp->(St->Hp->Prop)->Prop
def PG (X:Cx) (target:Expr) (t:TG):Prop:=
 ∀ (pins:List (Addr×Obj)) (s:Shared) (σ:St) (H:Hp) (v:V) (u:Value) (Q:St->Hp->Prop),Inv X pins σ H s->RelV v u->t v σ H Q ->
  wpAny (model X.prog X.w) X.A (assign target X.env u) (λ_ s'=>∃ σ' H',Inv X pins σ' H' s'/\Q σ' H') X.xe s
def PGs (X:Cx) (ts:List Expr) (t:TGs):Prop:=
 ∀ (pins:List (Addr×Obj)) (s:Shared) (σ:St) (H:Hp) (vs:List V) (us:List Value) (Q:St->Hp->Prop),Inv X pins σ H s->Vals vs us->t vs σ H Q ->
  wpAny (model X.prog X.w) X.A (assignInOrder ((assignEach ts X.env).map (·.2)) us) (λ_ s'=>∃ σ' H',Inv X pins σ' H' s'/\Q σ' H') X.xe s
abbrev TSet:=V->V->V->Hp->(Hp->Prop)->Prop
def PSet (X:Cx) (t:TSet):Prop:=
 ∀ (pins:List (Addr×Obj)) (s:Shared) (σ:St) (H:Hp) (o i v:V) (ov iv u:Value) (Q:Hp->Prop),Inv X pins σ H s->RelV o ov->RelV i iv->RelV v u->t o i v H Q ->
  wpAny (model X.prog X.w) X.A (setItem ov iv u) (λ_ s'=>∃ H',Inv X pins σ H' s'/\Q H') X.xe s
abbrev TIp:=V->V->Hp->VK->Prop
def PIp (X:Cx) (op:Operator) (t:TIp):Prop:=
 ∀ (pins:List (Addr×Obj)) (s:Shared) (σ:St) (H:Hp) (x y:V) (v u:Value) (Q:VK),Inv X pins σ H s->RelV x v->RelV y u->t x y H Q ->
  wpAny (model X.prog X.w) X.A (inplaceOp op v u) (EP X pins σ Q) X.xe s
section
variable {X:Cx}{pos:Pos}
def gName (i:Nat):TG:=λv σ H Q=>Q (σ.set i (some v)) H
theorem xN {i:Nat}{x:Str} (hN:X.N.Nodup) (hi:X.N[i]?=some x) (hx:Loc X.env.scope x) (hf:X.fn x=true\/X.env.scope.names.lookup x=some .local:=by first | exact .inl rfl | exact .inr rfl | assumption):PG X (.Name x pos) (gName i):=by
 intro pins s σ H v u Q I r h
 exact wpAny_assign_Name (store_ok I hN hi hx r (λs' I'=>⟨_,H,I',h⟩) hf)
def gNil:TGs:=λvs σ H Q=>vs=[]/\Q σ H
def gCons (t:TG) (u:TGs):TGs:=λvs σ H Q=>∃ v r,vs=v::r/\t v σ H fun σ' H'=>u r σ' H' Q
theorem xg:PGs X [] gNil:=by
 intro pins s σ H vs us Q I r h
 obtain ⟨e,h⟩:=h
 subst e
 cases r
 exact assignInOrder_nil ⟨σ,H,I,h⟩
theorem xM {e:Expr}{es:List Expr}{t:TG}{u:TGs} (h1:PG X e t) (h2:PGs X es u)
  (hs:(assignEach (e::es) X.env).map (·.2)=assign e X.env::(assignEach es X.env).map (·.2):=by rfl):PGs X (e::es) (gCons t u):=by
 intro pins s σ H vs us Q I r h
 obtain ⟨v,vr,e1,h⟩:=h
 subst e1
 cases r with
 | cons r rr=>
  rw [hs]
  refine assignInOrder_cons (thn (h1 pins s σ H _ _ _ I r h) λ_ s1 ⟨σ1,H1,I1,q1⟩=>?_)
  exact h2 pins s1 σ1 H1 _ _ Q I1 rr q1
def gTup (K:PySem.W.Frag) (n:Nat) (t:TGs):TG:=λv σ H Q=>∃ a xs,v=.ref a/\SqT K H a xs/\xs.length=n/\t xs σ H Q
theorem pg_tup {es:List Expr}{k:Nat}{t:TGs}{n:Nat} (hc:X.calm=true) (h:PGs X es t)
  (hn:(assignEach es X.env).length=n:=by rfl) (hst:(assignEach es X.env).findIdx? (·.1)=none:=by rfl):PG X (.Tuple es k pos) (gTup X.K n t):=by
 intro pins s σ H v u Q I r hw
 obtain ⟨a,xs,e1,hq,hl,hw⟩:=hw
 subst e1
 cases r
 obtain ⟨its,rv,ht,hz⟩:=I.tuple hq
 refine assign_Tuple_tuple (I.ok.hd hc) ht (by simp [hn,<- hl,rv.length]) hst λh' hx=>?_
 have I1:Inv X pins σ H { s with heap:=h' }:=I.kept (t':=s.toks) λb o e=>hx b o (zQ (Heap.lt_size e)) e
 exact h pins _ σ H xs _ Q I1 (by simpa using rv) hw
def gSub (to ti:TE) (t:TSet):TG:=λv σ H Q=>to σ H λo H1=>ti σ H1 λi H2=>t o i v H2 λH3=>Q σ H3
theorem pg_sub {o i:Expr}{to ti:TE}{t:TSet} (ho:PE X o to) (hi:PE X i ti) (hs:PSet X t)
  (ha:∀ v,assign (.Subscript o i pos) X.env v=(do
   let ov <- holding [v] (eval o X.env)
   let iv <- holding [v,ov] (eval i X.env)
   standAt pos
   holding [v,ov,iv] (setItem ov iv v)
   release [v,ov,iv] []):=by intro _;rfl):PG X (.Subscript o i pos) (gSub to ti t):=by
 intro pins s σ H v u Q I r h
 rw [ha]
 refine wpAny_bind (wpAny_holding (thn (ho pins s σ H _ I h) λov s1 ⟨x,H1,I1,r1,q1⟩=>?_))
 refine wpAny_bind (wpAny_holding (thn (hi pins s1 σ H1 _ I1 q1) λiv s2 ⟨y,H2,I2,r2,q2⟩=>?_))
 refine wpAny_bind (wpAny_standAt (wpAny_bind (wpAny_holding (thn (hs pins s2 σ H2 x y v ov iv u _ I2 r1 r2 r q2) λ_ s3 ⟨H3,I3,q3⟩=>?_))))
 exact wpAny_release ⟨σ,H3,I3,q3⟩
def tAsg (te:TE) (g:TG):TS:=λD σ H=>te σ H λx H1=>g x σ H1 D.nx
theorem xv {tg e:Expr}{te:TE}{g:TG} (he:PE X e te) (hg:PG X tg g) (hs:swapsWithSole [tg] e pos.line X.env=pure false:=by rfl) (hw:swappedStores [tg] e X.env=pure none:=by rfl)
  (h1:(assignEach [tg] X.env).map (·.2)=[assign tg X.env]:=by rfl):PS X (.Assign [tg] e pos) (tAsg te g):=by
 intro pins s σ H D I h
 refine wpAny_Assign_stores (thn (he pins s σ H _ I h) λv s1 ⟨x,H1,I1,r1,q1⟩=>?_) hs hw
 rw [h1]
 exact thn (hg pins s1 σ H1 x v _ I1 r1 q1) λ_ s2 q=>q
theorem xT {i:Nat}{x:Str}{e:Expr}{te:TE}{pos':Pos} (hN:X.N.Nodup) (hi:X.N[i]?=some x) (hx:Loc X.env.scope x) (he:PE X e te) (hs:swapsWith e (some (.Name x pos')) pos.line X.env=pure false:=by rfl) (hf:X.fn x=true\/X.env.scope.names.lookup x=some .local:=by first | exact .inl rfl | exact .inr rfl | assumption) :
  PS X (.Assign [.Name x pos'] e pos) (tAsg te (gName i)):=by
 intro pins s σ H D I h
 refine wpAny_Assign_Name (thn (he pins s σ H _ I h) λv s1 ⟨y,H1,I1,r1,q1⟩=>?_) hs
 exact store_ok I1 hN hi hx r1 (λs2 I2=>⟨_,H1,I2,q1⟩) hf
def tAugS (to ti te:TE) (tget:V->V->Hp->VK->Prop) (tip:TIp) (tset:TSet):TS:=λD σ H=>to σ H λo H1=>ti σ H1 λi H2=>tget o i H2 λx H3=>te σ H3 λy H4=>tip x y H4 λz H5=>tset o i z H5 λH6=>D.nx σ H6
def PGet (X:Cx) (t:V->V->Hp->VK->Prop):Prop:=
 ∀ (pins:List (Addr×Obj)) (s:Shared) (σ:St) (H:Hp) (o i:V) (ov iv:Value) (Q:VK),Inv X pins σ H s->RelV o ov->RelV i iv->t o i H Q ->
  wpAny (model X.prog X.w) X.A (getItem ov iv) (EP X pins σ Q) X.xe s
theorem ps_augS {o i e:Expr}{to ti te:TE}{tget:V->V->Hp->VK->Prop}{tip:TIp}{tset:TSet}{op:Operator}{tpos:Pos} (ho:PE X o to) (hi:PE X i ti) (hg:PGet X tget) (he:PE X e te) (hp:PIp X op tip) (hs:PSet X tset)
  (ha:∀ ov iv new,augStore i ov iv new=(do holding [new,ov,iv] (setItem ov iv new);release [new,ov,iv] [];pure .next):=by intros;rfl):PS X (.AugAssign (.Subscript o i tpos) op e pos) (tAugS to ti te tget tip tset):=by
 intro pins s σ H D I h
 refine wpAny_AugAssign_SubscriptAny (thn (ho pins s σ H _ I h) λov s1 ⟨x1,H1,I1,r1,q1⟩=>?_) ha
 refine thn (hi pins s1 σ H1 _ I1 q1) λiv s2 ⟨x2,H2,I2,r2,q2⟩=>?_
 refine thn (hg pins s2 σ H2 x1 x2 ov iv _ I2 r1 r2 q2) λold s3 ⟨x3,H3,I3,r3,q3⟩=>?_
 refine thn (he pins s3 σ H3 _ I3 q3) λv s4 ⟨x4,H4,I4,r4,q4⟩=>?_
 refine thn (hp pins s4 σ H4 x3 x4 old v _ I4 r3 r4 q4) λnew s5 ⟨x5,H5,I5,r5,q5⟩=>?_
 exact thn (hs pins s5 σ H5 x1 x2 x5 ov iv new _ I5 r1 r2 r5 q5) λ_ s6 ⟨H6,I6,q6⟩=>⟨σ,H6,I6,q6⟩
def ipI (f:Int->Int->Int):TIp:=λx y H Q=>∃ i j,x=.int i/\y=.int j/\Q (.int (f i j)) H
theorem ip_add:PIp X .Add (ipI λi j=>i + j):=by
 intro pins s σ H x y v u Q I r1 r2 h
 obtain ⟨i,j,e1,e2,q⟩:=h
 subst e1;subst e2
 obtain ⟨t,rfl⟩:=r1
 obtain ⟨t',rfl⟩:=r2
 exact iadd_int ⟨.int _,H,I.tok _,⟨_,rfl⟩,q⟩
end
section
variable {X:Cx}{pos:Pos}
def tWhile (c:TT) (tb:TS):TS:=λD σ H=>∃ W:Nat->St->Hp->Prop,(∃ m,W m σ H)/\∀ m σ H,W m σ H ->
 c σ H λb H1=>if b=true then ∃ N:St->Hp->Prop,(∀ σ' H',N σ' H'->∃ m',m' < m/\W m' σ' H')/\tb (D.lp N) σ H1 else D.nx σ H1
theorem ps_while {c:Expr}{body:List Stmt}{tc:TT}{tb:TS} (hp:PassesOwn (model X.prog X.w) X.A X.env X.xe) (hc:PT X c tc) (hb:PSs X body tb):PS X (.While c body [] pos) (tWhile tc tb):=by
 intro pins s σ H D I h
 obtain ⟨W,⟨m0,w0⟩,turn⟩:=h
 refine wpAny_While (codeAny_whileLoop (λn s'=>∃ σ' H',Inv X pins σ' H' s'/\W n σ' H') ?_ m0 ⟨σ,H,I,w0⟩)
 rintro n s1 ⟨σ1,H1,I1,w1⟩
 refine wpAny_passesOwn hp (thn (hc pins s1 σ1 H1 _ I1 (turn n σ1 H1 w1)) λb s2 ⟨H2,I2,q2⟩=>?_)
 cases b with
 | true=>
  obtain ⟨N,hN,q2⟩:=q2
  rw [if_pos rfl]
  refine wpAny_passesOwn hp (thn (hb pins s2 σ1 H2 _ I2 q2) λf s3 q3=>?_)
  cases f with
  | next=>
   obtain ⟨σ3,H3,I3,n3⟩:=q3
   obtain ⟨m',hm,w3⟩:=hN σ3 H3 n3
   exact ⟨m',hm,σ3,H3,I3,w3⟩
  | cont=>
   obtain ⟨σ3,H3,I3,n3⟩:=q3
   obtain ⟨m',hm,w3⟩:=hN σ3 H3 n3
   exact ⟨m',hm,σ3,H3,I3,w3⟩
  | brk=>exact q3
  | ret v=>exact q3
 | false=>
  rw [if_neg zM]
  exact wpAny_execs_nil ⟨σ1,H2,I2,q2⟩
end
structure It where
 go:Nat->Hp->Prop
 yld:Nat->Hp->V->Hp->Prop
 stop:Nat->Hp->Prop
def FpOk (X:Cx) (pins:List (Addr×Obj)) (H:Hp) (b:Addr):Prop:=
 H b=none/\b≠X.env.locals/\b ∉ X.fs/\(b∈X.ex\/X.s₀.heap.objs.size<=b)/\(∀ x c,X.env.cells.lookup x=some c->c≠b)/\∀ p∈X.pn++pins,p.1≠b
theorem Inv.fpOk {X:Cx}{pins:List (Addr×Obj)}{σ:St}{H H':Hp}{s:Shared}{b:Addr} (I:Inv X pins σ H s) (hb:s.heap.objs.size<=b) (hn:H' b=none):FpOk X pins H' b:=by
 refine ⟨hn,yF (zO I.lt hb),I.nofs hb,.inr (z6 I.sz hb),λx c e z=>?_,λp hp z=>?_⟩
 ·obtain ⟨v,q⟩:=I.cell x c e
  exact absurd (zO q.lt (by rw [z];exact hb)) (z8 _)
 ·exact absurd (zO (Heap.lt_size (I.pin p hp).1) (by rw [z];exact hb)) (z8 _)
structure Turn (P:Program) (w:World) (K:PySem.W.Frag) (tg:Expr) (J:It) (fp:List Addr) (it:Addr) (tn:Nat->Heap->Prop):Prop where
 mem:it∈fp
 obj:∀ i h,tn i h->∀ b∈fp,∃ o,h.get? b=some o/\∀ v,o.data≠.cell v
 keep:∀ i h h',tn i h->(∀ b∈fp,∀ o,h.get? b=some o->h'.get? b=some o)->tn i h'
 item:∀ (X:Cx),X.prog=P->X.w=w->X.K=K->X.calm=true->∀ (i:Nat) (pins:List (Addr×Obj)) (s:Shared) (σ:St) (H:Hp) (E:Value->Shared->Prop),Inv X pins σ H s->(∀ b∈fp,FpOk X pins H b)->tn i s.heap->J.go i H ->
  wpAny (model P w) X.A (pyNext (.ref it)) (λr s1=>∃ u,r=some u /\
   wpAny (model P w) X.A (letOwnedTupleGo tg (.ref it) u) (λ_ s2=>∃ x H',Inv X pins σ H' s2/\RelV x u/\J.yld i H x H'/\tn (i + 1) s2.heap/\∀ b∈fp,H' b=none) E s1) E s
 done:∀ (X:Cx),X.prog=P->X.w=w->X.K=K->X.calm=true->∀ (i:Nat) (pins:List (Addr×Obj)) (s:Shared) (σ:St) (H:Hp) (E:Value->Shared->Prop),Inv X pins σ H s->(∀ b∈fp,FpOk X pins H b)->tn i s.heap->J.stop i H ->
  wpAny (model P w) X.A (pyNext (.ref it)) (λr s1=>r=none/\Inv X pins σ H s1) E s
 self:∀ (A:Around) (i:Nat) (s:Shared) (Q:Value->Shared->Prop) (E:Value->Shared->Prop),tn i s.heap->Q (.ref it) s->wpAny (model P w) A (pyIter (.ref it)) Q E s
abbrev TI:=St->Hp->(It->Hp->Prop)->Prop
def PIE (X:Cx) (pins:List (Addr×Obj)) (σ:St) (tg:Expr) (R:It->Hp->Prop) (itv:Value) (s2:Shared):Prop:=
 ∃ (it:Addr) (fp:List Addr) (tn:Nat->Heap->Prop) (J:It) (H':Hp),itv=.ref it/\Inv X pins σ H' s2/\Turn X.prog X.w X.K tg J fp it tn/\tn 0 s2.heap/\(∀ b∈fp,FpOk X pins H' b)/\R J H'
def PI (X:Cx) (tg iter:Expr) (wi:TI):Prop:=
 ∀ (pins:List (Addr×Obj)) (s:Shared) (σ:St) (H:Hp) (R:It->Hp->Prop),Inv X pins σ H s->wi σ H R ->
  wpAny (model X.prog X.w) X.A (eval iter X.env) (λv s1=>wpAny (model X.prog X.w) X.A (pyIter v) (PIE X pins σ tg R) X.xe s1) X.xe s
theorem go_of {M:Model}{A:Around}{E:Value->Shared->Prop}{s:Shared}{tg:Expr}{it:Addr}{u:Value}{o:Obj}{n:String}{vs:Array Value}{Q:Unit->Shared->Prop} (ho:s.heap.get? it=some o) (hc:o.cls=.type n) (hd:o.data=.fields vs)
    (hn:["enumerate", "zip", "dict_itemiterator", "dict_reverseitemiterator", "odict_iterator", "itertools.zip_longest", "itertools.pairwise"].contains n=false) (hQ:Q () s):wpAny M A (letOwnedTupleGo tg (.ref it) u) Q E s:=by
  unfold letOwnedTupleGo
  cases tg <;> first
    | exact wpAny_pure hQ
    | (cases u <;> first
        | exact wpAny_pure hQ
        | (refine wpAny_bind (wpAny_load ho ?_)
           rw [hc,hd]
           show wpAny M A (if (["enumerate", "zip", "dict_itemiterator", "dict_reverseitemiterator", "odict_iterator", "itertools.zip_longest", "itertools.pairwise"].contains n && vs[0]? == some (rawInt _))=true then _ else _) Q E s
           rw [if_neg (by intro h;rw [hn,yW] at h;cases h)]
           exact wpAny_pure hQ))
def Itl (K:PySem.W.Frag) (a:Addr):It:=
 ⟨λi H=>∃ xs x,SqL K H a xs/\xs[i]?=some x,λi H x H'=>H'=H/\∀ xs,SqL K H a xs->xs[i]?=some x,λi H=>∃ xs,SqL K H a xs/\xs.length<=i⟩
def Itt (K:PySem.W.Frag) (a:Addr):It:=
 ⟨λi H=>∃ xs x,SqT K H a xs/\xs[i]?=some x,λi H x H'=>H'=H/\∀ xs,SqT K H a xs->xs[i]?=some x,λi H=>∃ xs,SqT K H a xs/\xs.length<=i⟩
def Itr (lo:Int) (n:Nat):It:=⟨λi _=>i < n,λi H x H'=>H'=H/\x=.int (lo + i),λi _=>n<=i⟩
theorem turn_list {P:Program}{w:World}{K:PySem.W.Frag}{tg:Expr} (a it:Addr):Turn P w K tg (Itl K a) [it] it (λi h=>h.IsListIter it a i) where
 mem:=by simp
 obj:=λi h st b hb=>by
  have e:b=it:=by simpa using hb
  subst e
  obtain ⟨o,e,c,d⟩:=st
  exact ⟨o,e,λv z=>by rw [d] at z;cases z⟩
 keep:=λi h h' st k=>st.at λo e=>k it (by simp) o e
 item:=by
  intro X hP hw hK hc i pins s σ H E I hf st hg
  subst hP hw hK
  obtain ⟨xs,x,hq,hx⟩:=hg
  obtain ⟨its,rv,p,hz⟩:=I.list hq
  obtain ⟨u,hu,ru⟩:=rv.get hx
  obtain ⟨f0,f1,f2,f3,f4,f5⟩:=hf it (by simp)
  refine wpAny_pyNext_list_item st p.isList (x:=u) (by simpa using hu) λh' st' sb=>?_
  have I1:Inv X pins σ H { s with heap:=h' }:=I.turned (t':=s.toks) (λb o hb e=>(sb.2 b hb).trans e) f0 f1 f3 f4 f5
  obtain ⟨o,e,c,d⟩:=id st'
  exact ⟨u,rfl,go_of (s:={ s with heap:=h' }) e c d (by decide) ⟨x,H,I1,ru,⟨rfl,λys hy=>by rw [I.list_inj hy hq];exact hx⟩,st',λb hb=>(hf b hb).1⟩⟩
 done:=by
  intro X hP hw hK hc i pins s σ H E I hf st hg
  subst hP hw hK
  obtain ⟨xs,hq,hx⟩:=hg
  obtain ⟨its,rv,p,hz⟩:=I.list hq
  obtain ⟨f0,f1,f2,f3,f4,f5⟩:=hf it (by simp)
  have hl:=rv.length
  exact wpAny_pyNext_list_end (I.ok.hd hc) st p.isList (by simp;omega) λh' eb=>⟨rfl,I.turned (t':=s.toks) (λb o hb e=>eb b o hb e) f0 f1 f3 f4 f5⟩
 self:=λ_ _ _ _ _ st h=>wpAny_pyIter_listiter st h
theorem turn_tuple {P:Program}{w:World}{K:PySem.W.Frag}{tg:Expr} (a it:Addr):Turn P w K tg (Itt K a) [it] it (λi h=>h.IsTupleIter it a i) where
 mem:=by simp
 obj:=λi h st b hb=>by
  have e:b=it:=by simpa using hb
  subst e
  obtain ⟨o,e,c,d⟩:=st
  exact ⟨o,e,λv z=>by rw [d] at z;cases z⟩
 keep:=λi h h' st k=>st.at λo e=>k it (by simp) o e
 item:=by
  intro X hP hw hK hc i pins s σ H E I hf st hg
  subst hP hw hK
  obtain ⟨xs,x,hq,hx⟩:=hg
  obtain ⟨its,rv,p,hz⟩:=I.tuple hq
  obtain ⟨u,hu,ru⟩:=rv.get hx
  obtain ⟨f0,f1,f2,f3,f4,f5⟩:=hf it (by simp)
  refine wpAny_pyNext_tuple_item st (show s.heap.IsTuple a its.toArray from p) (x:=u) (by simpa using hu) λh' st' sb=>?_
  have I1:Inv X pins σ H { s with heap:=h' }:=I.turned (t':=s.toks) (λb o hb e=>(sb.2 b hb).trans e) f0 f1 f3 f4 f5
  obtain ⟨o,e,c,d⟩:=id st'
  exact ⟨u,rfl,go_of (s:={ s with heap:=h' }) e c d (by decide) ⟨x,H,I1,ru,⟨rfl,λys hy=>by rw [I.tuple_inj hy hq];exact hx⟩,st',λb hb=>(hf b hb).1⟩⟩
 done:=by
  intro X hP hw hK hc i pins s σ H E I hf st hg
  subst hP hw hK
  obtain ⟨xs,hq,hx⟩:=hg
  obtain ⟨its,rv,p,hz⟩:=I.tuple hq
  obtain ⟨f0,f1,f2,f3,f4,f5⟩:=hf it (by simp)
  have hl:=rv.length
  exact wpAny_pyNext_tuple_end (I.ok.hd hc) st (show s.heap.IsTuple a its.toArray from p) (by simp;omega) λh' eb=>⟨rfl,I.turned (t':=s.toks) (λb o hb e=>eb b o hb e) f0 f1 f3 f4 f5⟩
 self:=λ_ _ _ _ _ st h=>wpAny_pyIter_tupleiter st h
theorem turn_range {P:Program}{w:World}{K:PySem.W.Frag}{tg:Expr} (it:Addr) (lo:Int) (n:Nat):Turn P w K tg (Itr lo n) [it] it (λi h=>IsRangeIter h it (lo + (i:Nat) * 1) ((n:Int) - (i:Nat)) 1) where
 mem:=by simp
 obj:=λi h st b hb=>by
  have e:b=it:=by simpa using hb
  subst e
  exact ⟨_,st,λv z=>by
   have z':Data.fields _=Data.cell v:=z
   cases z'⟩
 keep:=λi h h' st k=>k it (by simp) _ st
 item:=by
  intro X hP hw hK hc i pins s σ H E I hf st hg
  subst hP hw hK
  obtain ⟨f0,f1,f2,f3,f4,f5⟩:=hf it (by simp)
  have W:=Walks.range (prog:=X.prog) (w:=X.w) (I.ok.hd hc) it lo 1 n
  refine W.item i s _ _ hg st λv h' tk hv st' kk=>?_
  obtain ⟨t,rfl⟩:=hv
  have I1:Inv X pins σ H { s with heap:=h',toks:=tk }:=I.turned (λb o hb e=>kk b o (by simpa using hb) e) f0 f1 f3 f4 f5
  refine ⟨_,rfl,go_of (s:={ s with heap:=h',toks:=tk }) (n := "range_iterator") st' rfl rfl (by decide) ⟨.int (lo + i),H,I1,⟨t,?_⟩,⟨rfl,rfl⟩,st',λb hb=>(hf b hb).1⟩⟩
  rw [Int.mul_one]
 done:=by
  intro X hP hw hK hc i pins s σ H E I hf st hg
  subst hP hw hK
  obtain ⟨f0,f1,f2,f3,f4,f5⟩:=hf it (by simp)
  exact wpAny_pyNext_range_end (I.ok.hd hc) st (by have:n<=i:=hg;omega) λh' eb=>⟨rfl,I.turned (t':=s.toks) (λb o hb e=>eb b o hb e) f0 f1 f3 f4 f5⟩
 self:=λ_ _ _ _ _ st h=>wpAny_pyIter_rangeiter st h
end L2
namespace L2
open PySem PySem.Spec PyProof.Rows
section
variable {X:Cx}{tg:Expr}
def iList (K:PySem.W.Frag) (tl:TE):TI:=fun σ H R=>tl σ H λx H1=>∃ a,x=.ref a/\(∃ xs,SqL K H1 a xs)/\R (Itl K a) H1
def iTup (K:PySem.W.Frag) (tl:TE):TI:=fun σ H R=>tl σ H λx H1=>∃ a,x=.ref a/\(∃ xs,SqT K H1 a xs)/\R (Itt K a) H1
theorem pi_list {l:Expr}{tl:TE} (hl:PE X l tl):PI X tg l (iList X.K tl):=by
 intro pins s σ H R I h
 refine thn (hl pins s σ H _ I h) λv s1 ⟨x,H1,I1,r1,q1⟩=>?_
 obtain ⟨a,e,⟨xs,hq⟩,q⟩:=q1
 subst e
 cases r1
 obtain ⟨its,rv,p,hz⟩:=I1.list hq
 refine wpAny_pyIter_list p.isList ?_
 refine ⟨s1.heap.objs.size,[s1.heap.objs.size],_,_,H1,rfl,I1.kept (t':=s1.toks) λb o e=>Heap.get?_push_of_some _ e,turn_list a _,⟨_,Heap.get?_push_size _ rfl,rfl,rfl⟩,λb hb=>?_,q⟩
 have e:b=s1.heap.objs.size:=by simpa using hb
 subst e
 exact I1.fpOk (zD _) (I1.hok.fresh (zD _))
theorem pi_tup {l:Expr}{tl:TE} (hl:PE X l tl):PI X tg l (iTup X.K tl):=by
 intro pins s σ H R I h
 refine thn (hl pins s σ H _ I h) λv s1 ⟨x,H1,I1,r1,q1⟩=>?_
 obtain ⟨a,e,⟨xs,hq⟩,q⟩:=q1
 subst e
 cases r1
 obtain ⟨its,rv,p,hz⟩:=I1.tuple hq
 refine wpAny_pyIter_tuple (show s1.heap.IsTuple a its.toArray from p) ?_
 refine ⟨s1.heap.objs.size,[s1.heap.objs.size],_,_,H1,rfl,I1.kept (t':=s1.toks) λb o e=>Heap.get?_push_of_some _ e,turn_tuple a _,⟨_,Heap.get?_push_size _ rfl,rfl,rfl⟩,λb hb=>?_,q⟩
 have e:b=s1.heap.objs.size:=by simpa using hb
 subst e
 exact I1.fpOk (zD _) (I1.hok.fresh (zD _))
theorem range_it {pins:List (Addr×Obj)}{σ:St}{H:Hp}{s:Shared}{R:It->Hp->Prop}{E:Value->Shared->Prop}{lo hi:Int}{t u v:Tok}{tk:Nat} (I:Inv X pins σ H s) (h1:-(2 ^ 62)<=lo) (h2:lo < 2 ^ 62) (h3:-(2 ^ 62)<=hi) (h4:hi < 2 ^ 62)
  (q:R (Itr lo (hi - lo).toNat) H):wpAny (model X.prog X.w) X.A (pyIter (.ref s.heap.objs.size)) (PIE X pins σ tg R) E { s with heap:=s.heap.push { cls:=.type "range", data:=.fields #[.int lo t,.int hi u,.int 1 v] },toks:=tk }:=by
 refine wpAny_pyIter_range (IsRange.new ..) (small_one h1 h2 h3 h4) ?_
 have I1:Inv X pins σ H { s with heap:=s.heap.push { cls:=.type "range", data:=.fields #[.int lo t,.int hi u,.int 1 v] },toks:=tk }:=I.kept λb o e=>Heap.get?_push_of_some _ e
 refine ⟨(s.heap.push { cls:=.type "range", data:=.fields #[.int lo t,.int hi u,.int 1 v] }).objs.size,[(s.heap.push { cls:=.type "range", data:=.fields #[.int lo t,.int hi u,.int 1 v] }).objs.size],_,_,H,rfl,
  I1.kept (t':=tk) λb o e=>Heap.get?_push_of_some _ e,turn_range _ lo (hi - lo).toNat,?_,λb hb=>?_,q⟩
 ·have e1:lo + ((0:Nat):Int) * 1=lo:=by simp
  have e2:(((hi - lo).toNat:Nat):Int) - ((0:Nat):Int)=Builtin.Range.rangeSize lo hi 1:=by rw [rangeSize_one];split <;> omega
  show IsRangeIter _ _ (lo + ((0:Nat):Int) * 1) ((((hi - lo).toNat:Nat):Int) - ((0:Nat):Int)) 1
  rw [e1,e2]
  exact Heap.get?_push_size _ rfl
 ·have e:b=(s.heap.push { cls:=.type "range", data:=.fields #[.int lo t,.int hi u,.int 1 v] }).objs.size:=by simpa using hb
  subst e
  exact I1.fpOk (zD _) (I1.hok.fresh (zD _))
def iRng1 (ta:TA):TI:=fun σ H R=>ta σ H λvs H1=>∃ j:Int,vs=[.int j]/\-(2 ^ 62)<=j/\j < 2 ^ 62/\R (Itr 0 j.toNat) H1
def iRng2 (ta:TA):TI:=fun σ H R=>ta σ H λvs H1=>∃ i j:Int,vs=[.int i,.int j]/\(-(2 ^ 62)<=i/\i < 2 ^ 62/\-(2 ^ 62)<=j/\j < 2 ^ 62)/\R (Itr i (j - i).toNat) H1
theorem pi_range1 {a:Expr}{ta:TA}{p pos:Pos} (hg:Gl X "range") (hm:X.mg "range" = none) (ha:PA X [a] ta) (hs:starEach [a] X.env=[(false,eval a X.env)]:=by rfl):PI X tg (.Call (.Name "range" p) [a] [] pos) (iRng1 ta):=by
 intro pins s σ H R I h
 refine Call_ (ld_blt I hg hm boot_range (yB (thn (ha pos pins s σ H _ I h) λus s1 ⟨vs,H1,I1,r1,q1⟩=>?_) hs rfl))
 obtain ⟨j,e,q1,q2,q⟩:=q1
 subst e
 cases r1 with
 | cons r rr=>
  cases rr
  obtain ⟨t,rfl⟩:=r
  exact call_range_1 (range_it I1 (by omega) (by omega) q1 q2 (by simpa using q))
theorem pi_range2 {a b:Expr}{ta:TA}{p pos:Pos} (hg:Gl X "range") (hm:X.mg "range" = none) (ha:PA X [a,b] ta) (hs:starEach [a,b] X.env=[(false,eval a X.env),(false,eval b X.env)]:=by rfl) (hs2:starEach [b] X.env=[(false,eval b X.env)]:=by rfl) :
  PI X tg (.Call (.Name "range" p) [a,b] [] pos) (iRng2 ta):=by
 intro pins s σ H R I h
 refine Call_ (ld_blt I hg hm boot_range (yB (thn (ha pos pins s σ H _ I h) λus s1 ⟨vs,H1,I1,r1,q1⟩=>?_) (by rw [hs,hs2]) (by rw [hs2];rfl)))
 obtain ⟨i,j,e,⟨q1,q2,q3,q4⟩,q⟩:=q1
 subst e
 cases r1 with
 | cons r rr=>
  cases rr with
  | cons r' rr=>
   cases rr
   obtain ⟨t,rfl⟩:=r
   obtain ⟨t',rfl⟩:=r'
   exact call_range_2 (range_it I1 q1 q2 q3 q4 q)
def tFor (wi:TI) (g:TG) (tb:TS):TS:=λD σ H=>wi σ H λJ H1=>∃ W:Nat->Nat->St->Hp->Prop,(∃ m,W 0 m σ H1)/\∀ i m σ H,W i m σ H ->
 (J.stop i H/\D.nx σ H)\/(J.go i H/\∃ N:St->Hp->Prop,(∀ σ' H',N σ' H'->∃ m',m' < m/\W (i + 1) m' σ' H')/\∀ x H',J.yld i H x H'->g x σ H' fun σ2 H2=>tb (D.lp N) σ2 H2)
def pinsAt (fp:List Addr) (h:Heap):List (Addr×Obj):=fp.filterMap λb=>(h.get? b).map λo=>(b,o)
theorem wV {fp:List Addr}{h:Heap}{b:Addr}{o:Obj} (hb:b∈fp) (e:h.get? b=some o):(b,o)∈pinsAt fp h:=yV.mpr ⟨b,hb,by rw [e];rfl⟩
theorem of_pinsAt {fp:List Addr}{h:Heap}{p:Addr×Obj} (hp:p∈pinsAt fp h):p.1∈fp/\h.get? p.1=some p.2:=by
 obtain ⟨b,hb,e⟩:=yV.mp hp
 cases q:h.get? b with
 | none=>rw [q] at e;cases e
 | some o=>
  rw [q] at e
  have e':(b,o)=p:=Option.some.inj e
  subst e'
  exact ⟨hb,q⟩
theorem Inv.pinned {pins:List (Addr×Obj)}{σ:St}{H:Hp}{s:Shared}{fp:List Addr} (I:Inv X pins σ H s) (hf:∀ b∈fp,FpOk X pins H b) (ho:∀ b∈fp,∃ o,s.heap.get? b=some o/\∀ v,o.data≠.cell v):Inv X (pins++pinsAt fp s.heap) σ H s:=
 I.pins_of λp hp=>(zS.mp hp).elim (λz=>I.pin p (zL _ z)) λz=>by
  obtain ⟨hb,e⟩:=of_pinsAt z
  obtain ⟨f0,f1,f2,_⟩:=hf p.1 hb
  obtain ⟨o,e',d⟩:=ho p.1 hb
  rw [e] at e';cases e'
  exact ⟨e,f0,f1,f2,d⟩
theorem Inv.unpinned {pins pl:List (Addr×Obj)}{σ:St}{H:Hp}{s:Shared} (I:Inv X (pins++pl) σ H s):Inv X pins σ H s:=I.pins_of λp hp=>I.pin p (zL _ (yJ _ hp))
theorem wJ {iter:Expr}{body:List Stmt}{wi:TI}{g:TG}{tb:TS}{pos:Pos} (hp:PassesOwn (model X.prog X.w) X.A X.env X.xe) (hc:X.calm=true) (hi:PI X tg iter wi) (hg:PG X tg g) (hb:PSs X body tb)
  (hs:∀ x,foldedSetIterable iter X.env x=pure x:=by intro _;rfl):PS X (.For tg iter body [] pos) (tFor wi g tb):=by
 intro pins s σ H D I h
 refine wpAny_For (thn (hi pins s σ H _ I h) λv s1 h1=>thn h1 λitv s2 h2=>?_) hs
 obtain ⟨it,fp,tn,J,H2,e,I2,T,st2,f2,W,⟨m0,w0⟩,turn⟩:=h2
 subst e
 -- what stays true of the iterator's objects through the loop
 have stat:∀ {H':Hp},(∀ b∈fp,H' b=none)->∀ b∈fp,FpOk X pins H' b:=λhn b hb=>⟨hn b hb,(f2 b hb).2⟩
 refine codeAny_forLoop_any (λn s'=>∃ i σ' H',Inv X pins σ' H' s'/\tn i s'.heap/\(∀ b∈fp,H' b=none)/\W i n σ' H') ?_ m0 ⟨0,σ,H2,I2,st2,λb hb=>(f2 b hb).1,w0⟩
 rintro n s3 ⟨i,σ3,H3,I3,st3,fr3,w3⟩
 rcases turn i n σ3 H3 w3 with ⟨stop,qn⟩ | ⟨go,N,hN,step⟩
 ·refine wpAny_passesOwn hp (thn (T.done X rfl rfl rfl hc i pins s3 σ3 H3 X.xe I3 (stat fr3) st3 stop) λr s4 ⟨hr,I4⟩=>?_)
  subst hr
  exact wpAny_execs_nil ⟨σ3,H3,I4,qn⟩
 ·refine wpAny_passesOwn hp (thn (T.item X rfl rfl rfl hc i pins s3 σ3 H3 X.xe I3 (stat fr3) st3 go) λr s4 ⟨u,hr,h4⟩=>?_)
  subst hr
  refine wpAny_passesOwn hp (thn h4 λ_ s5 ⟨x,H5,I5,r5,y5,st5,fr5⟩=>?_)
  have I5':=I5.pinned (stat fr5) (T.obj _ _ st5)
  refine wpAny_passesOwn hp (thn (hg _ s5 σ3 H5 x u _ I5' r5 (step x H5 y5)) λ_ s6 ⟨σ6,H6,I6,q6⟩=>?_)
  refine wpAny_passesOwn hp (thn (hb _ s6 σ6 H6 _ I6 q6) λf s7 q7=>?_)
  have again:∀ {σ7:St} {H7:Hp},Inv X (pins++pinsAt fp s5.heap) σ7 H7 s7->N σ7 H7->∃ m,m < n/\∃ i σ' H',Inv X pins σ' H' s7/\tn i s7.heap/\(∀ b∈fp,H' b=none)/\W i m σ' H':=λ{σ7 H7} I7 n7=>by
   obtain ⟨m',hm,w7⟩:=hN σ7 H7 n7
   refine ⟨m',hm,i + 1,σ7,H7,I7.unpinned,T.keep _ _ _ st5 λb hb o e=>(I7.pin (b,o) (zL _ (zL _ (wV hb e)))).1,λb hb=>?_,w7⟩
   obtain ⟨o,e,d⟩:=T.obj _ _ st5 b hb
   exact (I7.pin (b,o) (zL _ (zL _ (wV hb e)))).2.1
  cases f with
  | next=>obtain ⟨σ7,H7,I7,n7⟩:=q7;exact again I7 n7
  | cont=>obtain ⟨σ7,H7,I7,n7⟩:=q7;exact again I7 n7
  | brk=>obtain ⟨σ7,H7,I7,q7⟩:=q7;exact ⟨σ7,H7,I7.unpinned,q7⟩
  | ret v=>obtain ⟨x7,σ7,H7,I7,r7,q7⟩:=q7;exact ⟨x7,σ7,H7,I7.unpinned,r7,q7⟩
end
theorem for_list {K:PySem.W.Frag}{a:Addr}{xs:List V}{g:TG}{tb:TS}{D:Ends}{σ:St}{H:Hp} (Pv:Nat->St->Hp->Prop) (h0:Pv 0 σ H) (hl:∀ i σ H,i<=xs.length->Pv i σ H->SqL K H a xs)
  (hs:∀ i x σ H,xs[i]?=some x->Pv i σ H->g x σ H fun σ2 H2=>tb (D.lp (Pv (i + 1))) σ2 H2) (hd:∀ σ H,Pv xs.length σ H->D.nx σ H) :
  ∃ W:Nat->Nat->St->Hp->Prop,(∃ m,W 0 m σ H)/\∀ i m σ H,W i m σ H ->
   ((Itl K a).stop i H/\D.nx σ H)\/((Itl K a).go i H/\∃ N:St->Hp->Prop,(∀ σ' H',N σ' H'->∃ m',m' < m/\W (i + 1) m' σ' H')/\∀ x H',(Itl K a).yld i H x H'->g x σ H' fun σ2 H2=>tb (D.lp N) σ2 H2):=by
 refine ⟨λi m σ H=>m=xs.length - i/\i<=xs.length/\Pv i σ H,⟨xs.length,by simp,zT _,h0⟩,?_⟩
 rintro i m σ H ⟨rfl,hi,p⟩
 have q:=hl i σ H hi p
 by_cases hlt:i < xs.length
 ·refine .inr ⟨⟨xs,xs[i],q,by simp [hlt]⟩,Pv (i + 1),fun σ' H' p'=>⟨xs.length - (i + 1),by omega,rfl,hlt,p'⟩,λx H' y=>?_⟩
  obtain ⟨e,y⟩:=y
  subst e
  exact hs i x σ _ (y xs q) p
 ·have e:i=xs.length:=by omega
  subst e
  exact .inl ⟨⟨xs,q,zD _⟩,hd σ H p⟩
theorem for_tup {K:PySem.W.Frag}{a:Addr}{xs:List V}{g:TG}{tb:TS}{D:Ends}{σ:St}{H:Hp} (Pv:Nat->St->Hp->Prop) (h0:Pv 0 σ H) (hl:∀ i σ H,i<=xs.length->Pv i σ H->SqT K H a xs)
  (hs:∀ i x σ H,xs[i]?=some x->Pv i σ H->g x σ H fun σ2 H2=>tb (D.lp (Pv (i + 1))) σ2 H2) (hd:∀ σ H,Pv xs.length σ H->D.nx σ H) :
  ∃ W:Nat->Nat->St->Hp->Prop,(∃ m,W 0 m σ H)/\∀ i m σ H,W i m σ H ->
   ((Itt K a).stop i H/\D.nx σ H)\/((Itt K a).go i H/\∃ N:St->Hp->Prop,(∀ σ' H',N σ' H'->∃ m',m' < m/\W (i + 1) m' σ' H')/\∀ x H',(Itt K a).yld i H x H'->g x σ H' fun σ2 H2=>tb (D.lp N) σ2 H2):=by
 refine ⟨λi m σ H=>m=xs.length - i/\i<=xs.length/\Pv i σ H,⟨xs.length,by simp,zT _,h0⟩,?_⟩
 rintro i m σ H ⟨rfl,hi,p⟩
 have q:=hl i σ H hi p
 by_cases hlt:i < xs.length
 ·refine .inr ⟨⟨xs,xs[i],q,by simp [hlt]⟩,Pv (i + 1),fun σ' H' p'=>⟨xs.length - (i + 1),by omega,rfl,hlt,p'⟩,λx H' y=>?_⟩
  obtain ⟨e,y⟩:=y
  subst e
  exact hs i x σ _ (y xs q) p
 ·have e:i=xs.length:=by omega
  subst e
  exact .inl ⟨⟨xs,q,zD _⟩,hd σ H p⟩
theorem for_range {lo:Int}{n:Nat}{g:TG}{tb:TS}{D:Ends}{σ:St}{H:Hp} (Pv:Nat->St->Hp->Prop) (h0:Pv 0 σ H)
  (hs:∀ i σ H,i < n->Pv i σ H->g (.int (lo + i)) σ H fun σ2 H2=>tb (D.lp (Pv (i + 1))) σ2 H2) (hd:∀ σ H,Pv n σ H->D.nx σ H) :
  ∃ W:Nat->Nat->St->Hp->Prop,(∃ m,W 0 m σ H)/\∀ i m σ H,W i m σ H ->
   ((Itr lo n).stop i H/\D.nx σ H)\/((Itr lo n).go i H/\∃ N:St->Hp->Prop,(∀ σ' H',N σ' H'->∃ m',m' < m/\W (i + 1) m' σ' H')/\∀ x H',(Itr lo n).yld i H x H'->g x σ H' fun σ2 H2=>tb (D.lp N) σ2 H2):=by
 refine ⟨λi m σ H=>m=n - i/\i<=n/\Pv i σ H,⟨n,by simp,zT _,h0⟩,?_⟩
 rintro i m σ H ⟨rfl,hi,p⟩
 by_cases hlt:i < n
 ·refine .inr ⟨hlt,Pv (i + 1),fun σ' H' p'=>⟨n - (i + 1),by omega,rfl,hlt,p'⟩,λx H' y=>?_⟩
  obtain ⟨e,y⟩:=y
  subst e y
  exact hs i σ _ hlt p
 ·have e:i=n:=by omega
  subst e
  exact .inl ⟨zD _,hd σ H p⟩
theorem while_by {c:TT}{tb:TS}{D:Ends}{σ:St}{H:Hp} (Pv:St->Hp->Prop) (μ:St->Hp->Nat) (h0:Pv σ H)
  (hs:∀ σ H,Pv σ H->c σ H λb H1=>if b=true then tb (D.lp fun σ' H'=>Pv σ' H'/\μ σ' H' < μ σ H) σ H1 else D.nx σ H1)
  (mono:∀ σ H Q Q',(∀ b H1,Q b H1->Q' b H1)->c σ H Q->c σ H Q'):tWhile c tb D σ H:=by
 refine ⟨λm σ H=>m=μ σ H/\Pv σ H,⟨_,rfl,h0⟩,?_⟩
 rintro m σ H ⟨rfl,p⟩
 refine mono σ H _ _ (λb H1 q=>?_) (hs σ H p)
 cases b with
 | true=>exact ⟨_,fun σ' H' ⟨p',l⟩=>⟨_,l,rfl,p'⟩,q⟩
 | false=>exact q
end L2
namespace L2
open PySem PySem.Spec PyProof.Rows
abbrev R2:=V->V->Hp->VK->Prop
def OpR (X:Cx) (f:Value->Value->Sem Value) (r:R2):Prop:=
 ∀ (pins:List (Addr×Obj)) (s:Shared) (σ:St) (H:Hp) (x y:V) (v u:Value) (Q:VK),Inv X pins σ H s->RelV x v->RelV y u->r x y H Q ->
  wpAny (model X.prog X.w) X.A (f v u) (EP X pins σ Q) X.xe s
def UnR (X:Cx) (f:Value->Sem Value) (r:V->Hp->VK->Prop):Prop:=
 ∀ (pins:List (Addr×Obj)) (s:Shared) (σ:St) (H:Hp) (x:V) (v:Value) (Q:VK),Inv X pins σ H s->RelV x v->r x H Q ->
  wpAny (model X.prog X.w) X.A (f v) (EP X pins σ Q) X.xe s
def CallR (X:Cx) (f:Value) (r:List V->Hp->VK->Prop):Prop:=
 ∀ (pins:List (Addr×Obj)) (s:Shared) (σ:St) (H:Hp) (xs:List V) (us:List Value) (Q:VK),Inv X pins σ H s->Vals xs us->r xs H Q ->
  wpAny (model X.prog X.w) X.A (call f us) (EP X pins σ Q) X.xe s
def TruR (X:Cx) (r:V->Hp->(Bool->Hp->Prop)->Prop):Prop:=
 ∀ (pins:List (Addr×Obj)) (s:Shared) (σ:St) (H:Hp) (x:V) (v:Value) (Q:Bool->Hp->Prop),Inv X pins σ H s->RelV x v->r x H Q ->
  wpAny (model X.prog X.w) X.A (truthy v) (TP X pins σ Q) X.xe s
def tOp (r:R2) (ta tb:TE):TE:=fun σ H Q=>ta σ H λx H1=>tb σ H1 λy H2=>r x y H2 Q
def tUn (r:V->Hp->VK->Prop) (ta:TE):TE:=fun σ H Q=>ta σ H λx H1=>r x H1 Q
def rI (C:Int->Int->Prop) (g:Int->Int->V):R2:=λx y H Q=>∃ i j,x=.int i/\y=.int j/\C i j/\Q (g i j) H
def rI0 (g:Int->Int->V):R2:=λx y H Q=>∃ i j,x=.int i/\y=.int j/\Q (g i j) H
def rU (g:Int->V):V->Hp->VK->Prop:=λx H Q=>∃ i,x=.int i/\Q (g i) H
section
variable {X:Cx}{a b c:Expr}{ta tb tc:TE}{pos:Pos}
theorem binT (ha:PE X a ta) (hb:PE X b tb) {pins:List (Addr×Obj)}{s:Shared}{σ:St}{H:Hp}{R:V->V->Hp->Prop} (I:Inv X pins σ H s)
  (h:ta σ H λx H1=>tb σ H1 λy H2=>R x y H2) {Q:Value->Shared->Prop}{f:Value->Value->Sem Value}
  (hf:∀ v u s2 x y H2,Inv X pins σ H2 s2->RelV x v->RelV y u->R x y H2->wpAny (model X.prog X.w) X.A (f v u) Q X.xe s2) :
  wpAny (model X.prog X.w) X.A (eval a X.env) (λv s₁=>wpAny (model X.prog X.w) X.A (eval b X.env) (λu s₂=>wpAny (model X.prog X.w) X.A (f v u) Q X.xe s₂) X.xe s₁) X.xe s:=by
 refine thn (ha pins s σ H _ I h) λv s1 ⟨x,H1,I1,r1,q1⟩=>?_
 refine thn (hb pins s1 σ H1 _ I1 q1) λu s2 ⟨y,H2,I2,r2,q2⟩=>?_
 exact hf v u s2 x y H2 I2 r1 r2 q2
theorem xZ {op:Operator}{r:R2} (ho:OpR X (binaryOp op) r) (ha:PE X a ta) (hb:PE X b tb):PE X (.BinOp a op b pos) (tOp r ta tb):=by
 intro pins s σ H Q I h
 exact wpAny_BinOp (binT ha hb I h λv u s2 x y H2 I2 rx ry q=>ho pins s2 σ H2 x y v u Q I2 rx ry q)
theorem pe_un {op:UnaryOp}{r:V->Hp->VK->Prop} (ho:UnR X (unaryOp op) r) (ha:PE X a ta):PE X (.UnaryOp op a pos) (tUn r ta):=by
 intro pins s σ H Q I h
 exact UnaryOp_ (thn (ha pins s σ H _ I h) λv s1 ⟨x,H1,I1,r1,q1⟩=>ho pins s1 σ H1 x v Q I1 r1 q1)
theorem opI {f:Value->Value->Sem Value}{C:Int->Int->Prop}{g:Int->Int->Int}
  (rule:∀ (i j:Int) (t u:Tok) (s:Shared) (Q:Value->Shared->Prop) (E:Value->Shared->Prop),C i j->Q (.int (g i j) s.toks) { s with toks:=s.toks + 1 }->wpAny (model X.prog X.w) X.A (f (.int i t) (.int j u)) Q E s) :
  OpR X f (rI C λi j=>.int (g i j)):=by
 intro pins s σ H x y v u Q I rx ry h
 obtain ⟨i,j,rfl,rfl,hc,q⟩:=h
 obtain ⟨t,rfl⟩:=rx
 obtain ⟨t',rfl⟩:=ry
 exact rule i j t t' s _ _ hc ⟨.int (g i j),H,I.tok _,⟨_,rfl⟩,q⟩
theorem opI0 {f:Value->Value->Sem Value}{g:Int->Int->Int}
  (rule:∀ (i j:Int) (t u:Tok) (s:Shared) (Q:Value->Shared->Prop) (E:Value->Shared->Prop),Q (.int (g i j) s.toks) { s with toks:=s.toks + 1 }->wpAny (model X.prog X.w) X.A (f (.int i t) (.int j u)) Q E s) :
  OpR X f (rI0 λi j=>.int (g i j)):=by
 intro pins s σ H x y v u Q I rx ry h
 obtain ⟨i,j,rfl,rfl,q⟩:=h
 obtain ⟨t,rfl⟩:=rx
 obtain ⟨t',rfl⟩:=ry
 exact rule i j t t' s _ _ ⟨.int (g i j),H,I.tok _,⟨_,rfl⟩,q⟩
theorem opB0 {f:Value->Value->Sem Value}{g:Int->Int->Bool}
  (rule:∀ (i j:Int) (t u:Tok) (s:Shared) (Q:Value->Shared->Prop) (E:Value->Shared->Prop),Q (.bool (g i j)) s->wpAny (model X.prog X.w) X.A (f (.int i t) (.int j u)) Q E s) :
  OpR X f (rI0 λi j=>.bl (g i j)):=by
 intro pins s σ H x y v u Q I rx ry h
 obtain ⟨i,j,rfl,rfl,q⟩:=h
 obtain ⟨t,rfl⟩:=rx
 obtain ⟨t',rfl⟩:=ry
 exact rule i j t t' s _ _ ⟨.bl (g i j),H,I,rfl,q⟩
def CPow (i j:Int):Prop:=0<=j/\j<=1000000/\i.natAbs < 2 ^ 64
def CMul (i j:Int):Prop:=(-(2 ^ 64) < i/\i < 2 ^ 64)\/(-(2 ^ 64) < j/\j < 2 ^ 64)
theorem CMul.ok {i j:Int} (h:CMul i j):IntMulOk i j:=by
 rcases h with ⟨h1,h2⟩ | ⟨h1,h2⟩
 ·exact .of_left (intBits_le_64 h1 h2)
 ·exact .of_right (intBits_le_64 h1 h2)
theorem xq:OpR X (binaryOp .Add) (rI0 λi j=>.int (i + j)):=opI0 λ_ _ _ _ _ _ _ q=>add_int q
theorem op_sub:OpR X (binaryOp .Sub) (rI0 λi j=>.int (i - j)):=opI0 λ_ _ _ _ _ _ _ q=>sub_int q
theorem wW:OpR X (binaryOp .Mult) (rI CMul λi j=>.int (i * j)):=opI λ_ _ _ _ _ _ _ hc q=>mul_int q hc.ok
theorem op_mod:OpR X (binaryOp .Mod) (rI (λ_ j=>0 < j) λi j=>.int (i % j)):=opI λi j _ _ _ _ _ hc q=>by
 have h1:(0:Int) < j:=hc
 exact mod_int' (by omega) (by rw [Int.fmod_eq_emod_of_nonneg i (by omega)];exact q)
theorem op_pow:OpR X (binaryOp .Pow) (rI CPow λi j=>.int (i ^ j.toNat)):=opI λ_ _ _ _ _ _ _ hc q=>pow_int_small hc.1 hc.2.1 hc.2.2 q
theorem unI {f:Value->Sem Value}{g:Int->Int}
  (rule:∀ (i:Int) (t:Tok) (s:Shared) (Q:Value->Shared->Prop) (E:Value->Shared->Prop),Q (.int (g i) s.toks) { s with toks:=s.toks + 1 }->wpAny (model X.prog X.w) X.A (f (.int i t)) Q E s) :
  UnR X f (rU λi=>.int (g i)):=by
 intro pins s σ H x v Q I rx h
 obtain ⟨i,rfl,q⟩:=h
 obtain ⟨t,rfl⟩:=rx
 exact rule i t s _ _ ⟨.int (g i),H,I.tok _,⟨_,rfl⟩,q⟩
theorem un_neg:UnR X (unaryOp .USub) (rU λi=>.int (-i)):=unI λ_ _ _ _ _ q=>neg_int q
end
def scal:V->V->Bool
 | .non,.non=>true | .non,.int _=>true | .int _,.non=>true | .non,.bl _=>true | .bl _,.non=>true | .non,.str _=>true | .str _,.non=>true
 | .int _,.int _=>true | .bl _,.bl _=>true | .str _,.str _=>true | .byt _,.byt _=>true
 | .int _,.str _=>true | .str _,.int _=>true | .bl _,.str _=>true | .str _,.bl _=>true
 | _,_=>false
def rEq:R2:=λx y H Q=>scal x y=true/\Q (.bl (decide (x=y))) H
def rNe:R2:=λx y H Q=>scal x y=true/\Q (.bl (!decide (x=y))) H
theorem dec_int {i j:Int}:decide (V.int i=V.int j)=(i == j):=by
 rw [yo]
 simp
theorem dec_bl {i j:Bool}:decide (V.bl i=V.bl j)=(i == j):=by
 rw [yo]
 simp
theorem dec_str {i j:Str}:decide (V.str i=V.str j)=(i == j):=by
 rw [yo]
 simp
theorem dec_byt {i j:Array UInt8}:decide (V.byt i=V.byt j)=(i.toList == j.toList):=by
 rw [yo]
 cases i
 cases j
 simp
section
variable {X:Cx}{a b c:Expr}{ta tb tc:TE}{pos:Pos}
theorem xm {pins:List (Addr×Obj)}{σ:St}{H:Hp}{s:Shared}{Q:VK}{k k':Bool} (I:Inv X pins σ H s) (q:Q (.bl k) H) (e:k=k'):EP X pins σ Q (.bool k') s:=by
 subst e
 exact ⟨.bl k,H,I,rfl,q⟩
theorem op_eq:OpR X (compareOp .Eq) rEq:=by
 intro pins s σ H x y v u Q I rx ry h
 obtain ⟨hs,q⟩:=h
 cases x with
 | non=>
  cases rx
  cases y with
  | non=>cases ry;exact PySem.EqNone.eq_none_none (xm I q (by simp))
  | bl j=>cases ry;exact PySem.EqNone.eq_none_bool (xm I q (by simp))
  | int j=>obtain ⟨t',rfl⟩:=ry;exact PySem.EqNone.eq_none_int (xm I q (by simp))
  | str j=>obtain ⟨t',rfl⟩:=ry;exact PySem.EqNone.eq_none_str (xm I q (by simp))
  | _=>exact absurd (show false=true from hs) zM
 | bl i=>
  cases rx
  cases y with
  | non=>cases ry;exact PySem.EqNone.eq_bool_none (xm I q (by simp))
  | bl j=>cases ry;exact eq_bool (xm I q dec_bl)
  | str j=>obtain ⟨t',rfl⟩:=ry;exact PySem.EqMixed.eq_bool_str (xm I q (by simp))
  | _=>exact absurd (show false=true from hs) zM
 | int i=>
  obtain ⟨t,rfl⟩:=rx
  cases y with
  | non=>cases ry;exact PySem.EqNone.eq_int_none (xm I q (by simp))
  | int j=>obtain ⟨t',rfl⟩:=ry;exact eq_int (xm I q dec_int)
  | str j=>obtain ⟨t',rfl⟩:=ry;exact PySem.EqMixed.eq_int_str (xm I q (by simp))
  | _=>exact absurd (show false=true from hs) zM
 | str i=>
  obtain ⟨t,rfl⟩:=rx
  cases y with
  | non=>cases ry;exact PySem.EqNone.eq_str_none (xm I q (by simp))
  | bl j=>cases ry;exact PySem.EqMixed.eq_str_bool (xm I q (by simp))
  | int j=>obtain ⟨t',rfl⟩:=ry;exact PySem.EqMixed.eq_str_int (xm I q (by simp))
  | str j=>obtain ⟨t',rfl⟩:=ry;exact eq_str (xm I q dec_str)
  | _=>exact absurd (show false=true from hs) zM
 | byt i=>
  obtain ⟨t,rfl⟩:=rx
  cases y with
  | byt j=>obtain ⟨t',rfl⟩:=ry;exact PySem.W.eq_bytes (xm I q dec_byt)
  | _=>exact absurd (show false=true from hs) zM
 | _=>cases y <;> exact absurd (show false=true from hs) zM
theorem op_ne:OpR X (compareOp .NotEq) rNe:=by
 intro pins s σ H x y v u Q I rx ry h
 obtain ⟨hs,q⟩:=h
 cases x with
 | non=>
  cases rx
  cases y with
  | non=>cases ry;exact PySem.EqNone.ne_none_none (xm I q (by simp))
  | bl j=>cases ry;exact PySem.EqNone.ne_none_bool (xm I q (by simp))
  | int j=>obtain ⟨t',rfl⟩:=ry;exact PySem.EqNone.ne_none_int (xm I q (by simp))
  | str j=>obtain ⟨t',rfl⟩:=ry;exact PySem.EqNone.ne_none_str (xm I q (by simp))
  | _=>exact absurd (show false=true from hs) zM
 | bl i=>
  cases rx
  cases y with
  | non=>cases ry;exact PySem.EqNone.ne_bool_none (xm I q (by simp))
  | bl j=>cases ry;exact ne_bool (xm I q (congrArg not dec_bl))
  | str j=>obtain ⟨t',rfl⟩:=ry;exact PySem.EqMixed.ne_bool_str (xm I q (by simp))
  | _=>exact absurd (show false=true from hs) zM
 | int i=>
  obtain ⟨t,rfl⟩:=rx
  cases y with
  | non=>cases ry;exact PySem.EqNone.ne_int_none (xm I q (by simp))
  | int j=>obtain ⟨t',rfl⟩:=ry;exact ne_int (xm I q (congrArg not dec_int))
  | str j=>obtain ⟨t',rfl⟩:=ry;exact PySem.EqMixed.ne_int_str (xm I q (by simp))
  | _=>exact absurd (show false=true from hs) zM
 | str i=>
  obtain ⟨t,rfl⟩:=rx
  cases y with
  | non=>cases ry;exact PySem.EqNone.ne_str_none (xm I q (by simp))
  | bl j=>cases ry;exact PySem.EqMixed.ne_str_bool (xm I q (by simp))
  | int j=>obtain ⟨t',rfl⟩:=ry;exact PySem.EqMixed.ne_str_int (xm I q (by simp))
  | str j=>obtain ⟨t',rfl⟩:=ry;exact ne_str (xm I q (congrArg not dec_str))
  | _=>exact absurd (show false=true from hs) zM
 | byt i=>
  obtain ⟨t,rfl⟩:=rx
  cases y with
  | byt j=>obtain ⟨t',rfl⟩:=ry;exact PySem.W.ne_bytes (xm I q (congrArg not dec_byt))
  | _=>exact absurd (show false=true from hs) zM
 | _=>cases y <;> exact absurd (show false=true from hs) zM
theorem op_lt:OpR X (compareOp .Lt) (rI0 λi j=>.bl (decide (i < j))):=opB0 λ_ _ _ _ _ _ _ q=>lt_int q
theorem op_le:OpR X (compareOp .LtE) (rI0 λi j=>.bl (decide (i<=j))):=opB0 λ_ _ _ _ _ _ _ q=>le_int q
theorem op_gt:OpR X (compareOp .Gt) (rI0 λi j=>.bl (decide (j < i))):=opB0 λ_ _ _ _ _ _ _ q=>gt_int q
theorem op_ge:OpR X (compareOp .GtE) (rI0 λi j=>.bl (decide (j<=i))):=opB0 λ_ _ _ _ _ _ _ q=>ge_int q
theorem nomark (b:Expr) {op:CmpOp} (h:op≠.In:=by decide) (h2:op≠.NotIn:=by decide):behindInMarks op b=false:=by
 have e1:(op == CmpOp.In)=false:=by cases op <;> first | rfl | exact absurd rfl h
 have e2:(op == CmpOp.NotIn)=false:=by cases op <;> first | rfl | exact absurd rfl h2
 cases b <;> simp [behindInMarks,e1,e2]
theorem pe_cmpR {op:CmpOp}{r:R2} (ho:OpR X (compareOp op) r) (ha:PE X a ta) (hb:PE X b tb) (hm:behindInMarks op b=false):PE X (.Compare a [op] [b] pos) (tOp r ta tb):=by
 intro pins s σ H Q I h
 exact wpAny_Compare1 (binT ha hb I h λv u s2 x y H2 I2 rx ry q=>ho pins s2 σ H2 x y v u Q I2 rx ry q) hm
def tTest (t:TE):TT:=fun σ H Q=>t σ H λx H'=>∃ k,x=.bl k/\Q k H'
theorem xc {op:CmpOp}{r:R2} (ho:OpR X (compareOp op) r) (ha:PE X a ta) (hb:PE X b tb) (hm:behindInMarks op b=false):PT X (.Compare a [op] [b] pos) (tTest (tOp r ta tb)):=by
 intro pins s σ H Q I h
 refine wpAny_isTrue_Compare1 (thn (ha pins s σ H _ I h) λv s1 ⟨x,H1,I1,r1,q1⟩=>thn (hb pins s1 σ H1 _ I1 q1) λu s2 ⟨y,H2,I2,r2,q2⟩=>
  thn (ho pins s2 σ H2 x y v u _ I2 r1 r2 q2) λc s3 ⟨z,H3,I3,r3,k,e,q3⟩=>?_) hm
 subst e
 cases r3
 exact wpAny_truthy_bool ⟨H3,I3,q3⟩
def tChain (r r':R2) (ta tb tc:TE):TE:=fun σ H Q=>ta σ H λx H1=>tb σ H1 λy H2=>r x y H2 λz H3=>∃ k,z=.bl k /\
 (if k=true then tc σ H3 λw' H4=>r' y w' H4 Q else Q (.bl false) H3)
theorem pe_chain {op op':CmpOp}{r r':R2} (ho:OpR X (compareOp op) r) (ho':OpR X (compareOp op') r') (ha:PE X a ta) (hb:PE X b tb) (hc:PE X c tc)
  (hm:lastMarks [op,op'] [b,c]=false:=by with_unfolding_all rfl):PE X (.Compare a [op,op'] [b,c] pos) (tChain r r' ta tb tc):=by
 intro pins s σ H Q I h
 refine Compare_chain (thn (ha pins s σ H _ I h) λv s1 ⟨x,H1,I1,r1,q1⟩=>chain_link (thn (hb pins s1 σ H1 _ I1 q1) λu s2 ⟨y,H2,I2,r2,q2⟩=>
  thn (ho pins s2 σ H2 x y v u _ I2 r1 r2 q2) λd s3 ⟨z,H3,I3,r3,k,e,q3⟩=>?_)) hm
 subst e
 cases r3
 refine wpAny_truthy_bool ?_
 cases k with
 | false=>exact ite_ff ⟨.bl false,H3,I3,rfl,q3⟩
 | true=>exact ite_tt (chain_last (thn (hc pins s3 σ H3 _ I3 q3) λw' s4 ⟨z',H4,I4,r4,q4⟩=>ho' pins s4 σ H4 y z' u w' Q I4 r2 r4 q4))
theorem pt_chain {op op':CmpOp}{r r':R2} (ho:OpR X (compareOp op) r) (ho':OpR X (compareOp op') r') (ha:PE X a ta) (hb:PE X b tb) (hc:PE X c tc)
  (hm:lastMarks [op,op'] [b,c]=false:=by with_unfolding_all rfl):PT X (.Compare a [op,op'] [b,c] pos) (tTest (tChain r r' ta tb tc)):=by
 intro pins s σ H Q I h
 refine isTrue_chain (thn (ha pins s σ H _ I h) λv s1 ⟨x,H1,I1,r1,q1⟩=>test_link (thn (hb pins s1 σ H1 _ I1 q1) λu s2 ⟨y,H2,I2,r2,q2⟩=>
  thn (ho pins s2 σ H2 x y v u _ I2 r1 r2 q2) λd s3 ⟨z,H3,I3,r3,k,e,q3⟩=>?_)) hm
 subst e
 cases r3
 refine wpAny_truthy_bool ?_
 cases k with
 | false=>
  obtain ⟨k',e',q'⟩:=q3
  cases e'
  exact ite_ff ⟨H3,I3,q'⟩
 | true=>
  refine ite_tt (test_last (thn (hc pins s3 σ H3 _ I3 q3) λw' s4 ⟨z',H4,I4,r4,q4⟩=>thn (ho' pins s4 σ H4 y z' u w' _ I4 r2 r4 q4) λd' s5 ⟨z2,H5,I5,r5,k2,e2,q5⟩=>?_))
  subst e2
  cases r5
  exact wpAny_truthy_bool ⟨H5,I5,q5⟩
def TruV (K:PySem.W.Frag) (x:V) (H:Hp) (k:Bool):Prop:=
 match x with
 | .non=>k=false
 | .bl b=>k=b
 | .int i=>k=(i != 0)
 | .str y=>y.length<=sizeLine/\k=((y.length:Int) != 0)
 | .byt y=>y.size<=sizeLine/\k=((y.size:Int) != 0)
 | .ref p=>(∃ xs,SqL K H p xs/\k=!xs.isEmpty)\/(∃ xs,SqT K H p xs/\k=!xs.isEmpty)\/∃ kvs,H p=some (.dK kvs)/\k=!kvs.isEmpty
 | _=>False
theorem isEmpty_kv {κ:Type}{kvs:List (κ×V)}{vs:List (κ×Value)} (r:KV kvs vs):(!vs.isEmpty)=!kvs.isEmpty:=by
 cases r <;> rfl
theorem isEmpty_of {xs:List V}{its:List Value} (r:Vals xs its):(!its.toArray.isEmpty)=!xs.isEmpty:=by
 cases r <;> simp
theorem line63:(sizeLine:Nat) < 2 ^ 63:=by rw [sizeLine_eq];decide
theorem tru_ok:TruR X (λx H Q=>∃ k,TruV X.K x H k/\Q k H):=by
 intro pins s σ H x v Q I rx h
 obtain ⟨k,e,q⟩:=h
 have hl:=line63
 have hs:sizeLine=16777216:=sizeLine_eq
 cases x with
 | non=>
  cases rx
  have e':k=false:=e
  subst e'
  exact truthy_none ⟨H,I,q⟩
 | bl b=>
  cases rx
  have e':k=b:=e
  subst e'
  exact wpAny_truthy_bool ⟨H,I,q⟩
 | int i=>
  obtain ⟨t,rfl⟩:=rx
  have e':k=(i != 0):=e
  subst e'
  exact PySem.P.truthy_int ⟨H,I,q⟩
 | str y=>
  obtain ⟨t,rfl⟩:=rx
  obtain ⟨hy,e'⟩:y.length<=sizeLine/\k=((y.length:Int) != 0):=e
  subst e'
  exact PySem.P.truthy_str (by omega) ⟨H,I.tok _,q⟩
 | byt y=>
  obtain ⟨t,rfl⟩:=rx
  obtain ⟨hy,e'⟩:y.size<=sizeLine/\k=((y.size:Int) != 0):=e
  subst e'
  exact PySem.W.truthy_bytes (by omega) ⟨H,I.tok _,q⟩
 | ref p=>
  cases rx
  have e':(∃ xs,SqL X.K H p xs/\k=!xs.isEmpty)\/(∃ xs,SqT X.K H p xs/\k=!xs.isEmpty)\/∃ kvs,H p=some (.dK kvs)/\k=!kvs.isEmpty:=e
  rcases e' with ⟨xs,hx,e'⟩ | ⟨xs,hx,e'⟩ | ⟨kvs,hx,e'⟩
  ·subst e'
   obtain ⟨its,r,pl,hz⟩:=I.list hx
   have hlen:=r.length
   exact wpAny_truthy_list pl.isList (by simp only [zN];omega) ⟨H,I.tok _,by rw [isEmpty_of r];exact q⟩
  ·subst e'
   obtain ⟨its,r,pl,hz⟩:=I.tuple hx
   have hlen:=r.length
   exact truthy_tuple pl (by simp only [zN];omega) ⟨H,I.tok _,by rw [isEmpty_of r];exact q⟩
  ·subst e'
   obtain ⟨hz,hS,vs,r,m⟩:kvs.length<=sizeLine/\(p == sysModules)=false/\∃ vs,KV kvs vs/\s.heap.DictOf (mixKind X.prog X.w) p vs:=I.hok p _ hx
   have hlen:kvs.length=vs.length:=Paired.length r
   exact wpAny_truthy_dict hS m (by omega) ⟨H,I.tok _,by rw [isEmpty_kv r];exact q⟩
 | _=>exact (show False from e).elim
theorem pt_truth (ha:PE X a ta) (he:∀ whole,isTrue a X.env whole=(do let v <- whole;standAt a.pos;holding [v] (truthy v))) :
  PT X a (fun σ H Q=>ta σ H λx H'=>∃ k,TruV X.K x H' k/\Q k H'):=by
 intro pins s σ H Q I h
 exact isTrue_plain (thn (ha pins s σ H _ I h) λv s1 ⟨x,H1,I1,r1,q1⟩=>tru_ok pins s1 σ H1 x v Q I1 r1 q1) (he _)
theorem vals1 {x:V}{us:List Value} (r:Vals [x] us):∃ u,us=[u]/\RelV x u:=by
 cases r with
 | cons r1 r2=>cases r2;exact ⟨_,rfl,r1⟩
theorem vals2 {x y:V}{us:List Value} (r:Vals [x,y] us):∃ u w',us=[u,w']/\RelV x u/\RelV y w':=by
 cases r with
 | cons r1 r2=>
  cases r2 with
  | cons r3 r4=>cases r4;exact ⟨_,_,rfl,r1,r3⟩
theorem call_max2 (hc:X.calm=true):CallR X (.builtin "max") (λxs H Q=>∃ i j,xs=[.int i,.int j]/\Q (.int (if j > i then j else i)) H):=by
 intro pins s σ H xs us Q I r h
 obtain ⟨i,j,rfl,q⟩:=h
 obtain ⟨u,w',rfl,⟨t,rfl⟩,⟨t',rfl⟩⟩:=vals2 r
 refine max_two_ints (I.ok.hd hc) λh' tk k=>⟨_,H,I.kept k,?_,q⟩
 by_cases hj:j > i
 ·rw [if_pos hj,if_pos hj];exact ⟨_,rfl⟩
 ·rw [if_neg hj,if_neg hj];exact ⟨_,rfl⟩
theorem call_min2 (hc:X.calm=true):CallR X (.builtin "min") (λxs H Q=>∃ i j,xs=[.int i,.int j]/\Q (.int (if j < i then j else i)) H):=by
 intro pins s σ H xs us Q I r h
 obtain ⟨i,j,rfl,q⟩:=h
 obtain ⟨u,w',rfl,⟨t,rfl⟩,⟨t',rfl⟩⟩:=vals2 r
 refine min_two_ints (I.ok.hd hc) λh' tk k=>⟨_,H,I.kept k,?_,q⟩
 by_cases hj:j < i
 ·rw [if_pos hj,if_pos hj];exact ⟨_,rfl⟩
 ·rw [if_neg hj,if_neg hj];exact ⟨_,rfl⟩
end
end L2
namespace L2
open PySem PySem.Spec PyProof.Rows
structure ObjM (h:Heap) (x dx C:Addr) (mA:Str->Option Value):Prop where
 obj:h.get? x=some (PySem.W.instObj C dx)
 ns:h.Ns1 dx mA
 ne:dx≠x
theorem lookIn_ns {h:Heap}{dx:Addr}{mA:Str->Option Value} (n:h.Ns1 dx mA):∃ od,h.get? dx=some od/\∀ name,PySem.W.lookIn name od=some (mA name):=by
 obtain ⟨o,es,ep,ho,hd,hk,_,hm⟩:=n
 refine ⟨o,ho,λname=>?_⟩
 have e:=hm name
 unfold nsFind findBy at e
 rw [<-Array.find?_toList] at e
 unfold PySem.W.lookIn
 rw [hd]
 dsimp only
 split
 ·rename_i y q
  rw [q] at e
  exact congrArg some e
 ·rename_i q
  rw [q] at e
  have a:es.toList.any (·.refKey)=false:=by
   rw [List.any_eq_false]
   intro y hy
   obtain ⟨z,t,hkey⟩:=hk y (Array.mem_toList_iff.mp hy)
   simp [DictEntry.refKey,hkey]
  have a':¬ es.toList.any (·.refKey)=true:=by rw [a];exact zM
  rw [if_neg a']
  exact congrArg some e
theorem ObjM.look {h:Heap}{x dx C:Addr}{mA:Str->Option Value} (I:ObjM h x dx C mA):∃ od,PySem.W.InstAt h x (PySem.W.instObj C dx) C (some od)/\∀ name,PySem.W.lookIn name od=some (mA name):=
 let ⟨od,ho,hl⟩:=lookIn_ns I.ns
 ⟨od,⟨I.obj,rfl,rfl,ho⟩,hl⟩
section
variable {prog:Program}{w:World}{A:Around}{E:Value->Shared->Prop}{s:Shared}{K:PySem.W.Frag}{x dx C f:Addr}{mA:Str->Option Value}{name:Str}{v:Value}
end
theorem RelO.some_of {v:V}{o:Option Value} (r:RelO (some v) o):∃ u,o=some u/\RelV v u:=by
 cases o with
 | none=>exact (show False from r).elim
 | some u=>exact ⟨u,rfl,r⟩
section
variable {P:Program}{w:World}{H H':Hp}{h h':Heap}{a C dx:Addr}{fs fs':List (Str×V)}
theorem ins_get (hok:HOk P w H h) (e:H a=some (.ins C dx fs)):∃ mA,ObjM h a dx C mA/\(∀ f,RelO (fs.lookup f) (mA f))/\PySem.Within mA (fs.map (·.1))/\fs.length<=1000/\H dx=some (.own a):=by
 obtain ⟨d,z,ne,ob,mA,n,r,q⟩:=(show ObjOk P w H h a (.ins C dx fs) from hok a _ e)
 exact ⟨mA,⟨ob,n,ne⟩,r,q,z,d⟩
end
structure Cls (K:PySem.W.Frag) (C:Addr):Prop where
 pg:PySem.W.plainGet K C Str.empty=true
 hd:PySem.W.hasDictIn K C=true
 po:PySem.W.plainOver K C=true
 sa:PySem.W.findIn K (.ref C) "__setattr__" = some (some (.builtin "object.__setattr__"))
theorem Cls.get {K:PySem.W.Frag}{C:Addr} (c:Cls K C) (f:Str):PySem.W.plainGet K C f=true:=c.pg
section
variable {X:Cx}{pins:List (Addr×Obj)}{σ:St}{H:Hp}{s:Shared}{a C dx:Addr}{fs:List (Str×V)}{f:Str}{v:V}{A:Around}{E:Value->Shared->Prop}
end
section
variable {X:Cx}{o e value:Expr}{f:Str}{pos pos' tpos:Pos}{ta tv:TE}
end
section
variable {X:Cx}{pins:List (Addr×Obj)}{σ:St}{H:Hp}{s:Shared}{A:Around}{E:Value->Shared->Prop}{Q:Value->Shared->Prop}{c:Value}{b:Bool}
inductive TyOf (K:PySem.W.Frag) (H:Hp):V->Value->Prop where
 | non:TyOf K H .non (.type "NoneType")
 | bl (x:Bool):TyOf K H (.bl x) (.type "bool")
 | int (i:Int):TyOf K H (.int i) (.type "int")
 | str (x:Str):TyOf K H (.str x) (.type "str")
 | flt (x:UInt64):TyOf K H (.flt x) (.type "float")
 | lst {a:Addr}{xs:List V} (e:H a=some (.lst xs)):TyOf K H (.ref a) (.type "list")
 | frz {a:Addr}{o:Obj}{xs:List V} (e:H a=some (.frz o (.lst xs))):TyOf K H (.ref a) (.type "list")
 | tup {a:Addr}{xs:List V} (e:H a=some (.tup xs)):TyOf K H (.ref a) (.type "tuple")
 | dK {a:Addr}{kvs:List (Key×V)} (e:H a=some (.dK kvs)):TyOf K H (.ref a) (.type "dict")
 | dT {a:Addr}{kvs:List (List Key×V)} (e:H a=some (.dT kvs)):TyOf K H (.ref a) (.type "dict")
 | ins {a C dx:Addr}{fs:List (Str×V)} (e:H a=some (.ins C dx fs)) (cl:Cls K C) (ha:PySem.W.findIn K (.ref C) "__class__" = some (some (.builtin "object.__class__")))
   (hn:PySem.W.specialIn K (.builtin "object.__class__") "__get__" = some (some (.builtin "getset_descriptor.__get__"))) (htk:PySem.W.takesIn K (.builtin "object.__class__")=some true)
   (hm:PySem.W.mroIn K C (.type "object")=some true):TyOf K H (.ref a) (.ref C)
theorem isinst_ok {x:V}{u t:Value} (I:Inv X pins σ H s) (rx:RelV x u) (ty:TyOf X.K H x t) (e:PySem.W.kitOne X.K t c=some b) (h:∀ tk,Q (.bool b) { s with toks:=tk }) :
  wpAny (model X.prog X.w) A (call (.builtin "isinstance") [u,c]) Q E s:=by
 cases ty with
 | non=>cases (show u=Value.none from rx);exact yE PySem.W.kitx_none I.kIn True.intro e (λz=>nomatch z) h
 | bl y=>cases (show u=Value.bool y from rx);exact yE PySem.W.kitx_bool I.kIn True.intro e (λz=>nomatch z) h
 | int i=>obtain ⟨t,q⟩:=(show ∃ t,u=Value.int i t from rx);cases q;exact yE PySem.W.kitx_int I.kIn True.intro e (λz=>nomatch z) h
 | str y=>obtain ⟨t,q⟩:=(show ∃ t,u=Value.str y t from rx);cases q;exact yE PySem.W.kitx_str I.kIn True.intro e (λz=>nomatch z) h
 | flt y=>obtain ⟨t,q⟩:=(show ∃ t,u=Value.float y t from rx);cases q;exact yE PySem.W.kitx_float I.kIn True.intro e (λz=>nomatch z) h
 | @lst a xs ea=>
  cases (show u=Value.ref a from rx)
  obtain ⟨_,_,n,_,h1⟩:=(show ObjOk X.prog X.w H s.heap a (.lst xs) from I.hok a _ ea)
  exact yE PySem.W.kitx_list I.kIn ⟨_,h1,rfl⟩ e (λz=>nomatch z) h
 | @frz a ob xs ea=>
  cases (show u=Value.ref a from rx)
  obtain ⟨_,_,_,n,_,h1⟩:=(show ObjOk X.prog X.w H s.heap a (.frz ob (.lst xs)) from I.hok a _ ea)
  exact yE PySem.W.kitx_list I.kIn ⟨_,h1,rfl⟩ e (λz=>nomatch z) h
 | @tup a xs ea=>
  cases (show u=Value.ref a from rx)
  obtain ⟨_,_,_,p⟩:=(show ObjOk X.prog X.w H s.heap a (.tup xs) from I.hok a _ ea)
  obtain ⟨o,h1,h2,_⟩:=p
  exact yE PySem.W.kitx_tuple I.kIn ⟨o,h1,h2⟩ e (λz=>nomatch z) h
 | @dK a kvs ea=>
  cases (show u=Value.ref a from rx)
  obtain ⟨_,_,vs,_,p⟩:=(show ObjOk X.prog X.w H s.heap a (.dK kvs) from I.hok a _ ea)
  obtain ⟨o,es,ep,h1,h2,_⟩:=p
  exact yE PySem.W.kitx_dict I.kIn ⟨o,h1,h2.1⟩ e (λz=>nomatch z) h
 | @dT a kvs ea=>
  cases (show u=Value.ref a from rx)
  obtain ⟨_,_,xs,_,o,es,ep,h1,h2,_⟩:=(show ObjOk X.prog X.w H s.heap a (.dT kvs) from I.hok a _ ea)
  exact yE PySem.W.kitx_dict I.kIn ⟨o,h1,h2.1⟩ e (λz=>nomatch z) h
 | @ins a C dx fs ea cl ha hn htk hm=>
  cases (show u=Value.ref a from rx)
  obtain ⟨mA,O,_⟩:=ins_get I.hok ea
  obtain ⟨od,J,_⟩:=O.look
  exact yE (PySem.W.kitx_own (cl.get _) cl.hd ha hn htk hm) I.kIn J e (λz=>nomatch z) h
end
end L2
namespace L2
open PySem PySem.Spec PyProof.Rows
structure Room (k:Nat) (A:Around):Prop where
 hd:A.handled=none
 dp:A.depth + 3 * k + 5 < recursionLimit
 un:A.units + 16 * k + 200 < cLine
 gd:A.guards=some []
theorem Room.mono {j k:Nat}{A:Around} (r:Room k A) (h:j<=k):Room j A:=⟨r.hd,by have:=r.dp;omega,by have:=r.un;omega,r.gd⟩
theorem Room.deeper {k:Nat}{A:Around} (r:Room (k + 1) A) (env:Env):Room k (A.deeper env):=
 ⟨r.hd,by have:=r.dp;show A.depth + 1 + 3 * k + 5 < _;omega,by have:=r.un;show A.units + 3 + 16 * k + 200 < _;omega,r.gd⟩
theorem Room.in1 {k:Nat}{A:Around} (r:Room (k + 1) A):Room k A.in1:=
 ⟨r.hd,by have:=r.dp;show A.depth + 3 * k + 5 < _;omega,by have:=r.un;show A.units + 1 + 16 * k + 200 < _;omega,r.gd⟩
theorem Room.depth {k:Nat}{A:Around} (r:Room k A):A.depth < recursionLimit:=by have:=r.dp;omega
theorem Room.units {k:Nat}{A:Around} (r:Room k A):A.units + 64 < cLine:=by have:=r.un;omega
def tNil:TA:=λ_ H Q=>Q [] H
def tCons (ta:TE) (tr:TA):TA:=fun σ H Q=>ta σ H λx H1=>tr σ H1 λxs H2=>Q (x::xs) H2
section
variable {X:Cx}{e:Expr}{es:List Expr}{te:TE}{t:TA}{pos:Pos}
theorem wX:PA X [] tNil:=λ_ _ _ _ H Q I h=>Calls.spliced_nil ⟨[],H,I,.nil,h⟩
theorem pa_cons (ha:PE X e te) (hr:PA X es t) (hs:starEach (e::es) X.env=(false,eval e X.env)::starEach es X.env:=by rfl):PA X (e::es) (tCons te t):=by
 intro pos pins s σ H Q I h
 rw [hs]
 show wpAny _ _ (spliced ((false,eval e X.env)::backTo pos (starEach es X.env))) _ _ s
 refine Calls.spliced_cons (thn (ha pins s σ H _ I h) λu s1 ⟨x,H1,I1,r1,q1⟩=>?_)
 exact thn (hr pos pins s1 σ H1 _ I1 q1) λus s2 ⟨xs,H2,I2,r2,q2⟩=>⟨x::xs,H2,I2,.cons r1 r2,q2⟩
def tTup (t:TA):TE:=fun σ H Q=>t σ H λxs H1=>xs.length<=sizeLine/\∀ p,H1 p=none->Q (.ref p) (upd H1 p (.tup xs))
def tLst (t:TA):TE:=fun σ H Q=>t σ H λxs H1=>xs.length<=sizeLine/\∀ p,H1 p=none->Q (.ref p) (upd H1 p (.lst xs))
theorem xo {x1} (h:PA X es t):PE X (.Tuple es x1 pos) (tTup t):=by
 intro pins s σ H Q I hq
 refine wpAny_Tuple_spliced (thn (h pos pins s σ H _ I hq) λus s1 ⟨xs,H1,I1,r,z,q⟩=>⟨by rw [<-r.length];exact z,?_⟩)
 have hf:H1 s1.heap.objs.size=none:=I1.hok.fresh (zD _)
 refine ⟨.ref s1.heap.objs.size,upd H1 s1.heap.objs.size (.tup xs),I1.laid (t':=s1.toks) (λb u e=>Heap.get?_push_of_some _ e) (zD _) ?_,rfl,q _ hf⟩
 exact ⟨⟨z,new_bare⟩,us,r,⟨_,Heap.get?_push_size _ rfl,rfl,_,rfl⟩⟩
theorem wG (h:PA X es t):PE X (.List es pos) (tLst t):=by
 intro pins s σ H Q I hq
 refine wpAny_List_spliced (thn (h pos pins s σ H _ I hq) λus s1 ⟨xs,H1,I1,r,z,q⟩=>⟨by rw [<-r.length];exact z,?_⟩)
 have hf:H1 s1.heap.objs.size=none:=I1.hok.fresh (zD _)
 refine ⟨.ref s1.heap.objs.size,upd H1 s1.heap.objs.size (.lst xs),I1.laid (t':=s1.toks) (λb u e=>Heap.get?_push_of_some _ e) (zD _) ?_,rfl,q _ hf⟩
 exact ⟨z,us,0,r,Heap.get?_push_size _ rfl⟩
end
abbrev Sp:=List V->Hp->VK->XK->Prop
abbrev CXT:=List Env->Hp->Shared->XK->Value->Shared->Prop
structure Env0 (P:Program) (w:World) (K:PySem.W.Frag) (mg:Str->Option Value) (base:Heap) (A:Around) (outer:List Env) (s:Shared) (H:Hp):Prop where
 frames:A.frames=some outer
 mod:Mod K mg base
 bs:∀ b o,base.get? b=some o->s.heap.get? b=some o/\H b=none
 bsz:base.objs.size<=s.heap.objs.size
 funs:s.heap.FunFrames base outer
 frf:∀ b∈frs outer,H b=none
 hok:HOk P w H s.heap
 bare:AllBare s.gens
def CE (outer:List Env) (P:Program) (w:World) (H:Hp) (s:Shared) (Q:VK) (u:Value) (s':Shared):Prop:=
 ∃ v H',s'.os=s.os/\AllBare s'.gens/\Un (frs outer) [] H H' s.heap s'.heap/\HOk P w H' s'.heap/\RelV v u/\Q v H'
def CR (CX:CXT) (outer:List Env) (P:Program) (w:World) (H:Hp) (s:Shared) (Q:VK) (E:XK) (r:Result) (s':Shared):Prop:=
 match r with
 | .ok (.ret u)=>CE outer P w H s Q u s'
 | .ok _=>False
 | .error e=>CX outer H s E e s'
structure FnOk (P:Program) (w:World) (K:PySem.W.Frag) (mg:Str->Option Value) (base:Heap) (CX:CXT) (k:Nat) (f:Addr) (fd:FuncData) (ps:List Str) (sp:Sp):Prop where
 len:∀ vs H Q E,sp vs H Q E->vs.length=ps.length
 run:∀ (A:Around) (outer:List Env) (s:Shared) (H:Hp) (args:Args) (us:List Value) (vs:List V) (Q:VK) (E:XK),Room k A->Env0 P w K mg base A outer s H->BindsTo s fd args (ps.zip us)->Vals vs us->sp vs H Q E ->
  codeAny (model P w) A (.call (.ref f) args) (CR CX outer P w H s Q E) s
theorem Env0.in1 {P:Program}{w:World}{K:PySem.W.Frag}{mg:Str->Option Value}{base:Heap}{A:Around}{outer:List Env}{s:Shared}{H:Hp} (e:Env0 P w K mg base A outer s H) :
  Env0 P w K mg base A.in1 outer s H:=⟨e.frames,e.mod,e.bs,e.bsz,e.funs,e.frf,e.hok,e.bare⟩
section
variable {X:Cx}{pins:List (Addr×Obj)}{σ:St}{H:Hp}{s s':Shared}
theorem Inv.env0 (I:Inv X pins σ H s):Env0 X.prog X.w X.K X.mg X.base X.A X.stack s H:=
 ⟨I.ok.frames,I.ok.mod,I.bs,z6 I.ok.bsz I.sz,I.stack,I.stkFree,I.hok,I.bare⟩
theorem Inv.after {Q:VK}{u:Value} (I:Inv X pins σ H s) (h:CE X.stack X.prog X.w H s Q u s'):EP X pins σ Q u s':=by
 obtain ⟨v,H',os,bare,un,hok,r,q⟩:=h
 obtain ⟨hh,g,d,t,os'⟩:=s'
 obtain rfl:os'=s.os:=os
 exact ⟨v,H',I.call (h':=hh) (g':=g) (d':=d) (t':=t) (ch:=[]) un hok bare (λb z=>absurd z (by simp)),r,q⟩
end
def tCall (sp:Sp) (dvs:List V) (E:XK) (t:TA):TE:=fun σ H Q=>t σ H λvs H1=>sp (vs++dvs) H1 Q E
def Binds (K:PySem.W.Frag) (fd:FuncData) (ps:List Str) (ds:List Value):Prop:=
 ∀ (s:Shared) (us:List Value),K.In s.heap->(us++ds).length=ps.length->BindsTo s fd ⟨us,[]⟩ (ps.zip (us++ds))
theorem Binds.all {K:PySem.W.Frag}{fd:FuncData}{ps:List Str} (h:∀ us:List Value,us.length=ps.length->bindArgs fd ⟨us,[]⟩=pure (ps.zip us)):Binds K fd ps []:=λs us _ hl=>by
 rw [yc] at hl ⊢
 exact .of_eq (h us hl)
def Passes (CX:CXT) (X:Cx) (E:XK):Prop:=∀ (pins:List (Addr×Obj)) (σ:St) (H:Hp) (s:Shared) (e:Value) (s':Shared),Inv X pins σ H s->CX X.stack H s E e s'->X.xe e s'
section
variable {X:Cx}{CX:CXT}{k:Nat}{f C:Addr}{fd:FuncData}{ps:List Str}{sp:Sp}{dvs:List V}{ds:List Value}{E:XK}{x m:Str}{p pos apos:Pos}{e o:Expr}{es:List Expr}{ta:TE}{t:TA}
theorem run_fn {pins:List (Addr×Obj)}{σ:St}{H:Hp}{s:Shared}{Q:VK}{us:List Value}{vs:List V} (F:FnOk X.prog X.w X.K X.mg X.base CX k f fd ps sp) (hr:Room k X.A) (hb:Binds X.K fd ps ds) (hd:Vals dvs ds) (hx:Passes CX X E)
  (I:Inv X pins σ H s) (r:Vals vs us) (h:sp (vs++dvs) H Q E):wpAny (model X.prog X.w) X.A (call (.ref f) us) (EP X pins σ Q) X.xe s:=by
 have r2:Vals (vs++dvs) (us++ds):=r.append hd
 have hl:(us++ds).length=ps.length:=by rw [<-r2.length];exact F.len _ _ _ _ h
 refine wpAny_call (codeAny_mono (F.run X.A X.stack s H ⟨us,[]⟩ (us++ds) (vs++dvs) Q E hr I.env0 (hb s us I.kIn hl) r2 h) λr s' hq=>?_)
 cases r with
 | error e=>exact hx pins σ H s e s' I hq
 | ok fl=>
  cases fl with
  | ret u=>exact I.after hq
  | next=>exact False.elim hq
  | brk=>exact False.elim hq
  | cont=>exact False.elim hq
theorem xP (F:FnOk X.prog X.w X.K X.mg X.base CX k f fd ps sp) (hr:Room k X.A) (hg:Gl X x) (hm:X.mg x=some (.ref f)) (hk:zJ X.K (.ref f)=true) (hb:Binds X.K fd ps ds) (hd:Vals dvs ds) (hx:Passes CX X E)
  (ha:PA X (e::es) t) (hdb:(x == ("__debug__" : Str))=false:=by decide) (he:starEach (e::es) X.env=(false,eval e X.env)::starEach es X.env:=by rfl) (hpl:(backTo pos (starEach es X.env)).any (·.1)=false:=by rfl) :
  PE X (.Call (.Name x p) (e::es) [] pos) (tCall sp dvs E t):=by
 intro pins s σ H Q I h
 refine wpAny_Call_Name_kw (ld_glob I hg hm ?_ hdb)
 refine PySem.W.callWith_K (h₀:=X.base) I.ok.mod.kin hk (thn (ha pos pins s σ H _ I h) λus s1 ⟨vs,H1,I1,r,q⟩=>⟨I1.kIn,?_⟩) he hpl
 exact run_fn F hr hb hd hx I1 r q
end
section
variable {X:Cx}{CX:CXT}{k:Nat}{f C:Addr}{fd:FuncData}{ps ks:List Str}{sp:Sp}{E:XK}{x m:Str}{p pos apos kpos:Pos}{e o:Expr}{es:List Expr}{kws:List Keyword}{te ta:TE}{t tk:TA}{nm:Option Str}
variable {g:List Value->List Value->List Value}{gV:List V->List V->List V}
end
structure FnScope (N P:List Str) (sc:Scope):Prop where
 kind:sc.kind=.function
 co:sc.isCoroutine=false
 gen:sc.isGenerator=false
 nd:N.Nodup
 pre:N.take P.length=P
 par:∀ x∈P,sc.names.lookup x=some .local\/sc.names.lookup x=some .cell
 nofree:∀ y∈sc.names,y.2≠.free
theorem bindL_out {kindOf:Str->Option NameKind}{x:Str}:∀ {binds:List (Str×Value)}{m:Str->Option Value},(∀ v,(x,v) ∉ binds)->bindL kindOf binds m x=m x
 | [],_,_=>rfl
 | (n,v)::r,m,h=>by
  unfold bindL
  rw [bindL_out λw hw=>h w (zj _ hw)]
  split
  ·have:x≠n:=by rintro rfl;exact h v yD
   simp [this]
  ·rfl
theorem bindC_out {kindOf:Str->Option NameKind}{x:Str}:∀ {binds:List (Str×Value)}{m:Str->Option Value},(∀ v,(x,v) ∉ binds)->bindC kindOf binds m x=m x
 | [],_,_=>rfl
 | (n,v)::r,m,h=>by
  unfold bindC
  rw [bindC_out λw hw=>h w (zj _ hw)]
  split
  ·rfl
  ·have:x≠n:=by rintro rfl;exact h v yD
   simp [this]
theorem bindL_get {kindOf:Str->Option NameKind}{x:Str}{v:Value}:∀ {P:List Str}{vs:List Value}{i:Nat}{m:Str->Option Value},P.Nodup->P[i]?=some x->vs[i]?=some v->kindOf x=some .local ->
  bindL kindOf (P.zip vs) m x=some v
 | [],_,_,_,_,h,_,_=>by simp at h
 | _::_,[],_,_,_,_,h,_=>by simp at h
 | p::P,w::vs,0,m,nd,h1,h2,hk=>by
  simp at h1 h2;subst h1;subst h2
  show bindL kindOf ((p,w)::P.zip vs) m p=_
  unfold bindL
  rw [bindL_out λv hv=>(List.nodup_cons.mp nd).1 (List.of_mem_zip hv).1,if_pos hk]
  simp
 | p::P,w::vs,i + 1,m,nd,h1,h2,hk=>by
  show bindL kindOf ((p,w)::P.zip vs) m x=_
  unfold bindL
  exact bindL_get (i:=i) (List.nodup_cons.mp nd).2 (by simpa using h1) (by simpa using h2) hk
theorem bindC_get {kindOf:Str->Option NameKind}{x:Str}{v:Value}:∀ {P:List Str}{vs:List Value}{i:Nat}{m:Str->Option Value},P.Nodup->P[i]?=some x->vs[i]?=some v->kindOf x≠some .local ->
  bindC kindOf (P.zip vs) m x=some v
 | [],_,_,_,_,h,_,_=>by simp at h
 | _::_,[],_,_,_,_,h,_=>by simp at h
 | p::P,w::vs,0,m,nd,h1,h2,hk=>by
  simp at h1 h2;subst h1;subst h2
  show bindC kindOf ((p,w)::P.zip vs) m p=_
  unfold bindC
  rw [bindC_out λv hv=>(List.nodup_cons.mp nd).1 (List.of_mem_zip hv).1,if_neg hk]
  simp
 | p::P,w::vs,i + 1,m,nd,h1,h2,hk=>by
  show bindC kindOf ((p,w)::P.zip vs) m x=_
  unfold bindC
  exact bindC_get (i:=i) (List.nodup_cons.mp nd).2 (by simpa using h1) (by simpa using h2) hk
def start (N:List Str) (vs:List V):St:=vs.map some++List.replicate (N.length - vs.length) none
def cxOf (CX:CXT) (P:Program) (w:World) (K:PySem.W.Frag) (mg:Str->Option Value) (base:Heap) (N:List Str) (qual:Str) (scope:Scope) (f:Addr) (cd:Value) (A:Around) (outer:List Env) (s:Shared) (H:Hp) (E:XK):Cx where
 prog:=P
 w:=w
 K:=K
 mg:=mg
 base:=base
 A:=A.deeper (envOfC qual scope s.heap.objs.size f cd)
 N:=N
 s₀:=s
 H₀:=H
 env:=envOfC qual scope s.heap.objs.size f cd
 outer:=outer
 stack:=envOfC qual scope s.heap.objs.size f cd::outer
 ex:=[]
 calm:=true
 fn:=λ_=>true
 pn:=[]
 xe:=λe s'=>wpAny (model P w) (A.deeper (envOfC qual scope s.heap.objs.size f cd)) (leaving (envOfC qual scope s.heap.objs.size f cd) e) (λ_ s''=>CX outer H s E e s'') (λe' s''=>CX outer H s E e' s'') s'
theorem cell_has {sc:Scope}{n:Nat}{x:Str} (h:sc.names.lookup x=some .cell):∃ c,(cellsFrom n sc.names []).lookup x=some c:=by
 have q:=PySem.W.cellsFrom_some sc.names n [] (.inl h)
 exact Option.isSome_iff_exists.mp q
theorem inv_start {CX:CXT}{P:Program}{w:World}{K:PySem.W.Frag}{mg:Str->Option Value}{base:Heap}{N ps:List Str}{qual:Str}{scope:Scope}{f:Addr}{cd:Value}{A:Around}{outer:List Env} {s s1:Shared}{H:Hp}{E:XK}{us:List Value}{vs:List V}
  (S:FnScope N ps scope) (hd:A.handled=none) (e0:Env0 P w K mg base A outer s H) (hl:vs.length=ps.length) (r:Vals vs us)
  (x:InCallC s s.heap.objs.size (bindL (envOfC qual scope s.heap.objs.size f cd).kindOf (ps.zip us) λ_=>none) (cellsFrom (s.heap.objs.size + 1) scope.names []) (bindC (envOfC qual scope s.heap.objs.size f cd).kindOf (ps.zip us) λ_=>none) s1) :
  Inv (cxOf CX P w K mg base N qual scope f cd A outer s H E) [] (start N vs) H s1:=by
 have hpl:ps.length<=N.length:=by have:=congrArg List.length S.pre;rw [zZ] at this;omega
 obtain ⟨h1,tk,rfl,hk⟩:=x.done
 have noA:∀ b:Addr,b ∉ (cxOf CX P w K mg base N qual scope f cd A outer s H E).ex:=λb z=>absurd (show b∈([]:List Addr) from z) (by simp)
 refine ⟨⟨e0.mod,S.kind,rfl,rfl,zD _,λy z c h1 h2=>?_,λy hy=>?_,λy c _ h=>?_,λ_=>hd,Around.frames_deeper e0.frames,.inr ⟨rfl,rfl⟩,λb z=>absurd z (noA b),e0.bs,e0.bsz,λb _ _=>noA b,λb z=>absurd z (noA b),e0.funs,e0.frf⟩,
  rfl,e0.bare,Un.kept hk,⟨_,x.toInCall.ns,λi y v h1 h2 h3=>?_⟩,λy c h=>⟨_,x.cell y c h⟩,e0.hok.fresh (zD _),λy c h=>?_,λp hp=>absurd (show p∈([]:List (Addr×Obj)) from hp) (by simp),e0.hok.kept hk,?_⟩
 ·exact name_of_addr x.apart (yH h1) (yH h2)
 ·have hy:scope.names.lookup y=some .cell\/scope.names.lookup y=some .free:=hy
  rcases hy with hy | hy
  ·exact cell_has hy
  ·exact absurd rfl (S.nofree _ (yH hy))
 ·exact xB (x.above y c (yH h))
 ·have hi:i < vs.length:=by
   unfold start at h2
   by_cases hi:i < vs.length
   ·exact hi
   ·rw [zh (by simpa using hi)] at h2
    rw [List.getElem?_replicate] at h2
    split at h2 <;> cases h2
  have ha:vs[i]?=some v:=by
   unfold start at h2
   rw [zp (by simpa using hi),zR] at h2
   cases e:vs[i]? with
   | none=>rw [e] at h2;cases h2
   | some a=>rw [e] at h2;cases h2;rfl
  obtain ⟨u,hu,rv⟩:=r.get ha
  have hp:ps[i]?=some y:=by
   rw [<-S.pre,List.getElem?_take_of_lt (by omega)];exact h1
  have ndP:ps.Nodup:=by rw [<-S.pre];exact S.nd.sublist (List.take_sublist _ _)
  refine ⟨u,rv,?_⟩
  rcases S.par y (zC hp) with k | k
  ·exact .inl ⟨k,bindL_get ndP hp hu k⟩
  ·obtain ⟨c,e⟩:=cell_has (n:=s.heap.objs.size + 1) k
   refine .inr ⟨.inl k,c,e,?_⟩
   have q:=x.cell y c e
   rw [bindC_get ndP hp hu (by show scope.names.lookup y≠_;rw [k];decide)] at q
   exact q
 ·exact e0.hok.fresh (xB (x.above y c (yH h)))
 ·unfold start
  show _=N.length
  rw [zP,zA,List.length_replicate]
  omega
theorem fn_of {CX:CXT}{P:Program}{w:World}{K:PySem.W.Frag}{mg:Str->Option Value}{base:Heap}{k:Nat}{f:Addr}{name qual:Str}{params:Arguments}{body:List Stmt}{scope:Scope}{dV kV doc pm cdv ct oc:Value}{an od:Option Addr}
  {osl:Array (Option Value)}{N ps:List Str}{sp:Sp} (lk:K.lookup f=some ⟨oc,od,.func (xC name qual params body scope dV kV doc pm an cdv ct),osl⟩) (hcd:PySem.W.codeIn K cdv qual=true) (S:FnScope N ps scope)
  (len:∀ vs H Q E,sp vs H Q E->vs.length=ps.length)
  (hbody:∀ (A:Around) (outer:List Env) (s:Shared) (H:Hp) (vs:List V) (Q:VK) (E:XK),Room k (A.deeper (envOfC qual scope s.heap.objs.size f cdv))->sp vs H Q E ->
   ∃ t,PSs (cxOf CX P w K mg base N qual scope f cdv A outer s H E) body t/\t { nx:=λ_ H'=>Q .non H',rt:=Q } (start N vs) H) :
  FnOk P w K mg base CX (k + 1) f (xC name qual params body scope dV kV doc pm an cdv ct) ps sp:=by
 refine ⟨len,λA outer s H args us vs Q E hr e0 hb r hsp=>?_⟩
 have hl:=len _ _ _ _ hsp
 have KX:K.In s.heap:=e0.mod.kin.keeps λb o e=>(e0.bs b o e).1
 have lim:s.heap.NoLimit:=e0.mod.nolimit.keeps λb o e=>(e0.bs b o e).1
 have hkind:∀ y∈ps.zip us,scope.names.lookup y.1=some .local\/(scope.names.lookup y.1=some .cell/\((cellsFrom (s.heap.objs.size + 1) scope.names []).lookup y.1).isSome=true):=λ⟨n,v⟩ hy=>by
  rcases S.par n (List.of_mem_zip hy).1 with q | q
  ·exact .inl q
  ·exact .inr ⟨q,PySem.W.cellsFrom_some _ _ _ (.inl q)⟩
 refine codeAny_call_function hr.depth (KX _ _ lk) rfl S.co S.gen rfl (PySem.W.codeRec_of KX hcd) (hb _ _ _ _ ?_)
 refine wpAny_newFunctionEnv_cells S.kind hkind λenv he s1 x=>?_
 subst he
 refine ⟨lim.keeps x.toInCall.keep,codeAny_func ?_⟩
 obtain ⟨t,ht,hq⟩:=hbody A outer s H vs Q E (hr.deeper _) hsp
 have I:Inv (cxOf CX P w K mg base N qual scope f cdv A outer s H E) [] (start N vs) H s1:=inv_start S hr.hd e0 hl r x
 refine wpAny_mono (ht [] s1 (start N vs) H _ I hq) (λfl s' hs=>?_) λe s' hs=>hs
 have fin:∀ {σ':St}{H':Hp}{v:V}{u:Value},Inv (cxOf CX P w K mg base N qual scope f cdv A outer s H E) [] σ' H' s'->RelV v u->Q v H'->CE outer P w H s Q u s':=
  λ{σ' H' v u} J rv q=>⟨v,H',J.os,J.bare,J.base,J.hok,rv,q⟩
 cases fl with
 | ret u=>
  obtain ⟨v,σ',H',J,rv,q⟩:=hs
  exact fin J rv q
 | next=>
  obtain ⟨σ',H',J,q⟩:=hs
  exact fin (v:=V.non) (u:=Value.none) J rfl q
 | brk=>
  obtain ⟨_,_,_,q⟩:=hs
  exact False.elim q
 | cont=>
  obtain ⟨_,_,_,q⟩:=hs
  exact False.elim q
end L2
namespace L2
open PySem PySem.Spec PyProof.Rows
section
variable {X:Cx}{x:Str}{p pos:Pos}{e:Expr}{es:List Expr}{t:TA}{id T:String}{r:List V->Hp->VK->Prop}
def tCB (r:List V->Hp->VK->Prop) (t:TA):TE:=fun σ H Q=>t σ H λvs H1=>r vs H1 Q
theorem xW (hc:CallR X (.builtin id) r) (hg:Gl X x) (hm:X.mg x=none) (hv:bootBuiltins x=some (.builtin id)) (ha:PA X (e::es) t) (hn:x ≠ "__name__" := by decide) (hdb:(x == ("__debug__" : Str))=false:=by decide)
  (he:starEach (e::es) X.env=(false,eval e X.env)::starEach es X.env:=by rfl) (hpl:(backTo pos (starEach es X.env)).any (·.1)=false:=by rfl):PE X (.Call (.Name x p) (e::es) [] pos) (tCB r t):=by
 intro pins s σ H Q I h
 refine wpAny_Call_Name_kw (ld_blt I hg hm hv ?_ hn hdb)
 exact PyProof.Rows.callWith_builtin1 (thn (ha pos pins s σ H _ I h) λus s1 ⟨vs,H1,I1,r1,q1⟩=>hc pins s1 σ H1 vs us Q I1 r1 q1) he hpl
theorem pe_callTy (hc:CallR X (.type T) r) (hg:Gl X x) (hm:X.mg x=none) (hv:bootBuiltins x=some (.type T)) (ha:PA X (e::es) t) (hn:x ≠ "__name__" := by decide) (hdb:(x == ("__debug__" : Str))=false:=by decide)
  (he:starEach (e::es) X.env=(false,eval e X.env)::starEach es X.env:=by rfl) (hpl:(backTo pos (starEach es X.env)).any (·.1)=false:=by rfl):PE X (.Call (.Name x p) (e::es) [] pos) (tCB r t):=by
 intro pins s σ H Q I h
 refine wpAny_Call_Name_kw (ld_blt I hg hm hv ?_ hn hdb)
 exact yB (thn (ha pos pins s σ H _ I h) λus s1 ⟨vs,H1,I1,r1,q1⟩=>hc pins s1 σ H1 vs us Q I1 r1 q1) he hpl
theorem pe_callTy0 (hc:CallR X (.type T) r) (hg:Gl X x) (hm:X.mg x=none) (hv:bootBuiltins x=some (.type T)) (hn:x ≠ "__name__" := by decide) (hdb:(x == ("__debug__" : Str))=false:=by decide) :
  PE X (.Call (.Name x p) [] [] pos) (tCB r tNil):=by
 intro pins s σ H Q I h
 refine wpAny_Call_Name_kw (ld_blt I hg hm hv ?_ hn hdb)
 exact PyProof.Rows.callWith_type0 (hc pins s σ H [] [] Q I .nil h)
end
end L2
namespace L2
open PySem PySem.Spec PyProof.Rows
section
variable {κ:Type} [DecidableEq κ]
def valV (kvs:List (κ×V)) (k:κ):Option V:=(kvs.find? λkv=>decide (kv.1=k)).map (·.2)
def putK (kvs:List (κ×V)) (k:κ) (v:V):List (κ×V):=
 if (kvs.any λkv=>decide (kv.1=k))=true then kvs.map (λkv=>if kv.1=k then (kv.1,v) else kv) else kvs++[(k,v)]
theorem wK {p:κ×V}{r:List (κ×V)}{k:κ} (e:p.1=k):valV (p::r) k=some p.2:=by simp [valV,yp,e]
theorem wL {p:κ×V}{r:List (κ×V)}{k:κ} (e:¬ p.1=k):valV (p::r) k=valV r k:=by simp [valV,yp,e]
theorem valV_any (k:κ):∀ kvs:List (κ×V),(kvs.any λkv=>decide (kv.1=k))=(valV kvs k).isSome
 | []=>rfl
 | p::r=>by
  rw [yr]
  by_cases e:p.1=k
  ·simp only [wK e,decide_eq_true e,Bool.true_or,Option.isSome_some]
  ·rw [wL e,decide_eq_false e,Bool.false_or];exact valV_any k r
theorem valV_map (k j:κ) (y:V):∀ kvs:List (κ×V),valV (kvs.map λkv=>if kv.1=k then (kv.1,y) else kv) j=(valV kvs j).map λx=>if j=k then y else x
 | []=>rfl
 | p::r=>by
  have ih:=valV_map k j y r
  rw [zk]
  by_cases h:p.1=k
  ·rw [if_pos h]
   by_cases e:p.1=j
   ·rw [wK (p:=(p.1,y)) e,wK e,yb,if_pos (e.symm.trans h)]
   ·rw [wL (p:=(p.1,y)) e,wL e,ih]
  ·rw [if_neg h]
   by_cases e:p.1=j
   ·rw [wK (p:=p) e,wK e,yb,if_neg (λz=>h (e.trans z))]
   ·rw [wL (p:=p) e,wL e,ih]
theorem valV_snoc (k j:κ) (y:V):∀ kvs:List (κ×V),valV kvs k=none->valV (kvs++[(k,y)]) j=if j=k then some y else valV kvs j
 | [],_=>by
  by_cases e:k=j
  ·rw [if_pos e.symm];exact wK (p:=(k,y)) e
  ·rw [if_neg (λz=>e z.symm)];exact wL (p:=(k,y)) e
 | p::r,hn=>by
  rw [yz]
  have hk:¬ p.1=k:=λz=>by rw [wK z] at hn;cases hn
  rw [wL hk] at hn
  have ih:=valV_snoc k j y r hn
  by_cases e:p.1=j
  ·rw [wK e,wK e,if_neg (λz=>hk (e.trans z))]
  ·rw [wL e,wL e,ih]
theorem valV_put (kvs:List (κ×V)) (k j:κ) (y:V):valV (putK kvs k y) j=if j=k then some y else valV kvs j:=by
 unfold putK
 by_cases a:(kvs.any λkv=>decide (kv.1=k))=true
 ·rw [if_pos a,valV_map]
  rw [valV_any] at a
  by_cases e:j=k
  ·obtain ⟨x,hx⟩:=Option.isSome_iff_exists.mp a
   rw [if_pos e,e,hx,yb,if_pos rfl]
  ·rw [if_neg e]
   cases valV kvs j with
   | none=>rfl
   | some x=>rw [yb,if_neg e]
 ·rw [if_neg a]
  refine valV_snoc k j y kvs ?_
  rw [valV_any] at a
  cases q:valV kvs k with
  | none=>rfl
  | some x=>rw [q] at a;exact (a rfl).elim
theorem length_putK (kvs:List (κ×V)) (k:κ) (v:V):(putK kvs k v).length<=kvs.length + 1:=by
 unfold putK
 split
 ·rw [zA];omega
 ·rw [zP,za,yM];omega
theorem RelO.isSome_eq {o:Option V}{u:Option Value} (r:RelO o u):o.isSome=u.isSome:=by
 cases o with
 | none=>cases u with
  | none=>rfl
  | some _=>exact (show False from r).elim
 | some _=>cases u with
  | none=>exact (show False from r).elim
  | some _=>rfl
theorem KV.val {kvs:List (κ×V)}{vs:List (κ×Value)} (r:KV kvs vs) (k:κ):RelO (valV kvs k) (valueAt vs k):=by
 unfold KV at r
 induction r with
 | nil=>exact True.intro
 | @cons p q ps qs h t ih=>
  obtain ⟨h1,h2⟩:=h
  by_cases e:p.1=k
  ·have e':q.1=k:=h1.symm.trans e
   have b:valueAt (q::qs) k=some q.2:=by simp [valueAt,yp,e']
   rw [wK e,b];exact h2
  ·have e':¬ q.1=k:=λz=>e (h1.trans z)
   have b:valueAt (q::qs) k=valueAt qs k:=by simp [valueAt,yp,e']
   rw [wL e,b];exact ih
theorem KV.any {kvs:List (κ×V)}{vs:List (κ×Value)} (r:KV kvs vs) (k:κ):(kvs.any λkv=>decide (kv.1=k))=vs.any λkv=>decide (kv.1=k):=by
 unfold KV at r
 induction r with
 | nil=>rfl
 | cons h t ih=>rw [yr,yr,ih,h.1]
theorem KV.repl {kvs:List (κ×V)}{vs:List (κ×Value)} (r:KV kvs vs) (k:κ) {y:V}{u:Value} (ry:RelV y u) :
  KV (kvs.map λkv=>if kv.1=k then (kv.1,y) else kv) (vs.map λkv=>if kv.1=k then (kv.1,u) else kv):=by
 unfold KV at r ⊢
 induction r with
 | nil=>exact .nil
 | @cons p q ps qs h t ih=>
  rw [zk,zk]
  refine .cons ?_ ih
  obtain ⟨h1,h2⟩:=h
  by_cases e:p.1=k
  ·rw [if_pos e,if_pos (h1.symm.trans e)];exact ⟨h1,ry⟩
  ·rw [if_neg e,if_neg (λz=>e (h1.trans z))];exact ⟨h1,h2⟩
theorem KV.put {kvs:List (κ×V)}{vs:List (κ×Value)} (r:KV kvs vs) (k:κ) {y:V}{u:Value} (ry:RelV y u):KV (putK kvs k y) (stored vs k u):=by
 unfold putK stored
 rw [r.any k]
 by_cases e:(vs.any λkv=>decide (kv.1=k))=true
 ·rw [if_pos e,if_pos e];exact r.repl k ry
 ·rw [if_neg e,if_neg e];exact Paired.snoc r ⟨rfl,ry⟩
theorem KV.length {kvs:List (κ×V)}{vs:List (κ×Value)} (r:KV kvs vs):kvs.length=vs.length:=Paired.length r
end
theorem kV_is {P:Program}{w:World}{k:Key}{u:Value} (r:RelV (kV k) u):(mixKind P w).is k u=true:=by
 cases k with
 | inl i=>obtain ⟨t,e⟩:=(show ∃ t,u=Value.int i t from r);subst e;exact mixKind_int P w i t
 | inr x=>obtain ⟨t,e⟩:=(show ∃ t,u=Value.str x t from r);subst e;exact mixKind_str P w x t
theorem items_are {P:Program}{w:World}:∀ {ks:List Key}{us:List Value},Vals (ks.map kV) us->ItemsAre (mixKind P w) ks us
 | [],_,r=>by rw [xD] at r;cases r;exact .nil
 | k::ks,_,r=>by
  rw [zk] at r
  cases r with
  | cons h t=>exact .cons (kV_is h) (items_are t)
abbrev KT (H:Hp):List (List Key×V)->List (List Key×Addr×Value)->Prop:=Paired λp q=>p.1=q.1/\H q.2.1=some (.tup (p.1.map kV))/\RelV p.2 q.2.2
theorem KT.val {H:Hp}{kvs:List (List Key×V)}{xs:List (List Key×Addr×Value)} (r:KT H kvs xs) (k:List Key):RelO (valV kvs k) ((atKey xs k).map (·.2)):=by
 induction r with
 | nil=>exact True.intro
 | @cons p q ps qs h t ih=>
  obtain ⟨h1,_,h2⟩:=h
  by_cases e:p.1=k
  ·have e':q.1=k:=h1.symm.trans e
   have b:atKey (q::qs) k=some q.2:=by simp [atKey,yp,e']
   rw [wK e,b];exact h2
  ·have e':¬ q.1=k:=λz=>e (h1.trans z)
   have b:atKey (q::qs) k=atKey qs k:=by simp [atKey,yp,e']
   rw [wL e,b];exact ih
theorem KT.repl {H:Hp}{kvs:List (List Key×V)}{xs:List (List Key×Addr×Value)} (r:KT H kvs xs) (k:List Key) {y:V}{u:Value} (ry:RelV y u) :
  KT H (kvs.map λkv=>if kv.1=k then (kv.1,y) else kv) (xs.map (putAt k u)):=by
 induction r with
 | nil=>exact .nil
 | @cons p q ps qs h t ih=>
  rw [zk,zk]
  refine .cons ?_ ih
  obtain ⟨h1,h2,h3⟩:=h
  unfold putAt
  by_cases e:p.1=k
  ·rw [if_pos e,if_pos (h1.symm.trans e)];exact ⟨h1,h2,ry⟩
  ·rw [if_neg e,if_neg (λz=>e (h1.trans z))];exact ⟨h1,h2,h3⟩
theorem KT.put {H:Hp}{kvs:List (List Key×V)}{xs:List (List Key×Addr×Value)} (r:KT H kvs xs) (k:List Key) {b:Addr}{y:V}{u:Value} (hb:H b=some (.tup (k.map kV))) (ry:RelV y u) :
  KT H (putK kvs k y) (storedH xs k b u):=by
 have e:(kvs.any λkv=>decide (kv.1=k))=(atKey xs k).isSome:=by
  rw [valV_any,(r.val k).isSome_eq,Option.isSome_map]
 unfold putK storedH
 rw [e]
 by_cases q:(atKey xs k).isSome=true
 ·rw [if_pos q,if_pos q];exact r.repl k ry
 ·rw [if_neg q,if_neg q];exact Paired.snoc r ⟨rfl,hb,ry⟩
theorem KT.keeps {H H':Hp}{kvs:List (List Key×V)}{xs:List (List Key×Addr×Value)} (r:KT H kvs xs) (ht:∀ b ys,H b=some (.tup ys)->H' b=some (.tup ys)):KT H' kvs xs:=
 Paired.mapP r λ_ _ z=>⟨z.1,ht _ _ z.2.1,z.2.2⟩
section
variable {P:Program}{w:World}{H:Hp}{h:Heap}{a:Addr}
theorem rd_of {u:HO} (ok:HOk P w H h) (e:Rd H a u):ObjOk P w H h a u:=e.ok ok
theorem dk_rd {kvs:List (Key×V)} (ok:HOk P w H h) (e:Rd H a (.dK kvs)):kvs.length<=sizeLine/\(a == sysModules)=false/\∃ vs,KV kvs vs/\h.DictOf (mixKind P w) a vs:=
 show ObjOk P w H h a (.dK kvs) from rd_of ok e
theorem dk_of {kvs:List (Key×V)} (ok:HOk P w H h) (e:H a=some (.dK kvs)):kvs.length<=sizeLine/\(a == sysModules)=false/\∃ vs,KV kvs vs/\h.DictOf (mixKind P w) a vs:=dk_rd ok (.inl e)
theorem key_of {ks:List Key} (ok:HOk P w H h) (e:H a=some (.tup (ks.map kV))):(tupleKind (mixKind P w)).is h ks a:=by
 obtain ⟨_,its,r,o,h1,h2,n,h3⟩:=(show ObjOk P w H h a (.tup (ks.map kV)) from ok a _ e)
 exact ⟨o,its.toArray,n,h1,h2,h3,by simpa using items_are r⟩
theorem dt_rd {kvs:List (List Key×V)} (ok:HOk P w H h) (e:Rd H a (.dT kvs)):kvs.length<=sizeLine/\(a == sysModules)=false /\
  ∃ xs,KT H kvs xs/\h.DictOfH (tupleKind (mixKind P w)) a xs:=by
 obtain ⟨z,y,xs,r,o,es,ep,h1,h2,h3,h4,h5⟩:=(show ObjOk P w H h a (.dT kvs) from rd_of ok e)
 refine ⟨z,y,xs,r,o,es,ep,h1,h2,h3,h4,λx hx=>?_,h5⟩
 have all:∀ {l:List (List Key×V)}{m:List (List Key×Addr×Value)},KT H l m->∀ x∈m,(tupleKind (mixKind P w)).is h x.1 x.2.1:=by
  intro l m q
  induction q with
  | nil=>intro x hx;exact nomatch hx
  | @cons p q ps qs hq t ih=>
   intro x hx
   rcases zF.mp hx with e | hx
   ·subst e
    exact key_of ok (by rw [<-hq.1];exact hq.2.1)
   ·exact ih x hx
 exact all r x hx
theorem dt_of {kvs:List (List Key×V)} (ok:HOk P w H h) (e:H a=some (.dT kvs)):kvs.length<=sizeLine/\(a == sysModules)=false /\
  ∃ xs,KT H kvs xs/\h.DictOfH (tupleKind (mixKind P w)) a xs:=dt_rd ok (.inl e)
end
def DGet (H:Hp) (a:Addr) (y:V) (r:Option V):Prop:=
 (∃ kvs k,Rd H a (.dK kvs)/\y=kV k/\r=valV kvs k)\/∃ kvs k b,Rd H a (.dT kvs)/\y=.ref b/\H b=some (.tup (k.map kV))/\r=valV kvs k
def DPut (H:Hp) (a:Addr) (y v:V) (H':Hp):Prop:=
 (∃ kvs k,H a=some (.dK kvs)/\y=kV k/\kvs.length < sizeLine/\H'=upd H a (.dK (putK kvs k v))) \/
 ∃ kvs k b,H a=some (.dT kvs)/\y=.ref b/\H b=some (.tup (k.map kV))/\kvs.length < sizeLine/\H'=upd H a (.dT (putK kvs k v))
theorem DGet.k {H:Hp}{a:Addr}{kvs:List (Key×V)}{k:Key} (e:H a=some (.dK kvs)):DGet H a (kV k) (valV kvs k):=.inl ⟨kvs,k,.inl e,rfl,rfl⟩
theorem DPut.k {H:Hp}{a:Addr}{kvs:List (Key×V)}{k:Key}{v:V} (e:H a=some (.dK kvs)) (hl:kvs.length < sizeLine):DPut H a (kV k) v (upd H a (.dK (putK kvs k v))):=.inl ⟨kvs,k,e,rfl,hl,rfl⟩
section
variable {X:Cx}{pins:List (Addr×Obj)}{σ:St}{H:Hp}{s:Shared}{a:Addr}{y v:V}{u r:Value}{o:Option V}{A:Around}{E:Value->Shared->Prop}
theorem Inv.big (I:Inv X pins σ H s):sysModules < s.heap.objs.size:=by
 have h:mainGlobals < s.heap.objs.size:=(I.mod.glob.keeps I.bk).lt
 exact Nat.lt_trans (by decide) h
theorem d_getItem {Q:Value->Shared->Prop} (hu:A.units + 1 < cLine) (I:Inv X pins σ H s) (g:DGet H a y (some v)) (ry:RelV y u) (h:∀ w' s',Inv X pins σ H s'->RelV v w'->Q w' s') :
  wpAny (model X.prog X.w) A (getItem (.ref a) u) Q E s:=by
 rcases g with ⟨kvs,k,e,ey,l⟩ | ⟨kvs,k,b,e,ey,eb,l⟩
 ·subst ey
  obtain ⟨z,hd,vs,rel,dd⟩:=dk_rd I.hok e
  obtain ⟨w',hw,rw'⟩:=RelO.some_of (v:=v) (o:=valueAt vs k) (by rw [l];exact rel.val k)
  exact wpAny_getItem_of (kV_is ry) dd.mapOf hw (h w' _ (I.tok _) rw')
 ·subst ey
  cases (show u=Value.ref b from ry)
  obtain ⟨z,hd,xs,rel,dd⟩:=dt_rd I.hok e
  obtain ⟨w',hw,rw'⟩:=RelO.some_of (v:=v) (o:=(atKey xs k).map (·.2)) (by rw [l];exact rel.val k)
  obtain ⟨p,hp,hp2⟩:=Option.map_eq_some_iff.mp hw
  refine wpAny_getItem_heap (tupleKind_room_in1 hu) (key_of I.hok eb) dd hp ?_
  rw [hp2]
  exact h w' _ (I.tok _) rw'
theorem d_write {h':Heap}{t':Nat}{ob:HO} (I:Inv X pins σ H s) (mu:Mut (H a)) (hs:Heap.SameBut a s.heap h') (he:∃ q,h'.get? a=some q) (new:ObjOk X.prog X.w (upd H a ob) h' a ob) :
  Inv X pins σ (upd H a ob) { s with heap:=h',toks:=t' }:=
 I.write (x:=a) (e:=a) mu (.inl rfl) (λb q hb z=>(hs.2 b hb).trans z) he new
theorem dk_new {P:Program}{w:World}{H':Hp}{h':Heap}{kvs:List (Key×V)}{vs:List (Key×Value)} (z:kvs.length<=sizeLine) (hd:(a == sysModules)=false) (rel:KV kvs vs) (dd:h'.DictOf (mixKind P w) a vs) :
  ObjOk P w H' h' a (.dK kvs):=⟨z,hd,vs,rel,dd⟩
theorem d_setItem {H':Hp}{Q:Unit->Shared->Prop} (hu:A.units + 1 < cLine) (I:Inv X pins σ H s) (g:DPut H a y v H') (ry:RelV y u) (rv:RelV v r) (h:∀ s',Inv X pins σ H' s'->Q () s') :
  wpAny (model X.prog X.w) A (setItem (.ref a) u r) Q E s:=by
 rcases g with ⟨kvs,k,e,ey,l,eH⟩ | ⟨kvs,k,b,e,ey,eb,l,eH⟩
 ·subst ey eH
  obtain ⟨z,hd,vs,rel,dd⟩:=dk_of I.hok e
  have hz:vs.length<=sizeLine:=by rw [<-rel.length];exact z
  have hl:(putK kvs k v).length<=sizeLine:=by have:=length_putK kvs k v;omega
  refine wpAny_setItem_pairs (hsz:=hz) (kV_is ry) dd λh' dd' hs=>h _ ?_
  have he:∃ q,h'.get? a=some q:=let ⟨q,_,_,hq,_⟩:=dd';⟨q,hq⟩
  exact d_write I (by rw [e];exact True.intro) hs he (dk_new hl hd (rel.put k rv) dd')
 ·subst ey eH
  cases (show u=Value.ref b from ry)
  obtain ⟨z,hd,xs,rel,dd⟩:=dt_of I.hok e
  have hz:xs.length<=sizeLine:=by rw [<-Paired.length rel];exact z
  have hl:(putK kvs k v).length<=sizeLine:=by have:=length_putK kvs k v;omega
  refine wpAny_setItem_heap (hsz:=hz) (tupleKind_room_in1 hu) (key_of I.hok eb) dd λh' dd' hs=>h _ ?_
  obtain ⟨q,es,ep,hq,h2,h3,h4,_,h5⟩:=dd'
  refine d_write I (by rw [e];exact True.intro) hs ⟨q,hq⟩ ⟨hl,hd,_,(rel.put k eb rv).keeps λc ys ec=>?_,q,es,ep,hq,h2,h3,h4,h5⟩
  rw [xO (wa ec e (λz=>nomatch z))]
  exact ec
end
section
variable {X:Cx}{pins:List (Addr×Obj)}{σ:St}{H:Hp}{s:Shared}{a:Addr}{kvs:List (Key×V)}{k:Key}{u:Value}{A:Around}{E:Value->Shared->Prop}
end
def NoSl (i:Expr):Prop:=∀ ov iv,subscripted i false ov iv=operate [ov,iv] (getItem ov iv)
theorem subD_of {prog:Program}{w:World}{A:Around}{E:Value->Shared->Prop}{s:Shared}{env:Env}{value slice:Expr}{pos:Pos}{T id:String}{Q:Value->Shared->Prop}
  (hl:typeLookup (.type T) "__getitem__" = pure (some (.builtin id))) (hs:NoSl slice)
  (h:wpAny (model prog w) A (eval value env) (λo s₁=>wpAny (model prog w) A (eval slice env) (λi s₂=>s₂.TypeIs o T/\wpAny (model prog w) A (getItem o i) Q E s₂) E s₁) E s) :
  wpAny (model prog w) A (eval (.Subscript value slice pos) env) Q E s:=by
 refine Subscript_ (wpAny_mono h (λo s₁ h₁=>wpAny_mono h₁ (λi s₂ h₂=>?_) λ_ _ x=>x) λ_ _ x=>x)
 obtain ⟨hT,h₂⟩:=h₂
 unfold subscriptTail
 refine wpAny_bind ?_
 rw [getitemInPython_of_ne hT.not_modules]
 refine wpAny_bind (wpAny_specialOf hT hl ?_)
 have fin:wpAny (model prog w) A (subscripted slice false o i) (λr s₃=>wpAny (model prog w) A (letTemporaryGo value o r >>= λ_=>pure r) Q E s₃) E s₂:=by
  rw [hs o i]
  exact wpAny_operating (wpAny_mono h₂ (λr s₃ h₃=>wpAny_bind (wpAny_letTemporaryGo (wpAny_pure h₃))) λ_ _ x=>x)
 first
  | exact wpAny_pure (wpAny_bind fin)
  | exact wpAny_bind (wpAny_pure (wpAny_bind fin))
  | exact wpAny_bind fin
theorem dict_typeIs {X:Cx}{pins:List (Addr×Obj)}{σ:St}{H:Hp}{s:Shared}{a:Addr}{y:V}{o:Option V} (I:Inv X pins σ H s) (g:DGet H a y o):s.TypeIs (.ref a) "dict" := by
 rcases g with ⟨kvs,k,e,_,_⟩ | ⟨kvs,k,b,e,_,_,_⟩
 ·obtain ⟨_,_,vs,_,dd⟩:=dk_rd I.hok e
  exact dd.typeIs
 ·obtain ⟨_,_,xs,_,dd⟩:=dt_rd I.hok e
  exact dd.typeIs
def tDGet (td ty:TE):TE:=fun σ H Q=>td σ H λx H1=>ty σ H1 λy H2=>∃ a v,x=.ref a/\DGet H2 a y (some v)/\Q v H2
def sDPut (td ty tv:TE):TS:=λD σ H=>tv σ H λv H1=>td σ H1 λx H2=>ty σ H2 λy H3=>∃ a H4,x=.ref a/\DPut H3 a y v H4/\D.nx σ H4
section
variable {X:Cx}{o i e value:Expr}{pos pos' tpos:Pos}{td ty tv:TE}
theorem pe_dget (hu:X.A.units + 1 < cLine) (ho:PE X o td) (hi:PE X i ty) (hs:NoSl i):PE X (.Subscript o i pos) (tDGet td ty):=by
 intro pins s σ H Q I h
 refine subD_of PySem.F.slot_dict_getitem.lookup hs (thn (ho pins s σ H _ I h) λu s1 ⟨x,H1,I1,rx,q1⟩=>thn (hi pins s1 σ H1 _ I1 q1) λiv s2 ⟨y,H2,I2,ry,a,v,ex,g,q2⟩=>?_)
 subst ex
 obtain rfl:u=Value.ref a:=rx
 exact ⟨dict_typeIs I2 g,d_getItem hu I2 g ry λw' s3 I3 rw'=>⟨v,H2,I3,rw',q2⟩⟩
theorem ps_dput (hu:X.A.units + 1 < cLine) (ho:PE X o td) (hi:PE X i ty) (hv:PE X value tv) (hs:swapsWith value (some (.Subscript o i pos')) pos.line X.env=pure false) :
  PS X (.Assign [.Subscript o i pos'] value pos) (sDPut td ty tv):=by
 intro pins s σ H D I h
 refine wpAny_Assign_Subscript (thn (hv pins s σ H _ I h) λr s1 ⟨v,H1,I1,rv,q1⟩=>thn (ho pins s1 σ H1 _ I1 q1) λu s2 ⟨x,H2,I2,rx,q2⟩=>thn (hi pins s2 σ H2 _ I2 q2) λiv s3 ⟨y,H3,I3,ry,a,H4,ex,g,q3⟩=>?_) hs
 subst ex
 obtain rfl:u=Value.ref a:=rx
 exact d_setItem hu I3 g ry rv λs4 I4=>⟨σ,H4,I4,q3⟩
end
theorem dk_empty {P:Program}{w:World}{H:Hp} (h:Heap) (hb:sysModules < h.objs.size):ObjOk P w H (h.push { cls:=.type "dict", data:=.dict #[] }) h.objs.size (.dK []):=
 ⟨zT _,beq_eq_false_iff_ne.mpr (Ne.symm (zQ hb)),[],.nil,Heap.DictOf.new h⟩
def tDNewK:TE:=λ_ H Q=>∀ p,H p=none->Q (.ref p) (upd H p (.dK []))
section
variable {X:Cx}{pos:Pos}
theorem pe_dnewK:PE X (.Dict [] [] pos) tDNewK:=λpins s σ H Q I h=>
 wpAny_Dict_empty ⟨.ref s.heap.objs.size,_,I.laid (a:=s.heap.objs.size) (o:=.dK []) (t':=s.toks) (λ_ _ q=>Heap.get?_push_of_some _ q) (zD _) (dk_empty s.heap I.big),rfl,h _ (I.hok.fresh (zD _))⟩
end
section
variable {X:Cx}{pins:List (Addr×Obj)}{σ:St}{H:Hp}{s:Shared}{a:Addr}{y d:V}{u r:Value}{o:Option V}{A:Around}{E:Value->Shared->Prop}
end
section
variable {X:Cx}{o e f:Expr}{apos cpos:Pos}{td ty tx:TE}
end
section
variable {X:Cx}{pins:List (Addr×Obj)}{σ:St}{H:Hp}{s:Shared}{a:Addr}{kvs:List (Key×V)}{A:Around}{E:Value->Shared->Prop}
end
section
variable {X:Cx}{pins:List (Addr×Obj)}{σ:St}{H:Hp}{s:Shared}{a:Addr}{y:V}{u:Value}{A:Around}{E:Value->Shared->Prop}
end
end L2
namespace HT
open PySem PyProof.Rows
section
open PySem.SeqAt
open PySem.AutoSeq1 (wpAny_loadPart')
open PySem.MeetsSeq PySem.MeetsSeq2 PySem.MeetsSeq3
end
section
variable {prog:Program}{w:World}{A:Around}{E:Value->Shared->Prop}{s:Shared}
def sIx (n d:Nat):Option Int->Nat
 | none=>d
 | some v=>if v < 0 then (v + (n:Int)).toNat else min v.toNat n
theorem sIx_le (n d:Nat) (hd:d<=n) (o:Option Int):sIx n d o<=n:=by
 cases o with
 | none=>exact hd
 | some v=>
  show (if v < 0 then (v + (n:Int)).toNat else min v.toNat n)<=n
  by_cases hv:v < 0
  ·rw [if_pos hv];omega
  ·rw [if_neg hv];exact Nat.min_le_right _ _
theorem clip_eq (v:Int) (n d:Nat):(if v < 0 then max (v + (n:Int)) 0 else min v (n:Int))=((sIx n d (some v):Nat):Int):=by
 show (if v < 0 then max (v + (n:Int)) 0 else min v (n:Int))=(((if v < 0 then (v + (n:Int)).toNat else min v.toNat n):Nat):Int)
 by_cases hv:v < 0
 ·simp only [if_pos hv];omega
 ·simp only [if_neg hv];omega
theorem adjust_gen (lo hi:Option Int) (n:Nat):Builtin.Slice.sliceAdjust lo hi 1 (n:Int)=(((sIx n 0 lo:Nat):Int),((sIx n n hi:Nat):Int)):=by
 have h1:¬ ((1:Int) < 0):=by omega
 unfold Builtin.Slice.sliceAdjust
 simp only [h1,if_false]
 refine Prod.ext ?_ ?_
 ·cases lo with
  | none=>rfl
  | some v=>exact clip_eq v n 0
 ·cases hi with
  | none=>rfl
  | some v=>exact clip_eq v n n
theorem places_gen (i j:Nat):Builtin.Slice.slicePlaces (i:Int) (j:Int) 1=j - i:=by
 unfold Builtin.Slice.slicePlaces
 have h1:(1:Int) > 0:=by omega
 simp only [h1,if_true,Int.ediv_one]
 split <;> omega
theorem slicePart_ {v:Value}{o:Option Int}{Q:Option Int->Shared->Prop} (p:IsPart v o) (h:Q o s):wpAny (model prog w) A (Builtin.Slice.slicePartIndex v) Q E s:=by
 cases p with
 | none=>exact slicePart_none h
 | int i t=>exact slicePart_int h
theorem sliceApplied_gen {sl:Addr}{vl vu:Value}{lo hi:Option Int}{n:Nat}{Q:Int×Int×Nat->Shared->Prop} (hs:s.heap.IsSliceOf sl vl vu .none) (pl:IsPart vl lo) (pu:IsPart vu hi)
  (h:Q (((sIx n 0 lo:Nat):Int),1,sIx n n hi - sIx n 0 lo) s):wpAny (model prog w) A (Builtin.Slice.sliceApplied (.ref sl) (pure (n:Int))) Q E s:=by
 obtain ⟨os,hos,hcs,hds⟩:=id hs
 unfold Builtin.Slice.sliceApplied Builtin.Slice.sliceFields
 refine wpAny_bind (wpAny_bind (wpAny_field hos hds (x:=vl) rfl (wpAny_bind (wpAny_field hos hds (x:=vu) rfl (wpAny_bind (wpAny_field hos hds (x:=.none) rfl (wpAny_pure ?_)))))))
 refine wpAny_bind (slicePart_none ?_)
 show wpAny _ _ (if ((1:Int) == 0)=true then _ else _) _ _ s
 rw [if_neg (by decide)]
 refine wpAny_bind (slicePart_ pl (wpAny_bind (slicePart_ pu (wpAny_bind (wpAny_pure ?_)))))
 show wpAny _ _ (match Builtin.Slice.sliceAdjust lo hi 1 (n:Int) with | (lo,hi)=>pure (lo,(1:Int),Builtin.Slice.slicePlaces lo hi 1)) _ _ s
 rw [adjust_gen lo hi n]
 show wpAny _ _ (pure (((sIx n 0 lo:Nat):Int),(1:Int),Builtin.Slice.slicePlaces ((sIx n 0 lo:Nat):Int) ((sIx n n hi:Nat):Int) 1)) _ _ s
 rw [places_gen]
 exact wpAny_pure h
theorem pick_gen (xs:Array Value) (i k:Nat):((List.range k).filterMap λ(m:Nat)=>xs[((i:Int) + (m:Int) * 1).toNat]?).toArray=((xs.toList.drop i).take k).toArray:=by
 have e:(λ(m:Nat)=>xs[((i:Int) + (m:Int) * 1).toNat]?)=λm=>xs[i + m]?:=by
  funext m
  have:((i:Int) + (m:Int) * 1).toNat=i + m:=by omega
  rw [this]
 rw [e]
 have:=pick_run xs i k
 rw [List.filterMap_map] at this
 have e2:((λx=>xs[x]?) ∘ λx=>i + x)=λm=>xs[i + m]?:=rfl
 rw [e2] at this
 rw [this]
theorem getItem_tuple_cut {t sl:Addr}{items:Array Value}{vl vu:Value}{lo hi:Option Int}{Q:Value->Shared->Prop} (ht:IsTup s.heap t items) (hs:s.heap.IsSliceOf sl vl vu .none) (pl:IsPart vl lo) (pu:IsPart vu hi)
  (hw:¬ (sIx items.size 0 lo=0/\sIx items.size items.size hi=items.size))
  (h:Q (.ref s.heap.objs.size) { s with heap:=s.heap.push { cls:=.type "tuple", data:=.seq ((items.toList.drop (sIx items.size 0 lo)).take (sIx items.size items.size hi - sIx items.size 0 lo)).toArray } })
  (hsz:items.size<=sizeLine):wpAny (model prog w) A (getItem (.ref t) (.ref sl)) Q E s:=by
 have htake:sizeOk (.seq ((items.toList.drop (sIx items.size 0 lo)).take (sIx items.size items.size hi - sIx items.size 0 lo)).toArray):=by
  show ((items.toList.drop (sIx items.size 0 lo)).take (sIx items.size items.size hi - sIx items.size 0 lo)).toArray.size<=sizeLine
  rw [zN,zZ,yj,Array.length_toList]
  omega
 have hj:sIx items.size items.size hi<=items.size:=sIx_le _ _ (zD _) hi
 obtain ⟨os,hos,hcs,hds⟩:=id hs
 have hTs:s.TypeIs (.ref sl) "slice" := ⟨os,hos,hcs⟩
 unfold getItem
 try with_reducible refine wpAny_holding ?_
 first | refine wpAny_bind (wpAny_pure ?_) | skip
 refine wpAny_bind (wpAny_sequenceKey ht.typeIs (by decide) ?_)
 refine wpAny_bind (wpAny_callSpecial?_slot (name:=Str.ofString "__getitem__") ht.typeIs PyProof.Rows.slot_tuple_getitem
  (wpAny_call_entry PyProof.Rows.slot_tuple_getitem ht.typeIs entry_tuple_getitem ?_ (args_tuple_getitem _ _)))
 show wpAny _ _ (Builtin.Tuple.tupleItemsOf (.ref t) >>= _) _ _ s
 refine wpAny_bind (tupleItemsOf_ ht ?_)
 refine wpAny_bind (wpAny_typeOf hTs ?_)
 rw [if_pos (by decide)]
 refine wpAny_bind (sliceApplied_gen hs pl pu ?_)
 have hno:¬ ((((sIx items.size 0 lo:Nat):Int) == 0 && (1:Int) == 1 && (sIx items.size items.size hi - sIx items.size 0 lo) == items.size)=true):=by
  intro q
  rw [yS,yS] at q
  have q1:((sIx items.size 0 lo:Nat):Int)=0:=eq_of_beq q.1.1
  have q2:sIx items.size items.size hi - sIx items.size 0 lo=items.size:=eq_of_beq q.2
  exact hw ⟨by omega,by omega⟩
 show wpAny _ _ (if (((sIx items.size 0 lo:Nat):Int) == 0 && (1:Int) == 1 && (sIx items.size items.size hi - sIx items.size 0 lo) == items.size)=true then _ else _) _ _ s
 rw [if_neg hno,pick_gen]
 first
  | exact wpAny_bind (m:=Builtin.Tuple.tupleExact _) (wpAny_newObj_type (wpAny_pure ⟨_,rfl,wpAny_pure h⟩) htake)
  | exact wpAny_bind (m:=Builtin.Tuple.tupleExact _) (wpAny_newObj_type (wpAny_bind (wpAny_pure (wpAny_pure ⟨_,rfl,wpAny_pure h⟩))) htake)
  | exact wpAny_bind (wpAny_bind (m:=Builtin.Tuple.tupleExact _) (wpAny_newObj_type (wpAny_pure (wpAny_pure ⟨_,rfl,wpAny_pure h⟩)) htake))
  | exact wpAny_bind (wpAny_bind (m:=Builtin.Tuple.tupleExact _) (wpAny_newObj_type (wpAny_pure ⟨_,rfl,wpAny_pure h⟩) htake))
end
end HT
namespace L2
open PySem PySem.Spec PyProof.Rows
abbrev TO:=St->Hp->(Option Int->Hp->Prop)->Prop
def PO (X:Cx) (e:Option Expr) (t:TO):Prop:=
 ∀ (pins:List (Addr×Obj)) (s:Shared) (σ:St) (H:Hp) (Q:Option Int->Hp->Prop),Inv X pins σ H s->t σ H Q ->
  wpAny (model X.prog X.w) X.A (evalPart e X.env) (λu s'=>∃ o H',Inv X pins σ H' s'/\IsPart u o/\Q o H') X.xe s
def tNoPart:TO:=λ_ H Q=>Q none H
def tPart (t:TE):TO:=fun σ H Q=>t σ H λx H1=>∃ i,x=.int i/\Q (some i) H1
section
variable {X:Cx}{e:Expr}{te:TE}{lo hi:Option Expr}{tl th:TO} {pos p2:Pos}
theorem po_none:PO X none tNoPart:=by
 intro pins s σ H Q I h
 rw [evalPart_none]
 exact wpAny_pure ⟨none,H,I,.none,h⟩
theorem po_some (h:PE X e te):PO X (some e) (tPart te):=by
 intro pins s σ H Q I hw
 rw [evalPart_some]
 refine thn (h pins s σ H _ I hw) λu s1 ⟨x,H1,I1,r1,q1⟩=>?_
 obtain ⟨i,rfl,q⟩:=q1
 obtain ⟨t,rfl⟩:=r1
 exact ⟨some i,H1,I1,.int i t,q⟩
def SlR (X:Cx) (r:V->Option Int->Option Int->Hp->VK->Prop):Prop:=
 ∀ (pins:List (Addr×Obj)) (s:Shared) (σ:St) (H:Hp) (x:V) (v vl vu:Value) (lo hi:Option Int) (sl:Addr) (Q:VK),Inv X pins σ H s->RelV x v->s.heap.IsSliceOf sl vl vu .none->IsPart vl lo->IsPart vu hi->r x lo hi H Q ->
  ∃ T id,typeLookup (.type T) "__getitem__" = pure (some (.builtin id))/\s.TypeIs v T/\wpAny (model X.prog X.w) X.A (getItem v (.ref sl)) (EP X pins σ Q) X.xe s
def tSl (r:V->Option Int->Option Int->Hp->VK->Prop) (te:TE) (tl th:TO):TE:=fun σ H Q=>te σ H λx H1=>tl σ H1 λl H2=>th σ H2 λu H3=>r x l u H3 Q
theorem pe_slice {r:V->Option Int->Option Int->Hp->VK->Prop} (hr:SlR X r) (he:PE X e te) (hl:PO X lo tl) (hu:PO X hi th):PE X (.Subscript e (.Slice lo hi none p2) pos) (tSl r te tl th):=by
 intro pins s σ H Q I h
 refine Subscript_ (thn (he pins s σ H _ I h) λv s1 ⟨x,H1,I1,r1,q1⟩=>?_)
 refine wpAny_Slice (thn (hl pins s1 σ H1 _ I1 q1) λvl s2 ⟨l,H2,I2,pl,q2⟩=>thn (hu pins s2 σ H2 _ I2 q2) λvu s3 ⟨u,H3,I3,pu,q3⟩=>?_)
 rw [evalPart_none]
 refine wpAny_pure ?_
 have I4:Inv X pins σ H3 { s3 with heap:=s3.heap.push { cls:=.type "slice", data:=.fields #[vl,vu,.none] } }:=I3.kept (t':=s3.toks) λb ob q=>Heap.get?_push_of_some _ q
 obtain ⟨T,id,hT,ht,hg⟩:=hr pins { s3 with heap:=s3.heap.push { cls:=.type "slice", data:=.fields #[vl,vu,.none] } } σ H3 x v vl vu l u s3.heap.objs.size Q I4 r1 (Heap.IsSliceOf.new ..) pl pu q3
 show wpAny (model X.prog X.w) X.A (subscriptTail e (.Slice lo hi none p2) v (.ref s3.heap.objs.size)) (EP X pins σ Q) X.xe { s3 with heap:=s3.heap.push { cls:=.type "slice", data:=.fields #[vl,vu,.none] } }
 exact tail_any (ops:=[.ref s3.heap.objs.size,v]) ht hT hg (by with_unfolding_all rfl)
def cutV (xs:List V) (lo hi:Option Int):List V:=(xs.drop (HT.sIx xs.length 0 lo)).take (HT.sIx xs.length xs.length hi - HT.sIx xs.length 0 lo)
theorem cutV_length (xs:List V) (lo hi:Option Int):(cutV xs lo hi).length<=xs.length:=by
 unfold cutV
 rw [zZ,yj]
 omega
def rSlT (K:PySem.W.Frag):V->Option Int->Option Int->Hp->VK->Prop:=λx lo hi H Q=>∃ a xs,x=.ref a/\SqT K H a xs /\
 ¬ (HT.sIx xs.length 0 lo=0/\HT.sIx xs.length xs.length hi=xs.length)/\∀ p,H p=none->Q (.ref p) (upd H p (.tup (cutV xs lo hi)))
theorem sl_tup:SlR X (rSlT X.K):=by
 intro pins s σ H x v vl vu lo hi sl Q I rx hs pl pu h
 obtain ⟨a,xs,rfl,hx,hw,q⟩:=h
 cases rx
 obtain ⟨its,r,ht,hz⟩:=I.tuple hx
 have hlen:its.toArray.size=xs.length:=by rw [zN];exact r.length.symm
 refine ⟨"tuple", _,PyProof.Rows.slot_tuple_getitem.lookup,ht.typeIs,?_⟩
 refine HT.getItem_tuple_cut ht hs pl pu (by rw [hlen];exact hw) ?_ (by rw [hlen];exact hz)
 rw [hlen]
 refine ⟨.ref s.heap.objs.size,_,I.laid (t':=s.toks) (o:=.tup (cutV xs lo hi)) (λb ob q=>Heap.get?_push_of_some _ q) (zD _) ?_,rfl,q _ (I.hok.fresh (zD _))⟩
 exact ⟨⟨z6 (cutV_length xs lo hi) hz,new_bare⟩,_,(r.drop (HT.sIx xs.length 0 lo)).take (HT.sIx xs.length xs.length hi - HT.sIx xs.length 0 lo),IsTup.new _ _⟩
end
end L2
namespace L2
open PySem PySem.Spec PyProof.Rows
def ixN (n:Nat) (i:Int):Option Nat:=if 0<=i then (if i < n then some i.toNat else none) else if -(n:Int)<=i then some (i + n).toNat else none
def atI {α:Type} (xs:List α) (i:Int):Option α:=(ixN xs.length i).bind λj=>xs[j]?
theorem ixN_seq {n:Nat}{i:Int}{j:Nat} (h:ixN n i=some j):seqIndex? i n=some j/\j < n/\-(n:Int)<=i/\i < n:=by
 unfold ixN at h
 by_cases h0:0<=i
 ·rw [if_pos h0] at h
  by_cases h1:i < n
  ·rw [if_pos h1] at h
   have e:i.toNat=j:=Option.some.inj h
   exact ⟨by rw [seqIndex_of h0 h1,e],by omega,by omega,h1⟩
  ·rw [if_neg h1] at h;cases h
 ·rw [if_neg h0] at h
  by_cases h1:-(n:Int)<=i
  ·rw [if_pos h1] at h
   have e:(i + n).toNat=j:=Option.some.inj h
   exact ⟨by rw [seqIndex_neg (by omega) h1,e],by omega,h1,by omega⟩
  ·rw [if_neg h1] at h;cases h
theorem atI_get {α:Type}{xs:List α}{i:Int}{v:α} (h:atI xs i=some v):∃ j,seqIndex? i xs.length=some j/\xs[j]?=some v/\j < xs.length/\-(xs.length:Int)<=i/\i < xs.length:=by
 unfold atI at h
 cases e:ixN xs.length i with
 | none=>rw [e] at h;cases h
 | some j=>
  rw [e] at h
  obtain ⟨h1,h2,h3,h4⟩:=ixN_seq e
  exact ⟨j,h1,h,h2,h3,h4⟩
theorem xr {α:Type}{xs:List α}{j:Nat}{v:α} (h:xs[j]?=some v):atI xs (j:Int)=some v:=by
 have hj:j < xs.length:=(zB.mp h).1
 have e:ixN xs.length (j:Int)=some j:=by
  unfold ixN
  rw [if_pos (by omega),if_pos (by omega)];simp
 unfold atI;rw [e];exact h
theorem atI_last {α:Type} (xs:List α) (v:α):atI (xs++[v]) (-1)=some v:=by
 have hl:(xs++[v]).length=xs.length + 1:=by simp
 have e:ixN (xs++[v]).length (-1)=some xs.length:=by
  unfold ixN
  rw [hl,if_neg (by decide),if_pos (by omega)]
  congr 1
  omega
 unfold atI
 rw [e]
 show (xs++[v])[xs.length]?=some v
 simp
def PlainIx (b:Expr):Prop:=∀ o i,subscripted b false o i=operate [o,i] (getItem o i)
def IxR (X:Cx) (r:R2):Prop:=
 ∀ (value slice:Expr) (pins:List (Addr×Obj)) (s:Shared) (σ:St) (H:Hp) (x y:V) (v u:Value) (Q:VK),Inv X pins σ H s->RelV x v->RelV y u->r x y H Q ->
  subscripted slice false v u=operate [v,u] (getItem v u)->wpAny (model X.prog X.w) X.A (subscriptTail value slice v u) (EP X pins σ Q) X.xe s
def MtR (X:Cx) (id:String) (r:V->List V->Hp->VK->Prop):Prop:=
 ∀ (pins:List (Addr×Obj)) (s:Shared) (σ:St) (H:Hp) (x:V) (xs:List V) (v:Value) (us:List Value) (Q:VK),Inv X pins σ H s->RelV x v->Vals xs us->r x xs H Q ->
  wpAny (model X.prog X.w) X.A (call (.builtin id) (v::us)) (EP X pins σ Q) X.xe s
section
variable {X:Cx}{a b:Expr}{ta tb:TE}{pos:Pos}
theorem xf {r:R2} (hr:IxR X r) (ha:PE X a ta) (hb:PE X b tb) (hs:PlainIx b):PE X (.Subscript a b pos) (tOp r ta tb):=by
 intro pins s σ H Q I h
 exact Subscript_ (binT ha hb I h λv u s2 x y H2 I2 rx ry q=>hr a b pins s2 σ H2 x y v u Q I2 rx ry q (hs _ _))
def rIxL (K:PySem.W.Frag):R2:=λx y H Q=>∃ p xs i v,x=.ref p/\y=.int i/\SqL K H p xs/\atI xs i=some v/\Q v H
def rIxT (K:PySem.W.Frag):R2:=λx y H Q=>∃ p xs i v,x=.ref p/\y=.int i/\SqT K H p xs/\atI xs i=some v/\Q v H
theorem ix_list:IxR X (rIxL X.K):=by
 intro value slice pins s σ H x y v u Q I rx ry h hs
 obtain ⟨p,xs,i,z,rfl,rfl,hq,he,q⟩:=h
 cases rx
 obtain ⟨t,rfl⟩:=ry
 obtain ⟨its,r,pl,hz⟩:=I.list hq
 obtain ⟨j,h1,h2,h3,h4,h5⟩:=atI_get he
 obtain ⟨w,ew,rw'⟩:=r.get h2
 have hl:=r.length
 have hn:=line63
 have fin:EP X pins σ Q w s:=⟨z,H,I,rw',q⟩
 by_cases h0:0<=i
 ·have hj:i.toNat=j:=by
   rw [seqIndex_of h0 h5] at h1
   exact Option.some.inj h1
  exact item_listR pl.isList h0 (by omega) (by rw [hj];simpa using ew) fin hs
 ·have hj:(i + (its.toArray.size:Int)).toNat=j:=by
   rw [seqIndex_neg (by omega) h4] at h1
   rw [zN,<- hl]
   exact Option.some.inj h1
  exact subscriptTail_builtinR (x:=w) pl.isList.typeIs slot_list_getitem.lookup
   (wpAny_getItem_list_neg (Q:=λr s'=>r=w/\EP X pins σ Q r s') pl.isList (by omega) (by rw [zN] <;> omega) (by omega) (by rw [hj];simpa using ew) ⟨rfl,fin⟩) hs
theorem ix_tup:IxR X (rIxT X.K):=by
 intro value slice pins s σ H x y v u Q I rx ry h hs
 obtain ⟨p,xs,i,z,rfl,rfl,hq,he,q⟩:=h
 cases rx
 obtain ⟨t,rfl⟩:=ry
 obtain ⟨its,r,pl,hz⟩:=I.tuple hq
 obtain ⟨j,h1,h2,h3,h4,h5⟩:=atI_get he
 obtain ⟨w,ew,rw'⟩:=r.get h2
 have hl:=r.length
 have hn:=line63
 have fin:EP X pins σ Q w s:=⟨z,H,I,rw',q⟩
 exact subscriptTail_builtinR (x:=w) pl.typeIs slot_tuple_getitem.lookup
  (getItem_tuple (j:=j) (Q:=λr s'=>r=w/\EP X pins σ Q r s') pl (by omega) (by omega) (by rw [zN,<- hl];exact h1) (by simpa using ew) ⟨rfl,fin⟩) hs
theorem mapSeq_set (its:List Value) (n j:Nat) (u:Value):Obj.mapSeq (·.setIfInBounds j u) { cls:=.type "list", data:=.seq its.toArray n }={ cls:=.type "list", data:=.seq (its.set j u).toArray n }:=by
 simp [Obj.mapSeq]
theorem Inv.lst {pins:List (Addr×Obj)}{σ:St}{H:Hp}{s:Shared}{p:Addr}{xs:List V} (I:Inv X pins σ H s) (h:H p=some (.lst xs)) :
  ∃ (its:List Value) (n:Nat),Vals xs its/\s.heap.get? p=some { cls:=.type "list", data:=.seq its.toArray n }/\xs.length<=sizeLine:=by
 obtain ⟨z,its,n,r,e⟩:=I.hok p _ h
 exact ⟨its,n,r,e,z⟩
theorem Inv.lstUpd {pins:List (Addr×Obj)}{σ:St}{H:Hp}{s:Shared}{p:Addr}{xs ys:List V}{its its':List Value}{n n':Nat}{f:Obj->Obj} (I:Inv X pins σ H s) (h:H p=some (.lst xs))
  (ho:s.heap.get? p=some { cls:=.type "list", data:=.seq its.toArray n }) (hf:f { cls:=.type "list", data:=.seq its.toArray n }={ cls:=.type "list", data:=.seq its'.toArray n' }) (r:Vals ys its') (hz:ys.length<=sizeLine) (t:Nat) :
  Inv X pins σ (upd H p (.lst ys)) { s with heap:=s.heap.update p f,toks:=t }:=by
 have e:(s.heap.update p f).get? p=some { cls:=.type "list", data:=.seq its'.toArray n' }:=by
  rw [Heap.get?_update_self f ho (by rw [hf] <;> rfl),hf]
 refine I.write (x:=p) (e:=p) (by rw [h];trivial) (.inl rfl) (λb u hb q=>(Heap.get?_update_other _ _ (Ne.symm hb)).trans q) ⟨_,e⟩ ?_
 exact ⟨hz,its',n',r,e⟩
def rSetL:V->V->V->Hp->(Hp->Prop)->Prop:=λo i v H Q=>∃ p xs k j,o=.ref p/\i=.int k/\H p=some (.lst xs)/\ixN xs.length k=some j/\Q (upd H p (.lst (xs.set j v)))
theorem set_list:PSet X rSetL:=by
 intro pins s σ H o i v ov iv u Q I ro ri rv h
 obtain ⟨p,xs,k,j,rfl,rfl,hp,hj,q⟩:=h
 cases ro
 obtain ⟨t,rfl⟩:=ri
 obtain ⟨its,n,r,ho,hz⟩:=I.lst hp
 obtain ⟨h1,h2,h3,h4⟩:=ixN_seq hj
 have hl:=r.length
 have hn:=line63
 have I':Inv X pins σ (upd H p (.lst (xs.set j v))) { s with heap:=s.heap.update p (Obj.mapSeq (·.setIfInBounds j u)) }:=
  I.lstUpd hp ho (mapSeq_set its n j u) (r.set rv j) (by rw [List.length_set];exact hz) s.toks
 by_cases h0:0<=k
 ·have hk:k.toNat=j:=by
   rw [seqIndex_of h0 h4] at h1
   exact Option.some.inj h1
  exact PySem.W.ki_setAt ho h0 (by omega) (by rw [zN,<- hl];exact h4) (by rw [hk];exact ⟨_,I',q⟩)
 ·have hk:(k + (its.toArray.size:Int)).toNat=j:=by
   rw [seqIndex_neg (by omega) h3] at h1
   rw [zN,<- hl]
   exact Option.some.inj h1
  exact PySem.W.ki_setBack ho (by omega) (by rw [zN,<- hl];exact h3) (by omega) (by rw [hk];exact ⟨_,I',q⟩)
def flatV:V->Bool
 | .non=>true
 | .bl _=>true
 | .int _=>true
 | .str _=>true
 | _=>false
def eqV:V->V->Bool
 | .non,.non=>true
 | .bl a,.bl b=>a == b
 | .bl a,.int b=>(if a then 1 else 0) == b
 | .int a,.bl b=>a == (if b then 1 else 0)
 | .int a,.int b=>a == b
 | .str a,.str b=>a == b
 | _,_=>false
theorem eqAt_V {A:Around}{s:Shared}{y x:V}{u v:Value} (ry:RelV y u) (rx:RelV x v) (fy:flatV y=true) (fx:flatV x=true):SeqAt.EqAt A s u v (eqV y x):=by
 cases y with
 | non=>
  cases ry
  cases x with
  | non=>cases rx;exact SeqAt.EqAt.same _
  | bl b=>cases rx;exact SeqAt.EqAt.none_bool b
  | int b=>obtain ⟨t,rfl⟩:=rx;exact SeqAt.EqAt.none_int b t
  | str b=>obtain ⟨t,rfl⟩:=rx;exact SeqAt.EqAt.none_str b t
  | _=>exact absurd (show false=true from fx) zM
 | bl a=>
  cases ry
  cases x with
  | non=>cases rx;exact SeqAt.EqAt.bool_none a
  | bl b=>cases rx;exact SeqAt.EqAt.bool_bool a b
  | int b=>obtain ⟨t,rfl⟩:=rx;exact SeqAt.EqAt.bool_int a b t
  | str b=>obtain ⟨t,rfl⟩:=rx;exact SeqAt.EqAt.bool_str a b t
  | _=>exact absurd (show false=true from fx) zM
 | int a=>
  obtain ⟨t',rfl⟩:=ry
  cases x with
  | non=>cases rx;exact SeqAt.EqAt.int_none a t'
  | bl b=>cases rx;exact SeqAt.EqAt.int_bool a t' b
  | int b=>obtain ⟨t,rfl⟩:=rx;exact SeqAt.EqAt.int_int a t' b t
  | str b=>obtain ⟨t,rfl⟩:=rx;exact SeqAt.EqAt.int_str a t' b t
  | _=>exact absurd (show false=true from fx) zM
 | str a=>
  obtain ⟨t',rfl⟩:=ry
  cases x with
  | non=>cases rx;exact SeqAt.EqAt.str_none a t'
  | bl b=>cases rx;exact SeqAt.EqAt.str_bool a t' b
  | int b=>obtain ⟨t,rfl⟩:=rx;exact SeqAt.EqAt.str_int a t' b t
  | str b=>obtain ⟨t,rfl⟩:=rx;exact SeqAt.EqAt.str_str a t' b t
  | _=>exact absurd (show false=true from fx) zM
 | _=>exact absurd (show false=true from fy) zM
def eqU (x:V) (u:Value):Bool:=match u with
 | .none=>eqV .non x
 | .bool b=>eqV (.bl b) x
 | .int i _=>eqV (.int i) x
 | .str z _=>eqV (.str z) x
 | _=>false
theorem eqU_of {x y:V}{u:Value} (r:RelV y u) (f:flatV y=true):eqU x u=eqV y x:=by
 cases y with
 | non=>cases r;rfl
 | bl b=>cases r;rfl
 | int i=>obtain ⟨t,rfl⟩:=r;rfl
 | str z=>obtain ⟨t,rfl⟩:=r;rfl
 | _=>exact absurd (show false=true from f) zM
theorem any_eqU {x:V}:∀ {xs:List V}{us:List Value},Vals xs us->xs.all flatV=true->us.any (eqU x)=xs.any λy=>eqV y x
 | _,_,.nil,_=>rfl
 | y::xs,u::us,.cons r t,f=>by
  rw [List.all_cons,yS] at f
  rw [yr,yr,eqU_of r f.1,any_eqU t f.2]
theorem mem_eqAt {A:Around}{s:Shared}{x:V}{v:Value} (rx:RelV x v) (fx:flatV x=true):∀ {xs:List V}{us:List Value},Vals xs us->xs.all flatV=true->∀ u∈us,SeqAt.EqAt A s u v (eqU x u)
 | _,_,.nil,_=>λu hu=>by cases hu
 | y::xs,u::us,.cons r t,f=>λu' hu=>by
  rw [List.all_cons,yS] at f
  rcases zF.mp hu with rfl | hu
  ·rw [eqU_of r f.1];exact eqAt_V r rx f.1 fx
  ·exact mem_eqAt rx fx t f.2 u' hu
def inV (x:V) (xs:List V):Bool:=xs.any λy=>eqV y x
def rIn (K:PySem.W.Frag) (neg:Bool):R2:=λx y H Q=>∃ p xs,y=.ref p/\(SqL K H p xs\/SqT K H p xs)/\flatV x=true/\xs.all flatV=true/\Q (.bl (if neg then !inV x xs else inV x xs)) H
theorem op_in_seq:OpR X (compareOp .In) (rIn X.K false):=by
 intro pins s σ H x y v u Q I rx ry h
 obtain ⟨p,xs,rfl,hq,fx,fs,q⟩:=h
 cases ry
 rcases hq with hq | hq
 ·obtain ⟨its,r,pl,hz⟩:=I.list hq
  refine SeqAt.in_listAt (eqU x) pl.isList (λw hw=>mem_eqAt rx fx r fs w (by simpa using hw)) ⟨.bl _,H,I,rfl,?_⟩
  rw [show its.toArray.any (eqU x)=its.any (eqU x) by simp,any_eqU r fs]
  exact q
 ·obtain ⟨its,r,pl,hz⟩:=I.tuple hq
  refine SeqAt.in_tupleAt (eqU x) pl (λw hw=>mem_eqAt rx fx r fs w (by simpa using hw)) ⟨.bl _,H,I,rfl,?_⟩
  rw [show its.toArray.any (eqU x)=its.any (eqU x) by simp,any_eqU r fs]
  exact q
theorem op_notIn_seq:OpR X (compareOp .NotIn) (rIn X.K true):=by
 intro pins s σ H x y v u Q I rx ry h
 obtain ⟨p,xs,rfl,hq,fx,fs,q⟩:=h
 cases ry
 rcases hq with hq | hq
 ·obtain ⟨its,r,pl,hz⟩:=I.list hq
  refine SeqAt.notIn_listAt (eqU x) pl.isList (λw hw=>mem_eqAt rx fx r fs w (by simpa using hw)) ⟨.bl _,H,I,rfl,?_⟩
  rw [show its.toArray.any (eqU x)=its.any (eqU x) by simp,any_eqU r fs]
  exact q
 ·obtain ⟨its,r,pl,hz⟩:=I.tuple hq
  refine SeqAt.notIn_tupleAt (eqU x) pl (λw hw=>mem_eqAt rx fx r fs w (by simpa using hw)) ⟨.bl _,H,I,rfl,?_⟩
  rw [show its.toArray.any (eqU x)=its.any (eqU x) by simp,any_eqU r fs]
  exact q
theorem call_len_seq:CallR X (.builtin "len") (λxs H Q=>∃ p ys,xs=[.ref p]/\(SqL X.K H p ys\/SqT X.K H p ys)/\Q (.int ys.length) H):=by
 intro pins s σ H xs us Q I r h
 obtain ⟨p,ys,rfl,hq,q⟩:=h
 obtain ⟨u,rfl,rx⟩:=vals1 r
 cases rx
 have hn:=line63
 rcases hq with hq | hq
 ·obtain ⟨its,r',pl,hz⟩:=I.list hq
  have hlen:=r'.length
  exact Calls.call_len_list pl.isList (by simp only [zN] <;> omega) ⟨.int ys.length,H,I.tok _,⟨s.toks + 1,by rw [zN,hlen]⟩,q⟩
 ·obtain ⟨its,r',pl,hz⟩:=I.tuple hq
  have hlen:=r'.length
  exact len_tuple pl (by simp only [zN] <;> omega) ⟨.int ys.length,H,I.tok _,⟨s.toks + 1,by rw [zN,hlen]⟩,q⟩
theorem call_list_of:CallR X (.type "list") (λxs H Q=>∃ p ys,xs=[.ref p]/\(SqL X.K H p ys\/SqT X.K H p ys)/\∀ l,H l=none->Q (.ref l) (upd H l (.lst ys))):=by
 intro pins s σ H xs us Q I r h
 obtain ⟨p,ys,rfl,hq,q⟩:=h
 obtain ⟨u,rfl,rx⟩:=vals1 r
 cases rx
 have fin:∀ (its:List Value),Vals ys its->ys.length<=sizeLine->∀ (h':Heap) (c':Nat),(∀ b o',s.heap.get? b=some o'->h'.get? b=some o') ->
   h'.get? s.heap.objs.size=some { cls:=.type "list", dict:=none,data:=.seq its.toArray c',slots:=#[] }->EP X pins σ Q (.ref s.heap.objs.size) { s with heap:=h' }:=λits r' hz h' c' kp e=>
  ⟨.ref s.heap.objs.size,_,I.laid (t':=s.toks) kp (zD _) (show ObjOk X.prog X.w _ h' _ (.lst ys) from ⟨hz,its,c',r',e⟩),rfl,q _ (I.hok.fresh (zD _))⟩
 rcases hq with hq | hq
 ·obtain ⟨its,r',pl,hz⟩:=I.list hq
  have hlen:=r'.length
  obtain ⟨o,ho,hc,n,hd⟩:=pl.isList
  exact call_list_seq p (.inl rfl) ho hc hd (λh' c' kp e=>fin its r' hz h' c' kp e) (by simp only [zN] <;> omega)
 ·obtain ⟨its,r',pl,hz⟩:=I.tuple hq
  have hlen:=r'.length
  obtain ⟨o,ho,hc,n,hd⟩:=pl
  exact call_list_seq p (.inr rfl) ho hc hd (λh' c' kp e=>fin its r' hz h' c' kp e) (by simp only [zN] <;> omega)
theorem wE:CallR X (.type "tuple") (λxs H Q=>∃ p ys,xs=[.ref p]/\((SqL X.K H p ys/\∀ l,H l=none->Q (.ref l) (upd H l (.tup ys)))\/(SqT X.K H p ys/\Q (.ref p) H))):=by
 intro pins s σ H xs us Q I r h
 obtain ⟨p,ys,rfl,h⟩:=h
 obtain ⟨u,rfl,rx⟩:=vals1 r
 cases rx
 rcases h with ⟨hq,q⟩ | ⟨hq,q⟩
 ·obtain ⟨its,r',pl,hz⟩:=I.list hq
  have hlen:=r'.length
  refine call_tuple_list pl.isList (λh' kp=>?_) (by simp only [zN] <;> omega)
  have I1:Inv X pins σ H { s with heap:=h' }:=I.kept (t':=s.toks) kp
  have I2:Inv X pins σ (upd H h'.objs.size (.tup ys)) { s with heap:=h'.push { cls:=.type "tuple", data:=.seq its.toArray } }:=
   I1.laid (t':=s.toks) (λb o e=>Heap.get?_push_of_some _ e) (zD _) (show ObjOk X.prog X.w _ _ _ (.tup ys) from ⟨⟨hz,new_bare⟩,its,r',IsTup.new _ _⟩)
  exact ⟨.ref h'.objs.size,_,I2,rfl,q _ (I1.hok.fresh (zD _))⟩
 ·obtain ⟨its,r',pl,hz⟩:=I.tuple hq
  exact call_tuple_same pl ⟨.ref p,H,I,rfl,q⟩
def tyV (K:PySem.W.Frag) (T:String) (x:V) (H:Hp):Prop:=match x with
 | .str _=>T = "str"
 | .int _=>T = "int"
 | .ref p=>(T = "list" /\ ∃ xs,SqL K H p xs)\/(T = "tuple" /\ ((∃ o,K.lookup p=some o/\o.cls=.type "tuple" /\ o.dict=none)\/∃ xs,H p=some (.tup xs))) \/
   (T = "dict" /\ ((∃ kvs,H p=some (.dK kvs))\/∃ kvs,H p=some (.dT kvs)))\/(T = "set" /\ ∃ S n,H p=some (.set S n))
 | _=>False
theorem tyV_is {pins:List (Addr×Obj)}{σ:St}{H:Hp}{s:Shared}{T:String}{x:V}{v:Value} (I:Inv X pins σ H s) (r:RelV x v) (ty:tyV X.K T x H) :
  s.TypeIs v T/\∀ a,v=.ref a->∃ ob,s.heap.get? a=some ob/\ob.dict=none:=by
 cases x with
 | str z=>
  obtain ⟨t,rfl⟩:=r
  cases (show T = "str" from ty)
  exact ⟨typeIs_str s z t,λ_ e=>nomatch e⟩
 | int i=>
  obtain ⟨t,rfl⟩:=r
  cases (show T = "int" from ty)
  exact ⟨typeIs_int s i t,λ_ e=>nomatch e⟩
 | ref p=>
  cases r
  rcases ty with ⟨rfl,xs,hq⟩ | ⟨rfl,⟨o,hk,hc,hd⟩ | ⟨xs,hk⟩⟩ | ⟨rfl,hk⟩ | ⟨rfl,S,n,hk⟩
  ·obtain ⟨its,_,pl,_⟩:=I.list hq
   refine ⟨pl.isList.typeIs,λa e=>?_⟩
   cases e
   obtain ⟨o,n,e,c,hd,_⟩:=pl
   exact ⟨o,e,hd⟩
  ·refine ⟨⟨o,I.kIn p o hk,hc⟩,λa e=>?_⟩
   cases e
   exact ⟨o,I.kIn _ o hk,hd⟩
  ·obtain ⟨nb,_,_,o,e,c,_⟩:=I.hok p _ hk
   exact ⟨⟨o,e,c⟩,λa z=>by cases z;exact ⟨o,e,nb.2 o e⟩⟩
  ·have z:∃ o,s.heap.get? p=some o/\o.ExactDict:=by
    rcases hk with ⟨kvs,hk⟩ | ⟨kvs,hk⟩
    ·obtain ⟨_,_,_,_,o,_,_,e,ex,_⟩:=I.hok p _ hk
     exact ⟨o,e,ex⟩
    ·obtain ⟨_,_,_,_,o,_,_,e,ex,_⟩:=I.hok p _ hk
     exact ⟨o,e,ex⟩
   obtain ⟨o,e,ex⟩:=z
   refine ⟨⟨o,e,ex.1⟩,λa e2=>?_⟩
   cases e2
   exact ⟨o,e,ex.2.1⟩
  ·obtain ⟨o,_,_,_,e,ex,_⟩:=I.hok p _ hk
   refine ⟨⟨o,e,ex.1⟩,λa e2=>?_⟩
   cases e2
   exact ⟨o,e,ex.2.1⟩
 | _=>exact False.elim ty
def tBM (K:PySem.W.Frag) (T:String) (r:V->List V->Hp->VK->Prop) (to:TE) (t:TA):TE:=fun σ H Q=>to σ H λx H1=>tyV K T x H1/\t σ H1 λxs H2=>r x xs H2 Q
variable {o e:Expr}{es:List Expr}{to:TE}{t:TA}{name:Str}{apos cpos:Pos}{T id:String}{r:V->List V->Hp->VK->Prop}
theorem pe_bm (pa:PlainAttrs T) (slot:Slot T name id) (hty:typeOf (.builtin id)=pure (.type "method_descriptor")) (hm:MtR X id r) (ho:PE X o to) (ha:PA X (e::es) t)
  (hbase:attributeBase o name X.env (eval o X.env)=eval o X.env:=by rfl)
  (hfew:((backTo cpos (starEach (e::es) X.env)).all (λx=>!x.1) && (backToKw cpos (keywordEach [] X.env)).all (λx=>x.1.isSome)
   && decide ((e::es).length + ([]:List Keyword).length + (if ([]:List Keyword).isEmpty then 0 else 1) < 30))=true:=by rfl)
  (hline:(apos.endLine == cpos.line)=true:=by rfl) (hs:starEach (e::es) X.env=(false,eval e X.env)::starEach es X.env:=by rfl) (hplain:(backTo cpos (starEach es X.env)).any (·.1)=false:=by rfl) :
  PE X (.Call (.Attribute o name apos) (e::es) [] cpos) (tBM X.K T r to t):=by
 intro pins s σ H Q I h
 refine wpAny_Call_method_late hbase hfew hline rfl (thn (ho pins s σ H _ I h) λv s1 ⟨x,H1,I1,r1,ty,q1⟩=>?_)
 obtain ⟨h1,h2⟩:=tyV_is I1 r1 ty
 refine ⟨T,id,pa,slot,hty,h1,h2,?_⟩
 have hA:=ha cpos pins s1 σ H1 _ I1 q1
 rw [hs] at hA ⊢
 refine Calls.callWith_builtin (by show (false || (backTo cpos (starEach es X.env)).any (·.1))=false;rw [hplain] <;> rfl) (Calls.evalArgs_plain ?_)
 exact thn hA λus s2 ⟨vs,H2,I2,r2,q2⟩=>hm pins s2 σ H2 x vs v us Q I2 r1 r2 q2
/- xs.append(e),list.index on a module's tuple .. are MtR facts of 06m -/
end
end L2
namespace L2
open PySem PySem.Spec PyProof.Rows
def MtM (X:Cx) (id:String) (r:V->List V->Hp->VK->Prop):Prop:=
 ∀ (pins:List (Addr×Obj)) (s:Shared) (σ:St) (H:Hp) (x:V) (xs:List V) (v:Value) (us:List Value) (Q:VK),Inv X pins σ H s->RelV x v->Vals xs us->r x xs H Q ->
  wpAny (model X.prog X.w) X.A (call (.builtin id) (v::us)) (EP X pins σ Q) X.xe s
theorem Vals.one:∀ {x:V}{us:List Value},Vals [x] us->∃ u,us=[u]/\RelV x u
 | _,_,.cons r .nil=>⟨_,rfl,r⟩
theorem Vals.reverse {xs:List V}{us:List Value} (h:Vals xs us):Vals xs.reverse us.reverse:=by
 induction h with
 | nil=>exact .nil
 | cons r t ih=>rw [List.reverse_cons,List.reverse_cons];exact Vals.append ih (.cons r .nil)
section
variable {X:Cx}{pins:List (Addr×Obj)}{σ:St}{H:Hp}{s:Shared}{l b:Addr}{xs ys zs:List V}
theorem Inv.lset {its its':List Value}{n:Nat}{f:Array Value->Array Value}{t':Nat} (I:Inv X pins σ H s) (hH:H l=some (.lst xs))
  (e:s.heap.get? l=some { cls:=.type "list", data:=.seq its.toArray n }) (hf:f its.toArray=its'.toArray) (hv:Vals ys its') (hz:ys.length<=sizeLine) :
  Inv X pins σ (upd H l (.lst ys)) { s with heap:=s.heap.update l (Obj.mapSeq f),toks:=t' }:=by
 have q:=PySem.IsL.update e f
 rw [hf] at q
 refine I.write (x:=l) (e:=l) (by rw [hH];exact trivial) (.inl rfl) (λb' u hb hu=>(Heap.get?_update_other s.heap (Obj.mapSeq f) (Ne.symm hb)).trans hu) ⟨_,q⟩ ?_
 exact ⟨hz,its',_,hv,q⟩
theorem Inv.lnew {its:List Value}{t':Nat} (I:Inv X pins σ H s) (hv:Vals ys its) (hz:ys.length<=sizeLine) :
  Inv X pins σ (upd H s.heap.objs.size (.lst ys)) { s with heap:=s.heap.push { cls:=.type "list", data:=.seq its.toArray },toks:=t' }:=
 I.laid (λ_ _ q=>Heap.get?_push_of_some _ q) (zD _) ⟨hz,its,0,hv,Heap.get?_push_size _ rfl⟩
theorem Inv.fresh (I:Inv X pins σ H s):H s.heap.objs.size=none:=I.hok.fresh (zD _)
theorem Inv.lstM (I:Inv X pins σ H s) (hH:H l=some (.lst xs)):xs.length<=sizeLine/\∃ (its:List Value) (n:Nat),Vals xs its/\xs.length=its.length/\s.heap.get? l=some { cls:=.type "list", data:=.seq its.toArray n }:=by
 obtain ⟨z,its,n,r,e⟩:=I.hok l _ hH
 exact ⟨z,its,n,r,r.length,e⟩
end
section
variable {X:Cx}
def rAppend:V->List V->Hp->VK->Prop:=λx vs H Q=>∃ l xs y,x=.ref l/\vs=[y]/\H l=some (.lst xs)/\xs.length < sizeLine/\Q .non (upd H l (.lst (xs++[y])))
theorem wQ:MtM X "list.append" rAppend:=by
 intro pins s σ H x vs v us Q I rx rv h
 obtain ⟨l,xs,y,rfl,rfl,hH,hz,q⟩:=h
 cases rx
 obtain ⟨u,rfl,ru⟩:=rv.one
 obtain ⟨z,its,n,r,hl,e⟩:=I.lstM hH
 refine call_meets F.slot_list_append ⟨_,e,rfl⟩ F.entry_list_append (F.args_list_append_2 _ _) (PySem.list_append l its.toArray n u (by rw [zN];omega)) ⟨e,?_⟩
 refine ⟨.non,_,I.lset (its':=its++[u]) hH e (by simp) (r.append (.cons ru .nil)) ?_,rfl,q⟩
 rw [zP,ze]
 omega
def rCat:R2:=λx y H Q=>∃ l b xs zs,x=.ref l/\y=.ref b/\H l=some (.lst xs)/\H b=some (.lst zs)/\xs.length + zs.length<=sizeLine/\∀ p,H p=none->Q (.ref p) (upd H p (.lst (xs++zs)))
theorem op_cat:OpR X (binaryOp .Add) rCat:=by
 intro pins s σ H x y v u Q I rx ry h
 obtain ⟨l,b,xs,zs,rfl,rfl,hH,hB,hz,q⟩:=h
 cases rx
 cases ry
 obtain ⟨z,its,n,r,hl,e⟩:=I.lstM hH
 obtain ⟨z2,its2,n2,r2,hl2,e2⟩:=I.lstM hB
 refine PySem.P.add_list e e2 ?_ (by rw [zN,zN];omega)
 have ea:its.toArray++its2.toArray=(its++its2).toArray:=by simp
 rw [ea]
 exact ⟨.ref _,_,I.lnew (t':=s.toks) (r.append r2) (by rw [zP];omega),rfl,q _ I.fresh⟩
end
section
variable {prog:Program}{w:World}{A:Around}{E:Value->Shared->Prop}{s:Shared}
set_option maxRecDepth 100000 in
end
section
variable {X:Cx}
end
end L2
namespace Att
open PySem PySem.W PySem.Calls PyProof.Rows
theorem ints_of_wellAll {P:Params}{h:Heap}:∀ (ns:List Int) (vs:List Value),WellAll P h vs (ns.map WData.int)->IntsAre vs ns:=by
 intro ns
 induction ns with
 | nil=>
  intro vs w
  rw [xD] at w
  cases w
  exact .nil
 | cons n ns ih=>
  intro vs w
  rw [zk] at w
  cases w with
  | cons a b=>
   cases a
   exact .cons _ _ (ih _ b)
theorem script_of {l:OpenLaw}{n:Nat} (hn:l.most=some n) {P:Params}{h:Heap}{args:List WData}{vals:List Value}
  (hpre:l.row.toRowW.claim.pre args=true) (hwl:WellAll P h vals args) :
  ∃ a vs ns,vals=[Value.ref a]/\args=[WData.list (ns.map WData.int)]/\h.get? a=some { cls:=.type "list", data:=.seq vs.toArray }/\IntsAre vs ns/\ns.length<=n:=by
 have hsh:WShape.hasAll [] args [.list .int]=true:=(pre_splitW hpre).1
 have hc:l.pre.holds [] { args:=args }=true:=(pre_splitW hpre).2
 obtain ⟨d,r,rfl,h1,h2⟩:=hasAllW_cons hsh
 obtain rfl:=hasAllW_nil h2
 obtain ⟨xs,rfl,h3⟩:=hasW_list h1
 obtain ⟨ns,rfl⟩:=items_int h3
 have hlen:ns.length<=n:=by
  unfold OpenLaw.pre at hc
  have h4:(WTm.not (.lt (.lit (.int (n:Int))) (.len (.arg 0)))).holds [] { args:=[.list (ns.map .int)] }=true:=by
   have h4:=(holds_andW hc).1
   rw [hn] at h4
   exact h4
  have h5:=condW_of h4 (w_not (w_lt w_lit (w_len_list (w_arg rfl))))
  rw [zA] at h5
  refine Nat.le_of_not_lt λq=>?_
  have q':(n:Int) < ((ns.length:Nat):Int):=by omega
  first
   | (rw [decide_eq_true q'] at h5;exact absurd h5 (by decide))
   | (simp at h5;omega)
 cases hwl with
 | cons w1 w2=>
  cases w2
  cases w1 with
  | list ho hall=>exact ⟨_,_,ns,rfl,rfl,ho,ints_of_wellAll ns _ hall,hlen⟩
theorem post_true (l:OpenLaw) (args:List WData):l.row.toRowW.claim.post args (.bool true) args=true:=
 postW_of (r:=l.row.toRowW) (X:=(true == true))
  (show WShape.has [] (.bool true) .bool=true by first | rfl | decide | simp [WShape.has,WShape.arms,WShape.armsAll])
  (show (WTm.eq .res (.lit (.bool true))).value [] { args:=args,res:=some (.bool true),after:=args }=some (.bool (true == true)) from w_eq_bool (w_res rfl) w_lit) rfl
theorem attach_call {l:OpenLaw}{n:Nat}{q:Program}{loose:List Str}{XP:(Str->Option Value)->Heap->Prop}{YP:World->Heap->Prop}{d:DefRec}
  (hn:l.most=some n) (hdf:d.params.defaults=[])
  (call:∀ (w:World) (s₀ s₁:Shared) (mg mb:Str->Option Value) (fa:Addr) (o:Obj) (pm cd doc:Value) (a:Addr) (vs:List Value) (ns:List Int),
   Ground q loose [] XP w s₀ mg mb s₁.heap->YP w s₁.heap ->
   s₁.heap.get? fa=some o->o.data=.func (docDef d.name d.params d.body d.scope pm cd doc)->s₁.heap.CodeRec cd d.name->mg d.name=some (.ref fa) ->
   s₁.heap.get? a=some { cls:=.type "list", data:=.seq vs.toArray }->IntsAre vs ns->ns.length<=n->s₁.gens=#[] ->
   codeAny (model l.prog w) callerA (.call (.ref fa) ⟨[.ref a],[]⟩) (λr s'=>r=.ok (.ret (.bool true))/\OldK s₁.heap s'.heap/\s'.os=s₁.os/\AllBare s'.gens) s₁) :
  WalkO q loose XP YP l.row.toRowW d [] (λf vs=>PySem.call f vs):=by
 intro w s₀ s₁ mg mb G Y fa o pm cd doc dV kV ho hd hcd hD hmg hg args vals as hpre hlay hrd hwl hlo
 obtain rfl:dV=.none:=Dflts.none hD hdf
 obtain rfl:kV=.none:=Dflts.noKw hD
 obtain ⟨a,vs,ns,rfl,rfl,hobj,hints,hlen⟩:=script_of hn hpre hwl
 refine enter_call (codeAny_mono (call w s₀ s₁ mg mb fa o pm cd doc a vs ns G Y ho (fd_plain hd) hcd hmg hobj hints hlen hg) λr s' hq=>?_)
 obtain ⟨rfl,h2,h3,h4⟩:=hq
 exact ⟨.inl ⟨.bool true,.bool true,[],rfl,λ_=>rfl,.bool true,post_true l _,λ_=>⟨List.Pairwise.nil,λ_ hm=>(nomatch hm)⟩⟩,h2,h3,h4⟩
section
variable {prog:Program}{w:World}{A:Around}{E:Value->Shared->Prop}{s:Shared}{K:Frag}
def ledger (h:Heap) (L d:Addr):List (Addr×Obj):=(List.range h.objs.size).filterMap λa=>if a=L\/a=d then none else (h.get? a).map λo=>(a,o)
end
end Att
namespace L2
open PySem PySem.Spec PyProof.Rows
theorem vals_ints:∀ {vs:List Value}{ns:List Int},IntsAre vs ns->Vals (ns.map V.int) vs
 | _,_,.nil=>.nil
 | _,_,.cons n t h=>.cons ⟨t,rfl⟩ (vals_ints h)
end L2
namespace L2
open PySem PySem.Spec PyProof.Rows
end L2
namespace L2
open PySem PySem.Spec PyProof.Rows
def defArgs (s:Stmt):Arguments:=match s with
 | .FunctionDef _ a _ _ _ _ _ _ _ _=>a
 | _=>{ posonlyargs:=[],args:=[],vararg:=none,kwonlyargs:=[],kw_defaults:=[],kwarg:=none,defaults:=[] }
def defBody (s:Stmt):List Stmt:=match s with
 | .FunctionDef _ _ b _ _ _ _ _ _ _=>b
 | _=>[]
def defScope (s:Stmt):Scope:=match s with
 | .FunctionDef _ _ _ _ _ _ sc _ _ _=>sc
 | _=>{ kind:=.function,names:=[],isGenerator:=false,isCoroutine:=false }
abbrev CX0:CXT:=λ_ _ _ _ _ _=>False
abbrev E0:XK:=λ_ _ _=>False
theorem pass0 {X:Cx}:Passes CX0 X E0:=λ_ _ _ _ _ _ _ h=>h.elim
structure Fun (K:PySem.W.Frag) (x qual:Str) (st:Stmt) (f:Addr) (fd:FuncData):Prop where
 ex:∃ (oc:Value) (od:Option Addr) (kV doc pm:Value) (an:Option Addr) (cdv ct:Value) (osl:Array (Option Value)),
  fd=xC x qual (defArgs st) (defBody st) (defScope st) .none kV doc pm an cdv ct/\K.lookup f=some ⟨oc,od,.func fd,osl⟩/\PySem.W.codeIn K cdv qual=true
 kp:zJ K (.ref f)=true
section
variable {P:Program}{w:World}{K:PySem.W.Frag}{mg:Str->Option Value}{base:Heap}
theorem Fun.ok {x qual:Str}{st:Stmt}{f:Addr}{fd:FuncData}{N ps:List Str}{k:Nat}{sp:Sp} (F:Fun K x qual st f fd) (S:FnScope N ps (defScope st)) (len:∀ vs H Q E,sp vs H Q E->vs.length=ps.length)
  (hbody:∀ (cdv:Value) (A:Around) (outer:List Env) (s:Shared) (H:Hp) (vs:List V) (Q:VK) (E:XK),Room k (A.deeper (envOfC qual (defScope st) s.heap.objs.size f cdv))->sp vs H Q E ->
   ∃ t,PSs (cxOf CX0 P w K mg base N qual (defScope st) f cdv A outer s H E).nox (defBody st) t/\t { nx:=λ_ H'=>Q .non H',rt:=Q } (start N vs) H):FnOk P w K mg base CX0 (k + 1) f fd ps sp:=by
 obtain ⟨oc,od,kV,doc,pm,an,cdv,ct,osl,rfl,lk,hcd⟩:=F.ex
 refine fn_of lk hcd S len λA outer s H vs Q E hr hsp=>?_
 obtain ⟨t,h,q⟩:=hbody cdv A outer s H vs Q E hr hsp
 exact ⟨t,h.nox,q⟩
theorem Fun.binds {x qual:Str}{st:Stmt}{f:Addr}{fd:FuncData}{ps:List Str} (F:Fun K x qual st f fd)
  (h:∀ (kV doc pm:Value) (an:Option Addr) (cdv ct:Value) (us:List Value),us.length=ps.length->bindArgs (xC x qual (defArgs st) (defBody st) (defScope st) .none kV doc pm an cdv ct) ⟨us,[]⟩=pure (ps.zip us)):Binds K fd ps []:=by
 obtain ⟨oc,od,kV,doc,pm,an,cdv,ct,osl,rfl,lk,hcd⟩:=F.ex
 exact .all (h kV doc pm an cdv ct)
theorem fun_mk {x qual:Str}{st:Stmt}{f:Addr}{oc:Value}{od an:Option Addr}{osl:Array (Option Value)}{kV doc pm cdv ct:Value} (l:K.lookup f=some ⟨oc,od,.func (xC x qual (defArgs st) (defBody st) (defScope st) .none kV doc pm an cdv ct),osl⟩)
  (c:PySem.W.codeIn K cdv qual=true) (k:zJ K (.ref f)=true):Fun K x qual st f (xC x qual (defArgs st) (defBody st) (defScope st) .none kV doc pm an cdv ct):=⟨⟨oc,od,kV,doc,pm,an,cdv,ct,osl,rfl,l,c⟩,k⟩
end
section
variable {X:Cx}
theorem pv (i:Nat) {x:Str}{pos:Pos} (hN:X.N[i]?=some x:=by rfl) (hv:Vis X.env.scope x:=by first | exact Or.inl rfl | exact Or.inr (Or.inl rfl) | exact Or.inr (Or.inr rfl)) (hd:(x == ("__debug__" : Str))=false:=by decide)
  (hcd:(x == ("__classdict__" : Str))=false:=by decide):PE X (.Name x pos) (tVar i):=pe_var hN hv hd hcd
end
theorem iteF {A B:Prop} (h:B):if false=true then A else B:=by
 rw [if_neg zM]
 exact h
theorem iteNS {c A B:Prop} [Decidable c] (hc:c) (h:B):if (!decide c)=true then A else B:=by
 rw [decide_eq_true hc]
 exact iteF h
def Same (H H':Hp):Prop:=∀ b o,H b=some o->H' b=some o
theorem Same.refl (H:Hp):Same H H:=λ_ _ h=>h
theorem Same.trans {H H1 H2:Hp} (a:Same H H1) (b:Same H1 H2):Same H H2:=λc o h=>b c o (a c o h)
theorem Same.free {H H':Hp} (e:Same H H') {l:Addr} (h:H' l=Option.none):H l=Option.none:=by
 cases q:H l with
 | none=>rfl
 | some o=>
  rw [e l o q] at h
  cases h
theorem Same.seq {K:PySem.W.Frag}{H H':Hp}{a:Addr}{xs:List V} (e:Same H H') (h:SqL K H a xs):SqL K H' a xs:=by
 rcases h with (h | ⟨o,h⟩) | h
 ·exact .inl (.inl (e _ _ h))
 ·exact .inl (.inr ⟨o,e _ _ h⟩)
 ·exact .inr h
end L2
namespace L2
open PySem PySem.Spec PyProof.Rows
theorem loop_comp {prog:Program}{w:World}{A:Around}{R:Result->Shared->Prop}{s:Shared}{elt target iter:Expr}{ifs:List Expr}{scope:Scope}{pos:Pos}{it acc:Value}{env:Env} (I:Nat->Shared->Prop)
  (turn:∀ n s,I n s->wpAny (model prog w) A (pyNext it) (λr s₁=>match r with
   | none=>R (.ok .next) s₁
   | some v=>wpAny (model prog w) A (letOwnedTupleGo target it v) (λ_ s₁'=>wpAny (model prog w) A (assign target env v) (λ_ s₂=>
     wpAny (model prog w) A (forIn ifs true λc r=>if r=true then do let ok <- isTrue c env (eval c env);pure (ForInStep.yield ok) else pure (ForInStep.yield r)) (λok s₃=>
      if ok=true then wpAny (model prog w) A (eval elt env) (λx s₄=>
       wpAny (model prog w) A (call (.builtin "list.append") [acc,x]) (λ_ s₅=>∃ m,m < n/\I m s₅) (λ_ _=>False) s₄) (λ_ _=>False) s₃
      else ∃ m,m < n/\I m s₃) (λ_ _=>False) s₂) (λ_ _=>False) s₁') (λ_ _=>False) s₁) (λ_ _=>False) s)
  (n:Nat) (h:I n s) :
  codeAny (model prog w) A (.compLoop (.ListComp elt [⟨target,iter,ifs,0⟩] scope pos) 0 it acc env) R s:=by
 refine codeAny_loop rfl I (λn s hI=>?_) n h
 show wpAny _ A ((compTurn (.ListComp elt [⟨target,iter,ifs,0⟩] scope pos) 0 it acc env).onRaise (λx=>do noteFrame x env;theTreesLotGoes x)) _ _ s
 refine wpAny_noted ?_
 rw [compTurn_list]
 refine wpAny_bind (wpAny_standAt (wpAny_bind (wpAny_mono (turn n s hI) (λr s₁ h₁=>?_) λ_ _ h'=>h'.elim)))
 cases r with
 | none=>exact wpAny_pure h₁
 | some v=>
  refine wpAny_bind (wpAny_mono h₁ (λ_ s₁' h₁'=>?_) λ_ _ h'=>h'.elim)
  refine wpAny_bind (wpAny_mono h₁' (λ_ s₂ h₂=>wpAny_bind (wpAny_mono h₂ (λok s₃ h₃=>?_) λ_ _ h'=>h'.elim)) λ_ _ h'=>h'.elim)
  cases ok with
  | false=>exact wpAny_pure ⟨rfl,h₃⟩
  | true=>
   exact wpAny_bind (wpAny_bind (wpAny_mono h₃ (λx s₄ h₄=>wpAny_bind (wpAny_mono h₄ (λ_ s₅ h₅=>wpAny_pure (wpAny_pure ⟨rfl,h₅⟩)) λ_ _ h'=>h'.elim)) λ_ _ h'=>h'.elim))
def clOf (names:List (Str×NameKind)) (env:Env) (cs:List (Str×Addr)):List (Str×Addr):=
 names.foldl (λcs p=>if p.2=.free then (match env.cells.lookup p.1 with | some c=>(p.1,c)::cs | none=>cs) else cs) cs
theorem closure_loop {env:Env}:∀ (names:List (Str×NameKind)) (cs:List (Str×Addr)),(∀ y∈names,y.2=.free->∃ c,env.cells.lookup y.1=some c) ->
  (forIn names cs λx r=>(if (x.2 == NameKind.free)=true then do let a <- cellOf env x.1;pure (ForInStep.yield ((x.1,a)::r)) else pure (ForInStep.yield r):Sem _))=pure (clOf names env cs)
 | [],cs,_=>by simp [clOf]
 | (n,k)::r,cs,h=>by
  have ih:=λcs=>closure_loop r cs λy hy=>h y (zj _ hy)
  simp only [List.forIn_cons]
  by_cases hk:k=.free
  ·subst hk
   obtain ⟨c,e⟩:=h (n,.free) yD rfl
   have e':env.cells.lookup n=some c:=e
   have ec:cellOf env n=pure c:=by unfold cellOf;rw [e']
   simp only [beq_self_eq_true,if_true,ec,pure_bind]
   rw [ih]
   simp [clOf,e']
  ·have hb:(k == NameKind.free)=false:=by simpa using hk
   simp only [hb,zV,if_false,pure_bind]
   rw [ih]
   simp [clOf,hk]
theorem closureFor_eq {scope:Scope}{env:Env} (h:∀ y∈scope.names,y.2=.free->∃ c,env.cells.lookup y.1=some c):closureFor scope env=pure (clOf scope.names env []):=by
 unfold closureFor
 have:=closure_loop scope.names [] h
 simp only [bind_pure]
 exact this
theorem clOf_mem {env:Env}:∀ (names:List (Str×NameKind)) (cs:List (Str×Addr)) (x:Str) (c:Addr),(x,c)∈clOf names env cs->(x,c)∈cs\/env.cells.lookup x=some c
 | [],cs,x,c,h=>.inl h
 | (n,k)::r,cs,x,c,h=>by
  have h':(x,c)∈clOf r env (if k=.free then (match env.cells.lookup n with | some c=>(n,c)::cs | none=>cs) else cs):=h
  rcases clOf_mem r _ x c h' with q | q
  ·split at q
   ·cases e:env.cells.lookup n with
    | none=>rw [e] at q;exact .inl q
    | some d=>
     rw [e] at q
     rcases zF.mp q with z | z
     ·cases z;exact .inr e
     ·exact .inl z
   ·exact .inl q
  ·exact .inr q
theorem clOf_keep {env:Env}:∀ (names:List (Str×NameKind)) (cs:List (Str×Addr)) (x:Str),(∃ c,(x,c)∈cs)->∃ c,(x,c)∈clOf names env cs
 | [],cs,x,h=>h
 | (n,k)::r,cs,x,⟨c,h⟩=>by
  refine clOf_keep r _ x ?_
  dsimp only
  split
  ·split
   ·exact ⟨c,zj _ h⟩
   ·exact ⟨c,h⟩
  ·exact ⟨c,h⟩
theorem clOf_has {env:Env}:∀ (names:List (Str×NameKind)) (cs:List (Str×Addr)) (x:Str),(x,NameKind.free)∈names->(∃ c,env.cells.lookup x=some c)->∃ c,(x,c)∈clOf names env cs
 | [],_,_,h,_=>by simp at h
 | (n,k)::r,cs,x,h,⟨c,e⟩=>by
  rcases zF.mp h with z | z
  ·have e1:x=n:=congrArg Prod.fst z
   have e2:NameKind.free=k:=congrArg Prod.snd z
   subst e1 e2
   refine clOf_keep r _ x ⟨c,?_⟩
   dsimp only
   rw [if_pos rfl,e]
   exact yD
  ·exact clOf_has r _ x z ⟨c,e⟩
theorem lookup_of_mem {β:Type}:∀ (l:List (Str×β)) (x:Str) (c:β),(x,c)∈l->∃ d,l.lookup x=some d
 | (n,d)::r,x,c,h=>by
  cases hx:x == n with
  | true=>exact ⟨d,by simp [yT,hx]⟩
  | false=>
   simp only [yT,hx]
   rcases zF.mp h with z | z
   ·cases z;simp at hx
   ·exact lookup_of_mem r x c z
theorem xu {names:List (Str×NameKind)}{env:Env}{x:Str}{c:Addr} (h:(clOf names env []).lookup x=some c):env.cells.lookup x=some c:=by
 rcases clOf_mem names [] x c (yH h) with q | q
 ·simp at q
 ·exact q
theorem clOf_some {names:List (Str×NameKind)}{env:Env}{x:Str}{c:Addr} (h:(x,NameKind.free)∈names) (e:env.cells.lookup x=some c):(clOf names env []).lookup x=some c:=by
 obtain ⟨d,hd⟩:=clOf_has names [] x h ⟨c,e⟩
 obtain ⟨d',hd'⟩:=lookup_of_mem _ _ _ hd
 have:=xu hd'
 rw [e] at this
 cases this
 exact hd'
theorem lookup_relabel_free {env:Env}:∀ {names:List (Str×NameKind)}{x:Str},names.lookup x=some .free ->
  (names.map λ(n,k)=>if (k == NameKind.free && env.scope.kind == .function && env.kindOf n == some .cell) then (n,NameKind.cell) else (n,k)).lookup x=some .cell \/
  (names.map λ(n,k)=>if (k == NameKind.free && env.scope.kind == .function && env.kindOf n == some .cell) then (n,NameKind.cell) else (n,k)).lookup x=some .free
 | [],_,h=>by simp at h
 | (n,k)::r,x,h=>by
  have ih:=@lookup_relabel_free env r x
  show List.lookup x ((if (k == NameKind.free && env.scope.kind == .function && env.kindOf n == some .cell)=true then (n,NameKind.cell) else (n,k))::_)=_\/List.lookup x ((if (k == NameKind.free && env.scope.kind == .function && env.kindOf n == some .cell)=true then (n,NameKind.cell) else (n,k))::_)=_
  by_cases hc:(k == NameKind.free && env.scope.kind == .function && env.kindOf n == some .cell)=true
  ·rw [if_pos hc]
   cases hx:x == n with
   | true=>left;simp [yT,hx]
   | false=>
    simp only [yT,hx] at h ⊢
    exact ih h
  ·rw [if_neg hc]
   cases hx:x == n with
   | true=>
    simp only [yT,hx] at h
    cases h
    right;simp [yT,hx]
   | false=>
    simp only [yT,hx] at h ⊢
    exact ih h
structure CompScope (own:List Str) (caps:List Nat) (N:List Str) (sc scope:Scope):Prop where
 kind:scope.kind=.function
 nocell:∀ y∈scope.names,y.2≠.cell
 loc:∀ y∈scope.names,y.2=.local->scope.names.lookup y.1=some .local
 fr:∀ y∈scope.names,y.2=.free->sc.names.lookup y.1=some .cell\/sc.names.lookup y.1=some .free
 cap:∀ i∈caps,i < N.length/\scope.names.lookup ((N[i]?).getD Str.empty)=some .free
def cxComp (X:Cx) (own:List Str) (caps:List Nat) (scope:Scope) (s:Shared) (H:Hp) (fp:List Addr) (C:Addr):Cx:=
 { X with N:=own++caps.map (λi=>(X.N[i]?).getD Str.empty),s₀:=s,H₀:=H,env:=compEnvC scope (clOf scope.names X.env []) C X.env,outer:=X.stack,ex:=fp,fn:=λ_=>false,pn:=[],xe:=λ_ _=>False }
def tau0 (n:Nat) (caps:List Nat) (σ:St):St:=List.replicate n none++caps.map λi=>(σ[i]?).join
section
variable {X:Cx}{pins:List (Addr×Obj)}{σ:St}{H:Hp}{s:Shared}
theorem free_of_kind {scope:Scope}{env:Env} (nc:∀ y∈scope.names,y.2≠.cell) {x:Str}{k:NameKind} (hk:k=.cell\/k=.free) (h:(relabel scope env).names.lookup x=some k):(x,NameKind.free)∈scope.names:=by
 have hm:=yH h
 obtain ⟨⟨n,k0⟩,hy,e⟩:=zI.mp hm
 dsimp only at e
 split at e
 ·rename_i hc
  simp only [yS,beq_iff_eq] at hc
  have e1:n=x:=congrArg Prod.fst e
  subst e1
  rw [hc.1.1] at hy
  exact hy
 ·cases e
  rcases hk with z | z
  ·subst z;exact absurd rfl (nc _ hy)
  ·subst z;exact hy
theorem inv_comp {own:List Str}{caps:List Nat}{scope:Scope}{fp:List Addr}{D C:Addr}{o:Obj} {h1:Heap}{tk:Nat} (I:Inv X pins σ H s) (S:CompScope own caps X.N X.env.scope scope)
  (f:∀ b∈fp,FpOk X pins H b) (fl:∀ b∈fp,b < s.heap.objs.size) (hD:s.heap.objs.size<=D) (hC:s.heap.objs.size<=C) (hDC:D≠C) (keep:∀ b o,s.heap.get? b=some o->h1.get? b=some o)
  (hns:h1.Ns C λ_=>none) (hacc:h1.get? D=some o) (ho:∀ v,o.data≠.cell v) :
  Inv (cxComp X own caps scope s H fp C) [(D,o)] (tau0 own.length caps σ) H { s with heap:=h1,toks:=tk }:=by
 have sub:∀ b∈frs X.stack,b < s.heap.objs.size:=λb hb=>by
  rcases zF.mp (I.stkSub b hb) with e | hb
  ·rw [e];exact I.lt
  ·by_cases q:b < s.heap.objs.size
   ·exact q
   ·exact absurd hb (I.nofs (Nat.le_of_not_lt q))
 refine ⟨⟨I.ok.mod,S.kind,I.ok.glob,I.ok.blt,hC,λx y c h1 h2=>I.ok.inj x y c (xu h1) (xu h2),λx hx=>?_,λx c z _=>absurd (show false=true from z) zM,I.ok.hd,I.ok.frames,.inl rfl,
   λb hb=>⟨zQ (zO (fl b hb) hC),λx c e=>(f b hb).2.2.2.2.1 x c (xu e)⟩,I.bs,z6 I.ok.bsz I.sz,λb ob e hb=>?_,λb hb hs=>?_,I.stack,I.stkFree⟩,
  rfl,I.bare,Un.kept keep,⟨_,hns,λi x v e1 e2 e3=>?_⟩,λx c e=>?_,I.hok.fresh hC,λx c e=>I.freeC x c (xu e),λp hp=>?_,I.hok.kept keep,?_⟩
 ·have hm:(x,NameKind.free)∈scope.names:=by
   rcases hx with hx | hx
   ·exact free_of_kind S.nocell (.inl rfl) hx
   ·exact free_of_kind S.nocell (.inr rfl) hx
  obtain ⟨c,hc⟩:=I.ok.has x (S.fr _ hm rfl)
  exact ⟨c,clOf_some hm hc⟩
 ·rcases (f b hb).2.2.2.1 with z | z
  ·exact I.ok.noex b ob e z
  ·exact absurd (zO (Heap.lt_size e) (z6 I.ok.bsz z)) (z8 _)
 ·rcases zF.mp (I.stkSub b hs) with e | e
  ·exact (f b hb).2.1 e
  ·exact (f b hb).2.2.1 e
 ·have e2':(List.replicate own.length (none:Option V)++caps.map λi=>(σ[i]?).join)[i]?=some (some v):=e2
  have e1':(own++caps.map (λi=>(X.N[i]?).getD Str.empty))[i]?=some x:=e1
  have hi:own.length<=i:=by
   by_cases q:i < own.length
   ·rw [zp (by simpa using q),List.getElem?_replicate,if_pos q] at e2'
    cases e2'
   ·exact Nat.le_of_not_lt q
  rw [zh (by simpa using hi),List.length_replicate,zR] at e2'
  rw [zh hi,zR] at e1'
  cases ek:caps[i - own.length]? with
  | none=>rw [ek] at e1';cases e1'
  | some k=>
   rw [ek] at e1' e2'
   have ex:(X.N[k]?).getD Str.empty=x:=Option.some.inj e1'
   have ev:(σ[k]?).join=some v:=Option.some.inj e2'
   have ev':σ[k]?=some (some v):=by
    cases q:σ[k]? with
    | none=>rw [q] at ev;cases ev
    | some y=>rw [q] at ev;exact congrArg some ev
   obtain ⟨hl,hf⟩:=S.cap k (zC ek)
   have eN:X.N[k]?=some x:=by
    rw [zU hl] at ex ⊢
    exact congrArg some ex
   rw [ex] at hf
   have hm:=yH hf
   have hfr:=S.fr _ hm rfl
   obtain ⟨m,_,hl'⟩:=I.loc
   obtain ⟨u,ru,lk⟩:=hl' k x v eN ev' (.inr hfr)
   refine ⟨u,ru,.inr ⟨lookup_relabel_free hf,?_⟩⟩
   rcases lk with ⟨kl,_⟩ | ⟨_,c,hc,ob,hob,hd⟩
   ·have kl':X.env.scope.names.lookup x=some .local:=kl
    rcases hfr with z | z
    ·have z':X.env.scope.names.lookup x=some .cell:=z
     rw [z'] at kl';cases kl'
    ·have z':X.env.scope.names.lookup x=some .free:=z
     rw [z'] at kl';cases kl'
   ·exact ⟨c,clOf_some hm hc,ob,keep c ob hob,hd⟩
 ·obtain ⟨v,ob,hob,hd⟩:=I.cell x c (xu e)
  exact ⟨v,ob,keep c ob hob,hd⟩
 ·have e:p=(D,o):=by simpa using (show p∈[]++[(D,o)] from hp)
  subst e
  refine ⟨hacc,I.hok.fresh hD,hDC,λz=>?_,ho⟩
  exact absurd (zO (sub D z) hD) (z8 _)
 ·show (tau0 own.length caps σ).length=(own++caps.map (λi=>(X.N[i]?).getD Str.empty)).length
  simp [tau0]
def PTs (X:Cx) (ifs:List Expr) (t:TT):Prop:=
 ∀ (pins:List (Addr×Obj)) (s:Shared) (σ:St) (H:Hp) (Q:Bool->Hp->Prop),Inv X pins σ H s->t σ H Q ->
  wpAny (model X.prog X.w) X.A (forIn ifs true λc r=>if r=true then do let ok <- isTrue c X.env (eval c X.env);pure (ForInStep.yield ok) else pure (ForInStep.yield r)) (TP X pins σ Q) X.xe s
def tYes:TT:=λ_ H Q=>Q true H
theorem pts_nil:PTs X [] tYes:=λ_ s σ H Q I h=>wpAny_tests_nil ⟨H,I,h⟩
theorem pts_one {c:Expr}{t:TT} (h:PT X c t):PTs X [c] t:=λpins s σ H Q I q=>wpAny_tests_one (h pins s σ H Q I q)
def tComp (n:Nat) (caps:List Nat) (wi:TI) (g:TG) (tc:TT) (te:TE):TE:=fun σ H Q=>wi σ H λJ H1=>∃ W:Nat->Nat->St->List V->Hp->Prop,(∃ m,W 0 m (tau0 n caps σ) [] H1)/\∀ i m τ acc H,W i m τ acc H ->
 (J.stop i H/\acc.length<=sizeLine/\∀ p,H p=none->Q (.ref p) (upd H p (.lst acc))) \/
 (J.go i H/\acc.length < sizeLine/\∀ x H',J.yld i H x H'->g x τ H' fun τ2 H2=>tc τ2 H2 λb H3=>if b=true then te τ2 H3 λy H4=>∃ m',m' < m/\W (i + 1) m' τ2 (acc++[y]) H4 else ∃ m',m' < m/\W (i + 1) m' τ2 acc H3)
theorem HOk.track {P:Program}{w:World}{H:Hp}{h:Heap}{a:Addr}{o:HO} (x:HOk P w H h) (hn:H a=none) (new:ObjOk P w (upd H a o) h a o):HOk P w (upd H a o) h:=λb u e=>by
 by_cases hb:b=a
 ·subst hb;rw [xI] at e;cases e;exact new
 ·rw [xO hb] at e
  exact (x b u e).stay (λc v _ q=>q) (λc q=>by rw [xO (xJ q hn)];exact q) λc xs q=>by rw [xO (xJ q hn)];exact q
theorem pe_comp {own:List Str}{caps:List Nat}{elt tg iter:Expr}{ifs:List Expr}{scope:Scope}{pos:Pos}{wi:TI}{g:TG}{tc:TT}{te:TE} (hc:X.calm=true) (S:CompScope own caps X.N X.env.scope scope) (hi:PI X tg iter wi)
  (hg:∀ s H fp C,PG (cxComp X own caps scope s H fp C) tg g) (ht:∀ s H fp C,PTs (cxComp X own caps scope s H fp C) ifs tc) (he:∀ s H fp C,PE (cxComp X own caps scope s H fp C) elt te)
  (hs:∀ x,foldedSetIterable iter X.env x=pure x:=by intro _;rfl):PE X (.ListComp elt [⟨tg,iter,ifs,0⟩] scope pos) (tComp own.length caps wi g tc te):=by
 intro pins s σ H Q I h
 rw [eval_ListComp]
 refine wpAny_comprehension_free (use:=none) (cl:=clOf scope.names X.env []) rfl hs (closureFor_eq λy hy e=>I.ok.has y.1 (S.fr y hy e)) S.kind S.loc
  (wpAny_mono (hi pins s σ H _ I h) (λv s1 h1=>thn h1 λitv s2 h2=>?_) λ_ _ e=>e)
 obtain ⟨it,fp,tn,J,H2,e,I2,T,st2,f2,W,⟨m0,w0⟩,turn⟩:=h2
 subst e
 refine wpAny_newObj_type (wpAny_newFunctionEnv S.nocell (by intro y hy;simp at hy) (λh₁ hns₁ hsb₁=>?_) S.kind)
 dsimp only at hns₁ hsb₁ ⊢
 generalize hH2:s2.heap.push { cls:=.type "list", dict:=none,data:=.seq ([]:List Value).toArray }=G at hns₁ hsb₁ ⊢
 have hG:G.objs.size=s2.heap.objs.size + 1:=by rw [<-hH2,Heap.size_push]
 have hDC:s2.heap.objs.size≠G.objs.size:=by rw [hG];exact zQ (Nat.lt_succ_self _)
 have hCle:s2.heap.objs.size<=G.objs.size:=by rw [hG];exact yw _
 have below:∀ b,b < s2.heap.objs.size->b≠G.objs.size:=λb hb=>by rw [hG];exact zQ (yQ hb)
 have old:∀ b o,s2.heap.get? b=some o->h₁.get? b=some o:=λb o e=>hsb₁.extBut b o (below b (Heap.lt_size e)) (Heap.get?_push_of_some _ (hH2 ▸ Heap.get?_push_of_some _ e))
 have hacc:h₁.get? s2.heap.objs.size=some { cls:=.type "list", dict:=none,data:=.seq ([]:List Value).toArray }:=hsb₁.extBut _ _ hDC (Heap.get?_push_of_some _ (hH2 ▸ Heap.get?_push_size _ rfl))
 have fl:∀ b∈fp,b < s2.heap.objs.size:=λb hb=>let ⟨o,e,_⟩:=T.obj _ _ st2 b hb;Heap.lt_size e
 have hns₁':h₁.Ns G.objs.size λ_=>none:=hns₁
 have I4:=inv_comp (tk:=s2.toks + ([]:List (Str×Value)).length) I2 S f2 fl (zD _) hCle hDC old hns₁' hacc (λv z=>nomatch z)
 have st4:tn 0 h₁:=T.keep _ _ _ st2 λb _ o e=>old b o e
 generalize hs4:({ s2 with heap:=h₁,toks:=s2.toks + ([]:List (Str×Value)).length }:Shared)=s4 at I4 ⊢
 have e4:s4.heap=h₁:=by rw [<-hs4]
 rw [<-e4] at st4
 -- the loop
 have loop:codeAny (model X.prog X.w) X.A (.compLoop (.ListComp elt [⟨tg,iter,ifs,0⟩] scope pos) 0 (.ref it) (.ref s2.heap.objs.size) (compEnvC scope (clOf scope.names X.env []) G.objs.size X.env))
   (compPost (model X.prog X.w) X.A X.xe none (EP X pins σ Q) (.ref s2.heap.objs.size) G.objs.size) s4:=by
  let Y:=cxComp X own caps scope s2 H2 fp G.objs.size
  have stat:∀ {H':Hp}{its:List Value}{n:Nat},(∀ b∈fp,H' b=none)->∀ b∈fp,FpOk Y [(s2.heap.objs.size,({ cls:=.type "list", data:=.seq its.toArray n }:Obj))] H' b:=λ{H' its n} hn b hb=>by
   refine ⟨hn b hb,below b (fl b hb),λz=>?_,.inl hb,λx c e=>(f2 b hb).2.2.2.2.1 x c (xu e),λp hp=>?_⟩
   ·rcases zF.mp (I2.stkSub b z) with e | e
    ·exact (f2 b hb).2.1 e
    ·exact (f2 b hb).2.2.1 e
   ·have e:p=(s2.heap.objs.size,({ cls:=.type "list", data:=.seq its.toArray n }:Obj)):=by simpa using (show p∈[]++[_] from hp)
    subst e
    exact yF (fl b hb)
  refine loop_comp (λn s'=>∃ i τ acc its k H',Inv Y [(s2.heap.objs.size,({ cls:=.type "list", data:=.seq its.toArray k }:Obj))] τ H' s'/\tn i s'.heap/\(∀ b∈fp,H' b=none)/\Vals acc its/\W i n τ acc H') ?_ m0
   ⟨0,_,[],[],0,H2,I4,st4,λb hb=>(f2 b hb).1,.nil,w0⟩
  rintro n s5 ⟨i,τ,acc,its,k,H5,I5,st5,fr5,rv5,w5⟩
  rcases turn i n τ acc H5 w5 with ⟨stop,hz,q⟩ | ⟨go,hz,step⟩
  ·refine thn (T.done Y rfl rfl rfl hc i _ s5 τ H5 (λ_ _=>False) I5 (stat fr5) st5 stop) λr s6 ⟨hr,I6⟩=>?_
   subst hr
   obtain ⟨eD,nD,_,_,_⟩:=I6.pin _ (zL _ (zH.mpr rfl))
   obtain ⟨m6,hm6,_⟩:=I6.loc
   refine ⟨m6,hm6,λh' hsb=>?_⟩
   have hC6:H5 G.objs.size=none:=I6.free
   have eD':h'.get? s2.heap.objs.size=some { cls:=.type "list", data:=.seq its.toArray k }:=hsb.extBut _ _ hDC eD
   have hok6:HOk X.prog X.w H5 h':=λb u e=>(I6.hok b u e).stay (λc v hcv qv=>hsb.extBut c v (by
     rcases hcv with z | z
     ·subst z;exact xJ e hC6
     ·exact xJ z hC6) qv) (λ_ q=>q) λ_ _ q=>q
   refine ⟨.ref s2.heap.objs.size,_,?_,rfl,q _ nD⟩
   have ub:=I6.base
   refine I2.call' (ch:=fp) (s':={ s6 with heap:=h' }) I6.os ⟨λb o e n' hb hx=>hsb.extBut b o (below b (Heap.lt_size e)) (ub.keep b o e n' hb hx),λb o e n' hb hx=>?_,λb o e n' hx=>?_,λb o e hx=>?_,λb xs e=>?_,λb o u e=>?_,λb ps e=>?_⟩
    (hok6.track nD ⟨hz,its,k,rv5,eD'⟩) I6.bare λb hb=>⟨(f2 b hb).2.2.2.1,(f2 b hb).2.1,(f2 b hb).2.2.2.2.1,(f2 b hb).2.2.2.2.2⟩
   ·obtain ⟨sl,e'⟩:=ub.slot b o e n' hb hx
    exact ⟨sl,hsb.extBut b _ (below b (Heap.lt_size e)) e'⟩
   ·rw [xO (zQ (Heap.lt_size e))]
    exact ub.free b o e n' hx
   ·obtain ⟨o',e'⟩:=ub.there b o e hx
    exact ⟨o',hsb.extBut b _ (below b (Heap.lt_size e)) e'⟩
   ·have z:=ub.tups b xs e
    rw [xO (xJ z nD)];exact z
   ·have z:=ub.frzs b o u e
    rw [xO (xJ z nD)];exact z
   ·obtain ⟨more,z⟩:=ub.tbls b ps e
    exact ⟨more,by rw [xO (xJ z nD)];exact z⟩
  ·refine thn (T.item Y rfl rfl rfl hc i _ s5 τ H5 (λ_ _=>False) I5 (stat fr5) st5 go) λr s6 ⟨u,hr,h6⟩=>?_
   subst hr
   refine thn h6 λ_ s7 ⟨x,H7,I7,r7,y7,st7,fr7⟩=>?_
   have I7':=I7.pinned (stat fr7) (T.obj _ _ st7)
   refine thn (hg s2 H2 fp G.objs.size _ s7 τ H7 x u _ I7' r7 (step x H7 y7)) λ_ s8 ⟨τ8,H8,I8,q8⟩=>?_
   refine thn (ht s2 H2 fp G.objs.size _ s8 τ8 H8 _ I8 q8) λok s9 ⟨H9,I9,q9⟩=>?_
   -- the iterator's state behind the turn
   have back:∀ {s':Shared}{τ':St}{H':Hp},Inv Y ([(s2.heap.objs.size,({ cls:=.type "list", data:=.seq its.toArray k }:Obj))]++pinsAt fp s7.heap) τ' H' s'->(tn (i + 1) s'.heap/\∀ b∈fp,H' b=none):=λ{s' τ' H'} Ib=>
    ⟨T.keep _ _ _ st7 λb hb o e=>(Ib.pin (b,o) (zL _ (zL _ (wV hb e)))).1,λb hb=>by
     obtain ⟨o,e,d⟩:=T.obj _ _ st7 b hb
     exact (Ib.pin (b,o) (zL _ (zL _ (wV hb e)))).2.1⟩
   cases ok with
   | false=>
    obtain ⟨m',hm',w'⟩:=q9
    obtain ⟨sb,fb⟩:=back I9
    exact ⟨m',hm',i + 1,τ8,acc,its,k,H9,I9.unpinned,sb,fb,rv5,w'⟩
   | true=>
    refine thn (he s2 H2 fp G.objs.size _ s9 τ8 H9 _ I9 q9) λy s10 ⟨yv,H10,I10,r10,q10⟩=>?_
    obtain ⟨m',hm',w'⟩:=q10
    obtain ⟨sb,fb⟩:=back I10
    obtain ⟨eD,nD,neD,nfD,_⟩:=I10.pin (s2.heap.objs.size,_) (zL _ (yJ _ (zH.mpr rfl)))
    have hl:acc.length=its.length:=rv5.length
    refine call_meets F.slot_list_append ⟨_,eD,rfl⟩ F.entry_list_append (F.args_list_append_2 _ _) (PySem.list_append s2.heap.objs.size its.toArray k y (by rw [zN];omega)) ⟨eD,?_⟩
    have q:=PySem.IsL.update eD (λa:Array Value=>a.push y)
    have Iu:Inv Y [] τ8 H10 s10:=I10.pins_of λp hp=>nomatch hp
    have It:=Iu.turned (t':=s10.toks) (it:=s2.heap.objs.size) (h':=s10.heap.update s2.heap.objs.size (Obj.mapSeq (λa:Array Value=>a.push y))) (λb o hb e=>(Heap.get?_update_other s10.heap _ (Ne.symm hb)).trans e) nD neD (.inr (zD _))
     (λx c e z=>by
      obtain ⟨v,ob,hob,_⟩:=I2.cell x c (xu e)
      exact absurd (Heap.lt_size hob) (by rw [z];exact z8 _)) (λp hp=>nomatch hp)
    have It':=It.pins_of (pins':=[(s2.heap.objs.size,({ cls:=.type "list", data:=.seq (its++[y]).toArray (k + 1) }:Obj))]) λp hp=>by
     have e:p=_:=zH.mp hp
     subst e
     exact ⟨by simpa using q,nD,neD,nfD,λv z=>nomatch z⟩
    refine ⟨m',hm',i + 1,τ8,acc++[yv],its++[y],_,H10,It',T.keep _ _ _ sb λb hb o e=>(Heap.get?_update_other s10.heap _ (yF (fl b hb))).trans e,fb,rv5.append (.cons r10 .nil),w'⟩
 exact codeAny_compStart_list loop (T.self _ 0 s4 _ _ st4 loop)
end
end L2
namespace L2
open PySem PySem.Spec PyProof.Rows
open AutoSeq1 (wpAny_loadPart')
section
variable {prog:Program}{w:World}{A:Around}{E:Value->Shared->Prop}{s:Shared}
theorem nxT_in {it t:Addr}{i:Nat} {items}{x:Value}{Q:Value->Shared->Prop} (hit:s.heap.IsTupleIter it t i) (ht:s.heap.IsTuple t items) (hx:items[i]?=some x)
  (hQ:∀ h',h'.IsTupleIter it t (i + 1)->Heap.SameBut it s.heap h'->Q x { s with heap:=h' }):wpAny (model prog w) A (Builtin.SmallTypes.nextOf (.ref it)) Q E s:=by
 have ty:=hit.typeIs (s:=s)
 obtain ⟨o,ho,hc,hd⟩:=hit
 obtain ⟨ot,hot,_,n,hdt⟩:=ht
 have new:=hQ _ ⟨_,Heap.get?_update_self (Obj.mapFields (·.set! 1 (rawInt (i + 1)))) ho (Obj.isFreed_of_fields (Obj.data_mapFields hd _)),(Obj.cls_mapFields ..).trans hc,by rw [Obj.data_mapFields hd];simp [rawInt]⟩ (Heap.SameBut.update ..)
 unfold Builtin.SmallTypes.nextOf
 refine wpAny_bind (wpAny_callSpecial?_slot ty F.slot_tuple_iterator_next (wpAny_call_entry F.slot_tuple_iterator_next ty F.entry_tuple_iterator_next ?_ (F.args_tuple_iterator_next_1 _)))
 unfold Builtin.«tuple_iterator.__next__»
 wp_walk using wpAny_field ho hd (x:=.ref t) rfl,wpAny_field ho hd (x:=.int i 0) rfl,wpAny_seqItems hot hdt
 simp only [zy,hx]
 wp_walk using wpAny_setField ho hd (by simp)
 exact ⟨x,rfl,wpAny_pure new⟩
theorem nxT_out {it t:Addr}{i:Nat} {items}{Q:Value->Shared->Prop} (hh:A.handled=none) (hit:s.heap.IsTupleIter it t i) (ht:s.heap.IsTuple t items) (hx:items[i]?=none)
  (hE:∀ h' e,Heap.ExtBut it s.heap h'->(∃ o,h'.get? e=some o/\o.cls=.type "StopIteration")->E (.ref e) { s with heap:=h' }):wpAny (model prog w) A (Builtin.SmallTypes.nextOf (.ref it)) Q E s:=by
 have ty:=hit.typeIs (s:=s)
 obtain ⟨o,ho,hc,hd⟩:=hit
 obtain ⟨ot,hot,_,n,hdt⟩:=ht
 have hh1:A.in1.handled=none:=hh
 unfold Builtin.SmallTypes.nextOf
 refine wpAny_bind (wpAny_callSpecial?_slot ty F.slot_tuple_iterator_next (wpAny_call_entry F.slot_tuple_iterator_next ty F.entry_tuple_iterator_next ?_ (F.args_tuple_iterator_next_1 _)))
 unfold Builtin.«tuple_iterator.__next__»
 wp_walk using wpAny_field ho hd (x:=.ref t) rfl,wpAny_field ho hd (x:=.int i 0) rfl,wpAny_seqItems hot hdt
 simp only [zy,hx]
 wp_walk using wpAny_setField ho hd (by simp)
 simp only [raiseNew]
 refine wpAny_bind (wpAny_handled ?_)
 rw [hh1]
 exact wpAny_bind (wpAny_pure (wpAny_throw (hE _ _ (((Heap.SameBut.update ..).extBut.push _).push _) ⟨_,Heap.get?_push_size _ rfl,rfl⟩)))
end
theorem drawsT {prog:Program}{w:World}{A:Around} (hh:A.handled=none) (it t:Addr) (hne:t≠it) (items:Array Value) :
  Draws prog w A it [it,t] items.size (λi v=>items[i]?=some v) (λi h=>h.IsTupleIter it t i/\h.IsTuple t items) where
 live:=λ_ _ st=>let ⟨⟨o,ho,_⟩,_⟩:=st;⟨o,ho⟩
 frame:=λ_ _ _ st hk=>let ⟨⟨o,ho,r⟩,o',ho',r'⟩:=st;⟨⟨o,hk it (by simp) o ho,r⟩,o',hk t (by simp) o' ho',r'⟩
 item:=λi s Q E hi st hQ=>nxT_in st.1 st.2 (Array.getElem?_eq_getElem hi) λh' a b=>hQ _ h' s.toks (Array.getElem?_eq_getElem hi) ⟨a,st.2.extBut b.extBut hne⟩ b
 done:=λs Q E st hE=>nxT_out hh st.1 st.2 (Array.getElem?_eq_none (zD _)) hE
theorem drawnT {prog:Program}{w:World}{A:Around} (hh:A.handled=none) (it t:Addr) (items:Array Value) :
  Draws prog w A it [it,t] 0 (λ_ _=>False) (λ_ h=>∃ j,h.IsTupleIter it t j/\h.IsTuple t items/\items[j]?=none) where
 live:=λ_ _ st=>let ⟨_,⟨o,ho,_⟩,_⟩:=st;⟨o,ho⟩
 frame:=λ_ _ _ st hk=>let ⟨j,⟨o,ho,r⟩,⟨o',ho',r'⟩,z⟩:=st;⟨j,⟨o,hk it (by simp) o ho,r⟩,⟨o',hk t (by simp) o' ho',r'⟩,z⟩
 item:=λi s Q E hi _ _=>absurd hi (zd _)
 done:=λs Q E st hE=>let ⟨_,a,b,c⟩:=st;nxT_out hh a b c hE
section
variable {prog:Program}{w:World}{A:Around}{E:Value->Shared->Prop}{s:Shared}
theorem enumT_new (l:Addr) (items:Array Value) (o:Obj) :
  Meets (Builtin.«enumerate.__new__» ⟨[.type "enumerate", .ref l],[]⟩) (λ_ R s=>(s.heap.get? l=some o/\s.heap.IsTuple l items) /\
   R (.ok (.ret (.ref (s.heap.push { cls:=.type "tuple_iterator", data:=.fields #[.ref l,.int 0 0] }).objs.size)))
    { s with heap:=(s.heap.push { cls:=.type "tuple_iterator", data:=.fields #[.ref l,.int 0 0] }).push { cls:=.type "enumerate", data:=.fields #[.none,.bool false,.ref s.heap.objs.size,rawInt 0,.none,.none] } }):=
 .of_wp λprog w A R s ⟨⟨hl,hL⟩,h⟩=>by
  obtain ⟨hp,g,d,tk,os⟩:=s
  have hsub:=sub_enumerate
  wp_walk using wpAny_loadPart' hl
  refine wpAny_stack_any λst=>wpAny_pure ?_
  split
  ·rename_i c _ _ _ _ _
   cases (c == Value.type "enumerate") <;> (wp_walk using wpAny_loadPart' hl,wpAny_pyIter_tuple hL) <;> exact ⟨_,rfl,h⟩
  ·wp_walk using wpAny_loadPart' hl,wpAny_pyIter_tuple hL
   exact ⟨_,rfl,h⟩
theorem call_enumT {l:Addr}{items:Array Value}{Q:Value->Shared->Prop} (hL:s.heap.IsTuple l items)
  (h:∀ h',IsEnum h' (s.heap.objs.size + 1) s.heap.objs.size 0 .none->h'.IsTupleIter s.heap.objs.size l 0 ->
   (∀ b o,s.heap.get? b=some o->h'.get? b=some o)->Q (.ref (s.heap.objs.size + 1)) { s with heap:=h' }) :
  wpAny (model prog w) A (call (.type "enumerate") [.ref l]) Q E s:=by
 obtain ⟨o,hl,_⟩:=id hL
 refine callType_new F.called_enumerate (by decide) (F.typeCall_enumerate_1 _) (F.newCall_enumerate_1 _) (λobj=>F.args_object_init_2 obj _) F.entry_enumerate_new (enumT_new l items o) ⟨⟨hl,hL⟩,?_⟩
 generalize hG:s.heap.push { cls:=.type "tuple_iterator", data:=.fields #[.ref l,.int 0 0] }=G
 have hz:G.objs.size=s.heap.objs.size + 1:=by rw [<-hG,Heap.size_push]
 have hi:G.get? s.heap.objs.size=some { cls:=.type "tuple_iterator", data:=.fields #[.ref l,.int 0 0] }:=by rw [<-hG];exact Heap.get?_push_size _ rfl
 have he:=Heap.get?_push_size G (o:={ cls:=.type "enumerate", data:=.fields #[.none,.bool false,.ref s.heap.objs.size,rawInt 0,.none,.none] }) rfl
 rw [hz] at he
 show _/\_
 rw [hz]
 exact ⟨⟨_,he,rfl⟩,h _ he ⟨_,Heap.get?_push_of_some _ hi,rfl,rfl⟩ λb o x=>Heap.get?_push_of_some _ (by rw [<-hG];exact Heap.get?_push_of_some _ x)⟩
end
def IteT (K:PySem.W.Frag) (a:Addr):It:=
 ⟨λi H=>∃ xs x,SqT K H a xs/\xs[i]?=some x,λi H y H'=>∃ p x,H p=none/\y=.ref p/\H'=upd H p (.tup [.int i,x])/\∀ xs,SqT K H a xs->xs[i]?=some x,λi H=>∃ xs,SqT K H a xs/\xs.length<=i⟩
theorem turn_enumT {P:Program}{w:World}{K:PySem.W.Frag}{es:List Expr}{k:Nat}{pos:Pos} (a e it:Addr) (hne:e≠it) :
  Turn P w K (.Tuple es k pos) (IteT K a) [e,it] e (λi h=>(∃ old,IsEnum h e it i old)/\h.IsTupleIter it a i) where
 mem:=by simp
 obj:=λi h st b hb=>by
  obtain ⟨⟨old,he⟩,o,hi,c,d⟩:=st
  rcases zF.mp hb with z | z
  ·subst z;exact ⟨_,he,λv q=>nomatch q⟩
  ·have z':b=it:=by simpa using z
   subst z'
   exact ⟨o,hi,λv q=>by rw [d] at q;cases q⟩
 keep:=λi h h' st q=>by
  obtain ⟨⟨old,he⟩,o,hi,r⟩:=st
  exact ⟨⟨old,q e (by simp) _ he⟩,o,q it (by simp) o hi,r⟩
 item:=by
  intro X hP hw hK hc i pins s σ H E I hf st hg
  subst hP hw hK
  obtain ⟨xs,x,hq,hx⟩:=hg
  obtain ⟨its,rv,p,hz⟩:=I.tuple hq
  obtain ⟨u,hu,ru⟩:=rv.get hx
  obtain ⟨⟨old,he⟩,hi⟩:=st
  obtain ⟨e0,e1,e2,e3,e4,e5⟩:=hf e (by simp)
  obtain ⟨f0,f1,f2,f3,f4,f5⟩:=hf it (by simp)
  have el:e < s.heap.objs.size:=Heap.lt_size he
  have il:it < s.heap.objs.size:=let ⟨_,z,_⟩:=hi;Heap.lt_size z
  have ht:s.heap.IsTuple a its.toArray:=p
  have hal:a < s.heap.objs.size:=let ⟨_,z,_⟩:=ht;Heap.lt_size z
  have hai:a≠it:=λz=>by
   obtain ⟨o1,z1,c1,_⟩:=ht
   obtain ⟨o2,z2,c2,_⟩:=hi
   rw [z,z2] at z1;cases z1;rw [c2] at c1;exact absurd (Value.type.inj c1) (by decide)
  have hae:e ∉ [it,a]:=λz=>by
   rcases zF.mp z with z | z
   ·exact hne z
   ·have z':e=a:=by simpa using z
    obtain ⟨o1,z1,c1,_⟩:=ht
    rw [<-z',he] at z1;cases z1;exact absurd (Value.type.inj c1) (by decide)
  refine wpAny_pyNext_enum_itemD (drawsT (A:=X.A.in1) (I.ok.hd hc) it a hai its.toArray) he ⟨hi,ht⟩ (by simpa using (zB.mp hu).1) hne hae λu1 h1 tk hu1 ho hst1 hT hsz hk=>?_
  have eu:u=u1:=by
   have q:its.toArray[i]?=some u:=by simpa using hu
   have hu1':its.toArray[i]?=some u1:=hu1
   rw [q] at hu1';exact Option.some.inj hu1'
  subst eu
  have hi1:=hst1.1
  refine ⟨_,rfl,?_⟩
  refine wpAny_letOwnedTupleGo_enum ho λh2 he2 hs2=>?_
  have hs2':Heap.SameBut e h1 h2:=hs2
  have old2:∀ b o,b≠e->b≠it->s.heap.get? b=some o->h2.get? b=some o:=λb o hb hb' q=>hs2'.extBut b o hb (hk b o hb hb' q)
  have hT2:h2.get? s.heap.objs.size=some { cls:=.type "tuple", data:=.seq #[.int i tk,u] }:=hs2'.extBut _ _ (yF el) hT
  have nT:H s.heap.objs.size=none:=I.hok.fresh (zD _)
  refine ⟨.ref s.heap.objs.size,upd H s.heap.objs.size (.tup [.int i,x]),?_,rfl,⟨_,x,nT,rfl,rfl,λys hy=>by rw [I.tuple_inj hy hq];exact hx⟩,⟨⟨u,by simpa using he2⟩,?_⟩,λb hb=>?_⟩
  ·have nch:∀ b,b ∉ [e,it]->b≠e/\b≠it:=λb hb=>⟨λz=>hb (by simp [z]),λz=>hb (by simp [z])⟩
   refine Inv.step (s:=s) (h':=h2) (g':=s.gens) (d':=s.drawn) (t':=tk + 1) (ch:=[e,it]) I (λb hb=>?_) (λb o _ _ hb q _=>old2 b o (nch b hb).1 (nch b hb).2 q) (λb o _ _ hb q _=>⟨o.slots,old2 b o (nch b hb).1 (nch b hb).2 q⟩)
    (λb o _ q n=>by rw [xO (zQ (Heap.lt_size q))];exact n) (λb o hb q=>⟨o,old2 b o (nch b hb).1 (nch b hb).2 q⟩)
    (λb ys q=>by rw [xO (xJ q nT)];exact q) (λb o v q=>by rw [xO (xJ q nT)];exact q) (λb ps q=>⟨#[],by rw [xO (xJ q nT),q];simp⟩)
    (λm hm=>by
     obtain ⟨o,es',ep,q,r⟩:=hm
     exact ⟨o,es',ep,old2 _ o (Ne.symm e1) (Ne.symm f1) q,r⟩) (λb v q=>?_) I.bare
   ·rcases zF.mp hb with z | z
    ·subst z;exact ⟨e3,e1,e4,e5⟩
    ·have z':b=it:=by simpa using z
     subst z';exact ⟨f3,f1,f4,f5⟩
   ·by_cases hb:b=s.heap.objs.size
    ·subst hb
     rw [xI] at q
     cases q
     exact ⟨⟨by show 2<=sizeLine;rw [sizeLine_eq];decide,λob e=>by rw [hT2] at e;cases e;rfl⟩,[.int i tk,u],.cons ⟨_,rfl⟩ (.cons ru .nil),⟨_,hT2,rfl,_,rfl⟩⟩
    ·rw [xO hb] at q
     refine (I.hok b v q).stay (λc ob hc qc=>old2 c ob ?_ ?_ qc) (λc qc=>by rw [xO (xJ qc nT)];exact qc) λc ys qc=>by rw [xO (xJ qc nT)];exact qc
     ·rcases hc with z | z
      ·subst z;exact xJ q e0
      ·exact xJ z e0
     ·rcases hc with z | z
      ·subst z;exact xJ q f0
      ·exact xJ z f0
  ·obtain ⟨o,q,r⟩:=hi1
   exact ⟨o,hs2'.extBut it o (Ne.symm hne) q,r⟩
  ·rcases zF.mp hb with z | z
   ·subst z;rw [xO (zQ el)];exact e0
   ·have z':b=it:=by simpa using z
    subst z';rw [xO (zQ il)];exact f0
 done:=by
  intro X hP hw hK hc i pins s σ H E I hf st hg
  subst hP hw hK
  obtain ⟨xs,hq,hx⟩:=hg
  obtain ⟨its,rv,p,hz⟩:=I.tuple hq
  obtain ⟨⟨old,he⟩,hi⟩:=st
  obtain ⟨f0,f1,f2,f3,f4,f5⟩:=hf it (by simp)
  have hl:=rv.length
  have ht:s.heap.IsTuple a its.toArray:=p
  have hai:a≠it:=λz=>by
   obtain ⟨o1,z1,c1,_⟩:=ht
   obtain ⟨o2,z2,c2,_⟩:=hi
   rw [z,z2] at z1;cases z1;rw [c2] at c1;exact absurd (Value.type.inj c1) (by decide)
  exact wpAny_pyNext_enum_endD (drawnT (A:=X.A.in1) (I.ok.hd hc) it a its.toArray) he ⟨i,hi,ht,by simp;omega⟩ λh' eb=>⟨rfl,I.turned (t':=s.toks) (λb o hb e=>eb b o hb e) f0 f1 f3 f4 f5⟩
 self:=λ_ _ _ _ _ st h=>let ⟨⟨_,he⟩,_⟩:=st;wpAny_pyIter_enum he h
def iEnumT (K:PySem.W.Frag) (ta:TA):TI:=fun σ H R=>ta σ H λvs H1=>∃ a,vs=[.ref a]/\(∃ xs,SqT K H1 a xs)/\R (IteT K a) H1
theorem pi_enumT {X:Cx}{a:Expr}{ta:TA} {p pos pos2:Pos}{es:List Expr}{k:Nat}{K:PySem.W.Frag} (hK:X.K=K) (hg:Gl X "enumerate") (hm:X.mg "enumerate" = none) (ha:PA X [a] ta) (hs:starEach [a] X.env=[(false,eval a X.env)]:=by rfl) :
  PI X (.Tuple es k pos2) (.Call (.Name "enumerate" p) [a] [] pos) (iEnumT K ta):=by
 subst hK
 intro pins s σ H R I h
 refine Call_ (ld_blt I hg hm boot_enumerate (yB (thn (ha pos pins s σ H _ I h) λus s1 ⟨vs,H1,I1,r1,q1⟩=>?_) hs rfl))
 obtain ⟨l,e,⟨xs,hq⟩,q⟩:=q1
 subst e
 cases r1 with
 | cons r rr=>
  cases rr
  cases r
  obtain ⟨its,rv,p,hz⟩:=I1.tuple hq
  refine call_enumT (show s1.heap.IsTuple l its.toArray from p) λh' he hi hk=>?_
  refine wpAny_pyIter_enum he ?_
  have I2:Inv X pins σ H1 { s1 with heap:=h' }:=I1.kept (t':=s1.toks) hk
  refine ⟨s1.heap.objs.size + 1,[s1.heap.objs.size + 1,s1.heap.objs.size],_,_,H1,rfl,I2,turn_enumT l _ _ (Nat.succ_ne_self _),⟨⟨_,he⟩,hi⟩,λb hb=>?_,q⟩
  have hb':s1.heap.objs.size<=b:=by
   rcases zF.mp hb with z | z
   ·subst z;exact yw _
   ·have z':b=s1.heap.objs.size:=by simpa using z
    subst z';exact zD _
  exact I1.fpOk hb' (I1.hok.fresh hb')
def IteL (K:PySem.W.Frag) (a:Addr):It:=
 ⟨λi H=>∃ xs x,SqL K H a xs/\xs[i]?=some x,λi H y H'=>∃ p x,H p=none/\y=.ref p/\H'=upd H p (.tup [.int i,x])/\∀ xs,SqL K H a xs->xs[i]?=some x,λi H=>∃ xs,SqL K H a xs/\xs.length<=i⟩
theorem turn_enumL {P:Program}{w:World}{K:PySem.W.Frag}{es:List Expr}{k:Nat}{pos:Pos} (a e it:Addr) (hne:e≠it) :
  Turn P w K (.Tuple es k pos) (IteL K a) [e,it] e (λi h=>(∃ old,IsEnum h e it i old)/\h.IsListIter it a i) where
 mem:=by simp
 obj:=λi h st b hb=>by
  obtain ⟨⟨old,he⟩,o,hi,c,d⟩:=st
  rcases zF.mp hb with z | z
  ·subst z;exact ⟨_,he,λv q=>nomatch q⟩
  ·have z':b=it:=by simpa using z
   subst z'
   exact ⟨o,hi,λv q=>by rw [d] at q;cases q⟩
 keep:=λi h h' st q=>by
  obtain ⟨⟨old,he⟩,o,hi,r⟩:=st
  exact ⟨⟨old,q e (by simp) _ he⟩,o,q it (by simp) o hi,r⟩
 item:=by
  intro X hP hw hK hc i pins s σ H E I hf st hg
  subst hP hw hK
  obtain ⟨xs,x,hq,hx⟩:=hg
  obtain ⟨its,rv,p,hz⟩:=I.list hq
  obtain ⟨u,hu,ru⟩:=rv.get hx
  obtain ⟨⟨old,he⟩,hi⟩:=st
  obtain ⟨e0,e1,e2,e3,e4,e5⟩:=hf e (by simp)
  obtain ⟨f0,f1,f2,f3,f4,f5⟩:=hf it (by simp)
  have el:e < s.heap.objs.size:=Heap.lt_size he
  have il:it < s.heap.objs.size:=let ⟨_,z,_⟩:=hi;Heap.lt_size z
  refine wpAny_pyNext_enum_item he hi p.isList (x:=u) (by simpa using hu) hne λh1 ho hi1 hT hsz hk=>?_
  obtain ⟨tk,htk⟩:∃ tk,tk=s.toks:=⟨_,rfl⟩
  rw [<-htk] at hT ⊢
  refine ⟨_,rfl,?_⟩
  refine wpAny_letOwnedTupleGo_enum ho λh2 he2 hs2=>?_
  have hs2':Heap.SameBut e h1 h2:=hs2
  have old2:∀ b o,b≠e->b≠it->s.heap.get? b=some o->h2.get? b=some o:=λb o hb hb' q=>hs2'.extBut b o hb (hk b o hb hb' q)
  have hT2:h2.get? s.heap.objs.size=some { cls:=.type "tuple", data:=.seq #[.int i tk,u] }:=hs2'.extBut _ _ (yF el) hT
  have nT:H s.heap.objs.size=none:=I.hok.fresh (zD _)
  refine ⟨.ref s.heap.objs.size,upd H s.heap.objs.size (.tup [.int i,x]),?_,rfl,⟨_,x,nT,rfl,rfl,λys hy=>by rw [I.list_inj hy hq];exact hx⟩,⟨⟨u,by simpa using he2⟩,?_⟩,λb hb=>?_⟩
  ·have nch:∀ b,b ∉ [e,it]->b≠e/\b≠it:=λb hb=>⟨λz=>hb (by simp [z]),λz=>hb (by simp [z])⟩
   refine Inv.step (s:=s) (h':=h2) (g':=s.gens) (d':=s.drawn) (t':=tk + 1) (ch:=[e,it]) I (λb hb=>?_) (λb o _ _ hb q _=>old2 b o (nch b hb).1 (nch b hb).2 q) (λb o _ _ hb q _=>⟨o.slots,old2 b o (nch b hb).1 (nch b hb).2 q⟩)
    (λb o _ q n=>by rw [xO (zQ (Heap.lt_size q))];exact n) (λb o hb q=>⟨o,old2 b o (nch b hb).1 (nch b hb).2 q⟩)
    (λb ys q=>by rw [xO (xJ q nT)];exact q) (λb o v q=>by rw [xO (xJ q nT)];exact q) (λb ps q=>⟨#[],by rw [xO (xJ q nT),q];simp⟩)
    (λm hm=>by
     obtain ⟨o,es',ep,q,r⟩:=hm
     exact ⟨o,es',ep,old2 _ o (Ne.symm e1) (Ne.symm f1) q,r⟩) (λb v q=>?_) I.bare
   ·rcases zF.mp hb with z | z
    ·subst z;exact ⟨e3,e1,e4,e5⟩
    ·have z':b=it:=by simpa using z
     subst z';exact ⟨f3,f1,f4,f5⟩
   ·by_cases hb:b=s.heap.objs.size
    ·subst hb
     rw [xI] at q
     cases q
     exact ⟨⟨by show 2<=sizeLine;rw [sizeLine_eq];decide,λob e=>by rw [hT2] at e;cases e;rfl⟩,[.int i tk,u],.cons ⟨_,rfl⟩ (.cons ru .nil),⟨_,hT2,rfl,_,rfl⟩⟩
    ·rw [xO hb] at q
     refine (I.hok b v q).stay (λc ob hc qc=>old2 c ob ?_ ?_ qc) (λc qc=>by rw [xO (xJ qc nT)];exact qc) λc ys qc=>by rw [xO (xJ qc nT)];exact qc
     ·rcases hc with z | z
      ·subst z;exact xJ q e0
      ·exact xJ z e0
     ·rcases hc with z | z
      ·subst z;exact xJ q f0
      ·exact xJ z f0
  ·obtain ⟨o,q,r⟩:=hi1
   exact ⟨o,hs2'.extBut it o (Ne.symm hne) q,r⟩
  ·rcases zF.mp hb with z | z
   ·subst z;rw [xO (zQ el)];exact e0
   ·have z':b=it:=by simpa using z
    subst z';rw [xO (zQ il)];exact f0
 done:=by
  intro X hP hw hK hc i pins s σ H E I hf st hg
  subst hP hw hK
  obtain ⟨xs,hq,hx⟩:=hg
  obtain ⟨its,rv,p,hz⟩:=I.list hq
  obtain ⟨⟨old,he⟩,hi⟩:=st
  obtain ⟨f0,f1,f2,f3,f4,f5⟩:=hf it (by simp)
  have hl:=rv.length
  exact wpAny_pyNext_enum_end (I.ok.hd hc) he hi p.isList (by simp;omega) λh' eb=>⟨rfl,I.turned (t':=s.toks) (λb o hb e=>eb b o hb e) f0 f1 f3 f4 f5⟩
 self:=λ_ _ _ _ _ st h=>let ⟨⟨_,he⟩,_⟩:=st;wpAny_pyIter_enum he h
def iEnumL (K:PySem.W.Frag) (ta:TA):TI:=fun σ H R=>ta σ H λvs H1=>∃ a,vs=[.ref a]/\(∃ xs,SqL K H1 a xs)/\R (IteL K a) H1
theorem pi_enumL {X:Cx}{a:Expr}{ta:TA} {p pos pos2:Pos}{es:List Expr}{k:Nat}{K:PySem.W.Frag} (hK:X.K=K) (hg:Gl X "enumerate") (hm:X.mg "enumerate" = none) (ha:PA X [a] ta) (hs:starEach [a] X.env=[(false,eval a X.env)]:=by rfl) :
  PI X (.Tuple es k pos2) (.Call (.Name "enumerate" p) [a] [] pos) (iEnumL K ta):=by
 subst hK
 intro pins s σ H R I h
 refine Call_ (ld_blt I hg hm boot_enumerate (yB (thn (ha pos pins s σ H _ I h) λus s1 ⟨vs,H1,I1,r1,q1⟩=>?_) hs rfl))
 obtain ⟨l,e,⟨xs,hq⟩,q⟩:=q1
 subst e
 cases r1 with
 | cons r rr=>
  cases rr
  cases r
  obtain ⟨its,rv,p,hz⟩:=I1.list hq
  refine call_enumerate_list p.isList λh' he hi hsz hk=>?_
  refine wpAny_pyIter_enum he ?_
  have I2:Inv X pins σ H1 { s1 with heap:=h' }:=I1.kept (t':=s1.toks) hk
  refine ⟨s1.heap.objs.size + 1,[s1.heap.objs.size + 1,s1.heap.objs.size],_,_,H1,rfl,I2,turn_enumL l _ _ (Nat.succ_ne_self _),⟨⟨_,he⟩,hi⟩,λb hb=>?_,q⟩
  have hb':s1.heap.objs.size<=b:=by
   rcases zF.mp hb with z | z
   ·subst z;exact yw _
   ·have z':b=s1.heap.objs.size:=by simpa using z
    subst z';exact zD _
  exact I1.fpOk hb' (I1.hok.fresh hb')
end L2
namespace L2
open PySem PySem.Spec PyProof.Rows
def tyS (H:Hp):V->Option String
 | .non=>some "NoneType"
 | .bl _=>some "bool"
 | .int _=>some "int"
 | .str _=>some "str"
 | .ref a=>match H a with
  | some (.lst _)=>some "list"
  | some (.frz _ (.lst _))=>some "list"
  | some (.tup _)=>some "tuple"
  | some (.dK _)=>some "dict"
  | _=>none
 | _=>none
theorem tyS_of {K:PySem.W.Frag}{H:Hp}{x:V}{t:String} (h:tyS H x=some t):TyOf K H x (.type t):=by
 cases x with
 | non=>cases h;exact .non
 | bl b=>cases h;exact .bl b
 | int i=>cases h;exact .int i
 | str x=>cases h;exact .str x
 | ref a=>
  unfold tyS at h
  dsimp only at h
  split at h
  ·rename_i e;cases h;exact .lst e
  ·rename_i e;cases h;exact .frz e
  ·rename_i e;cases h;exact .tup e
  ·rename_i e;cases h;exact .dK e
  ·cases h
 | _=>cases h
theorem tyS_six {H:Hp}{x:V}{t:String} (h:tyS H x=some t):t = "NoneType" \/ t = "bool" \/ t = "int" \/ t = "str" \/ t = "list" \/ t = "tuple" \/ t = "dict" := by
 cases x with
 | ref a=>
  unfold tyS at h
  dsimp only at h
  split at h <;> cases h <;> simp
 | _=>cases h <;> simp
def isSub (t T:String):Bool:=t == T || (t == "bool" && T == "int")
theorem kit_of {K:PySem.W.Frag}{t T:String} (h:t = "NoneType" \/ t = "bool" \/ t = "int" \/ t = "str" \/ t = "list" \/ t = "tuple" \/ t = "dict") (hT:T = "int" \/ T = "bool" \/ T = "list" \/ T = "tuple"):PySem.W.kitOne K (.type t) (.type T)=some (isSub t T):=by
 rcases h with rfl | rfl | rfl | rfl | rfl | rfl | rfl <;> rcases hT with rfl | rfl | rfl | rfl <;> first | rfl | decide +kernel
section
variable {X:Cx}
theorem wN:CallR X (.builtin "isinstance") (λxs H Q=>∃ x t T,xs=[x,.ty T]/\tyS H x=some t/\(T = "int" \/ T = "bool" \/ T = "list" \/ T = "tuple")/\Q (.bl (isSub t T)) H):=by
 intro pins s σ H xs us Q I r h
 obtain ⟨x,t,T,rfl,ht,hT,q⟩:=h
 obtain ⟨u,w',rfl,r1,r2⟩:=vals2 r
 cases r2
 exact isinst_ok I r1 (tyS_of ht) (kit_of (tyS_six ht) hT) λtk=>⟨.bl _,H,I.tok tk,rfl,q⟩
theorem op_fdivB:OpR X (binaryOp .FloorDiv) (rI (λ_ j=>0 < j/\j < 2 ^ 200) λi j=>.int (i / j)):=opI λi j _ _ _ _ _ hc q=>by
 have e:i.fdiv j=i / j:=Int.fdiv_eq_ediv_of_nonneg _ (by omega)
 rw [<-e] at q
 refine floordiv_int (by omega) q (.inl (PyProof.noPylong_of_log2 ?_))
 have h0:j.natAbs≠0:=by omega
 have h1:j.natAbs < 2 ^ 200:=by omega
 have:=(Nat.log2_lt h0).mpr h1
 omega
theorem op_neNil (hu:X.A.units + 64 < cLine):OpR X (compareOp .NotEq) (λx y H Q=>∃ a b xs,x=.ref a/\y=.ref b/\SqL X.K H a xs/\SqL X.K H b []/\Q (.bl (!xs.isEmpty)) H):=by
 intro pins s σ H x y v u Q I rx ry h
 obtain ⟨a,b,xs,rfl,rfl,ha,hb,q⟩:=h
 cases rx;cases ry
 obtain ⟨its,r,p,_⟩:=I.list ha
 obtain ⟨its2,r2,p2,_⟩:=I.list hb
 cases r2
 cases r with
 | nil=>exact SeqAt.RcNeAt.lists (e:=λ_=>true) p.isList p2.isList rfl (by omega) (λj h1=>absurd h1 (zd _)) _ _ _ _ ⟨.bl _,H,I,rfl,q⟩
 | cons r1 rr=>exact SeqAt.RcNeAt.lists_lengths p.isList p2.isList (by simp) (by omega) _ _ _ _ ⟨.bl _,H,I,rfl,q⟩
variable {K:PySem.W.Frag}
theorem xh {es:List Expr}{k:Nat}{t:TGs}{n:Nat}{pos:Pos} (hK:X.K=K) (hc:X.calm=true) (h:PGs X es t)
  (hn:(assignEach es X.env).length=n:=by rfl) (hst:(assignEach es X.env).findIdx? (·.1)=none:=by rfl):PG X (.Tuple es k pos) (gTup K n t):=by subst hK;exact pg_tup hc h hn hst
theorem xx {tg l:Expr}{tl:TE} (hK:X.K=K) (hl:PE X l tl):PI X tg l (iList K tl):=by subst hK;exact pi_list hl
theorem pi_tup'' {tg l:Expr}{tl:TE} (hK:X.K=K) (hl:PE X l tl):PI X tg l (iTup K tl):=by subst hK;exact pi_tup hl
theorem xi (hK:X.K=K):IxR X (rIxL K):=by subst hK;exact ix_list
theorem xa (hK:X.K=K):IxR X (rIxT K):=by subst hK;exact ix_tup
theorem sl_tup' (hK:X.K=K):SlR X (rSlT K):=by subst hK;exact sl_tup
theorem op_in_seq' (hK:X.K=K):OpR X (compareOp .In) (rIn K false):=by subst hK;exact op_in_seq
theorem xX (hK:X.K=K):CallR X (.builtin "len") (λxs H Q=>∃ p ys,xs=[.ref p]/\(SqL K H p ys\/SqT K H p ys)/\Q (.int ys.length) H):=by subst hK;exact call_len_seq
theorem call_list_of' (hK:X.K=K):CallR X (.type "list") (λxs H Q=>∃ p ys,xs=[.ref p]/\(SqL K H p ys\/SqT K H p ys)/\∀ l,H l=none->Q (.ref l) (upd H l (.lst ys))):=by subst hK;exact call_list_of
end
end L2
namespace L2
open PySem PySem.Spec PyProof.Rows
theorem get_list {X:Cx}{K:PySem.W.Frag} (hK:X.K=K):PGet X (λo i H Q=>∃ p xs v,∃ k:Nat,o=.ref p/\i=.int k/\SqL K H p xs/\xs[k]?=some v/\Q v H):=by
 subst hK
 intro pins s σ H o i ov iv Q I ro ri h
 obtain ⟨p,xs,v,k,rfl,rfl,hq,hv,q⟩:=h
 cases ro
 obtain ⟨t,rfl⟩:=ri
 obtain ⟨its,r,pl,hz⟩:=I.list hq
 obtain ⟨w,ew,rw'⟩:=r.get hv
 have hk:k < xs.length:=(zB.mp hv).1
 have hn:=line63
 exact wpAny_getItem_list pl.isList (by omega) (by omega) (by simpa using ew) ⟨v,H,I,rw',q⟩
end L2
namespace SmSort
open PySem PySem.W PyProof.Rows
def KOK {α:Type} (n:Nat) (c:Nat->Nat->Bool):KasT α->(α->Prop)->Prop
 | .ret a,P=>P a
 | .ask i j k,P=>i < n/\j < n/\KOK n c (k (c i j)) P
theorem KOK.bind {α β:Type}{n:Nat}{c:Nat->Nat->Bool}{f:α->KasT β}{P:β->Prop}:∀ (t:KasT α),KOK n c t (λa=>KOK n c (f a) P)->KOK n c (t.bind f) P
 | .ret a,h=>h
 | .ask i j k,h=>⟨h.1,h.2.1,KOK.bind (k (c i j)) h.2.2⟩
theorem KOK.mono {α:Type}{n:Nat}{c:Nat->Nat->Bool}{P P':α->Prop} (hp:∀ a,P a->P' a):∀ (t:KasT α),KOK n c t P->KOK n c t P'
 | .ret a,h=>hp a h
 | .ask i j k,h=>⟨h.1,h.2.1,KOK.mono hp (k (c i j)) h.2.2⟩
theorem KOK.wp {α:Type}{n:Nat}{c:Nat->Nat->Bool}{P:α->Prop}{Q:α->Shared->Prop}{cmp:Nat->Nat->(Bool->Shared->Prop)->Shared->Prop}{s:Shared}
  (hc:∀ i j C,i < n->j < n->C (c i j) s->cmp i j C s) (hq:∀ a,P a->Q a s):∀ (t:KasT α),KOK n c t P->t.kasWp cmp Q s
 | .ret a,h=>hq a h
 | .ask i j k,h=>hc i j _ h.1 h.2.1 (KOK.wp hc hq (k (c i j)) h.2.2)
section
variable {n:Nat}{f:Nat->Int}
def at' (p:Array Nat) (i:Nat):Nat:=(p[i]?).getD 0
theorem wA (p:Array Nat) (i:Nat):p.getD i 0=at' p i:=by unfold at';simp
def g (f:Nat->Int) (p:Array Nat) (i:Nat):Int:=f (at' p i)
def Pm (n:Nat) (p:Array Nat):Prop:=p.Perm (List.toArray (List.range n))
theorem Pm.size {p:Array Nat} (h:Pm n p):p.size=n:=by rw [Array.Perm.size_eq h];simp
theorem Pm.lt {p:Array Nat} (h:Pm n p) {i:Nat} (hi:i < n):at' p i < n:=by
 have hs:=h.size
 have e:at' p i=p[i]'(by omega):=by unfold at';simp [hs,hi]
 have hm:p[i]'(by omega)∈p:=Array.getElem_mem _
 have hm':=(Array.Perm.mem_iff h).mp hm
 rw [e]
 simpa using hm'
theorem Pm.rev {p:Array Nat} (h:Pm n p) (i j:Nat):Pm n (kas_rev p i j):=(mirror_perm p i j _).trans h
theorem Pm.bub {p:Array Nat} (h:Pm n p) (k d:Nat):Pm n (bubble p k d):=(bubble_perm p k d).trans h
theorem g_rev {p:Array Nat}{i j:Nat} (hj:j<=p.size) (k:Nat):g f (kas_rev p i j) k=if i<=k/\k < j then g f p (i + j - 1 - k) else g f p k:=by
 unfold g at' kas_rev
 rw [getElem?_mirror_all hj k]
 split <;> rfl
theorem g_bub {p:Array Nat}{src d:Nat} (hs:src < p.size) (hd:d<=src) (k:Nat):g f (bubble p src d) k=if k=src - d then g f p src else if src - d < k/\k<=src then g f p (k - 1) else g f p k:=by
 unfold g at'
 rw [getElem?_bubble hs d hd k]
 split
 ·rfl
 ·split <;> rfl
def Up (f:Nat->Int) (p:Array Nat) (k:Nat):Prop:=∀ i j,i<=j->j < k->g f p i<=g f p j
def Dn (f:Nat->Int) (p:Array Nat) (k:Nat):Prop:=∀ i j,i<=j->j < k->g f p j<=g f p i
def cf (f:Nat->Int) (i j:Nat):Bool:=decide (f i < f j)
theorem asc_ok {p:Array Nat} (hp:Pm n p):∀ (q m:Nat),1<=m->m + q<=n->Up f p m->KOK n (cf f) (kas_asc p q m) (λm'=>m<=m'/\m'<=m + q/\Up f p m'/\(m' < m + q->g f p m' < g f p (m' - 1)))
 | 0,m,_,_,hu=>⟨zD _,zD _,hu,λh=>absurd h (z8 _)⟩
 | q + 1,m,h1,h2,hu=>by
  unfold kas_asc
  refine ⟨by rw [wA];exact hp.lt (by omega),by rw [wA];exact hp.lt (by omega),?_⟩
  rw [wA,wA]
  by_cases hc:g f p m < g f p (m - 1)
  ·have e:cf f (at' p m) (at' p (m - 1))=true:=decide_eq_true hc
   rw [e];dsimp only;rw [if_pos rfl]
   exact ⟨zD _,by omega,hu,λ_=>hc⟩
  ·have e:cf f (at' p m) (at' p (m - 1))=false:=decide_eq_false hc
   rw [e];dsimp only;rw [if_neg zM]
   refine KOK.mono (λm' h=>⟨by omega,by omega,h.2.2.1,λz=>h.2.2.2 (by omega)⟩) _ (asc_ok hp q (m + 1) (by omega) (by omega) λi j hij hj=>?_)
   by_cases hjm:j < m
   ·exact hu i j hij hjm
   ·have ej:j=m:=by omega
    subst ej
    by_cases hi:i=j
    ·subst hi;omega
    ·have:=hu i (j - 1) (by omega) (by omega)
     omega
def Blk (f:Nat->Int) (p:Array Nat) (m q:Nat):Prop:=∀ i,m<=i + (q + 1)->i < m->g f p i=g f p (m - 1)
theorem rev_same {p:Array Nat} (hp:Pm n p) {m q:Nat} (hm:m<=n) (hq:q + 1<=m) (hb:Blk f p m q) (k:Nat):g f (kas_rev p (m - (q + 1)) m) k=g f p k:=by
 rw [g_rev (by rw [hp.size];exact hm)]
 split
 ·rename_i h
  rw [hb _ (by omega) (by omega),hb k (by omega) (by omega)]
 ·rfl
theorem desc_ok:∀ (t:Nat) (p:Array Nat) (m q:Nat),Pm n p->1<=m->m + t<=n->q + 1<=m->Dn f p m->Blk f p m q ->
  KOK n (cf f) (kas_desc t p m q) (λr=>Pm n r.1/\m<=r.2.1/\r.2.1<=n/\r.2.2 + 1<=r.2.1/\Dn f r.1 r.2.1/\Blk f r.1 r.2.1 r.2.2)
 | 0,p,m,q,hp,h1,h2,h3,hd,hb=>⟨hp,zD _,by simpa using h2,h3,hd,hb⟩
 | t + 1,p,m,q,hp,h1,h2,h3,hd,hb=>by
  unfold kas_desc
  refine ⟨by rw [wA];exact hp.lt (by omega),by rw [wA];exact hp.lt (by omega),?_⟩
  rw [wA,wA]
  by_cases hc:g f p m < g f p (m - 1)
  ·have e:cf f (at' p m) (at' p (m - 1))=true:=decide_eq_true hc
   rw [e];dsimp only;rw [if_pos rfl]
   have step:∀ p':Array Nat,Pm n p'->(∀ k,g f p' k=g f p k)->KOK n (cf f) (kas_desc t p' (m + 1) 0) (λr=>Pm n r.1/\m<=r.2.1/\r.2.1<=n/\r.2.2 + 1<=r.2.1/\Dn f r.1 r.2.1/\Blk f r.1 r.2.1 r.2.2):=λp' hp' hg=>by
    refine KOK.mono (λr h=>⟨h.1,by omega,h.2.2⟩) _ (desc_ok t p' (m + 1) 0 hp' (by omega) (by omega) (by omega) (λi j hij hj=>?_) λi hi hi'=>?_)
    ·rw [hg,hg]
     by_cases hjm:j < m
     ·exact hd i j hij hjm
     ·have ej:j=m:=by omega
      subst ej
      by_cases hi:i=j
      ·subst hi;omega
      ·have:=hd i (j - 1) (by omega) (by omega)
       omega
    ·have:i=m + 1 - 1:=by omega
     rw [this]
   split
   ·exact step _ (hp.rev _ _) (rev_same hp (by omega) h3 hb)
   ·exact step _ hp λ_=>rfl
  ·have e:cf f (at' p m) (at' p (m - 1))=false:=decide_eq_false hc
   rw [e];dsimp only;rw [if_neg zM]
   refine ⟨hp.lt (by omega),hp.lt (by omega),?_⟩
   by_cases hc2:g f p (m - 1) < g f p m
   ·have e2:cf f (at' p (m - 1)) (at' p m)=true:=decide_eq_true hc2
    rw [e2];dsimp only;rw [if_pos rfl]
    exact ⟨hp,zD _,by show m<=n;omega,h3,hd,hb⟩
   ·have e2:cf f (at' p (m - 1)) (at' p m)=false:=decide_eq_false hc2
    rw [e2];dsimp only;rw [if_neg zM]
    have eq:g f p m=g f p (m - 1):=by omega
    refine KOK.mono (λr h=>⟨h.1,by omega,h.2.2⟩) _ (desc_ok t p (m + 1) (q + 1) hp (by omega) (by omega) (by omega) (λi j hij hj=>?_) λi hi hi'=>?_)
    ·by_cases hjm:j < m
     ·exact hd i j hij hjm
     ·have ej:j=m:=by omega
      subst ej
      by_cases hi:i=j
      ·subst hi;omega
      ·have:=hd i (j - 1) (by omega) (by omega)
       omega
    ·rw [show m + 1 - 1=m from rfl]
     by_cases hi2:i=m
     ·rw [hi2]
     ·rw [hb i (by omega) (by omega),eq]
theorem tail3_ok {p:Array Nat}{m:Nat} (hp:Pm n p) (h1:1<=m) (hm:m<=n) (hd:Dn f p m):KOK n (cf f) (kas_tail3 m n p) (λr=>Pm n r.2/\r.1<=n/\1<=r.1/\Up f r.2 r.1):=by
 unfold kas_tail3
 have hp':=hp.rev 0 m
 refine KOK.bind _ (KOK.mono (λm' h=>⟨hp',by omega,by omega,h.2.2.1⟩) _ (asc_ok hp' (n - m) m h1 (by omega) λi j hij hj=>?_))
 rw [g_rev (by rw [hp.size];exact hm),g_rev (by rw [hp.size];exact hm),if_pos ⟨by omega,by omega⟩,if_pos ⟨by omega,by omega⟩]
 exact hd _ _ (by omega) (by omega)
theorem descPart_ok {p:Array Nat}{m:Nat} (hp:Pm n p) (h1:1<=m) (hm:m < n) (hd:Dn f p (m + 1)):KOK n (cf f) (kas_descPart m n p) (λr=>Pm n r.2/\r.1<=n/\1<=r.1/\Up f r.2 r.1):=by
 unfold kas_descPart
 refine KOK.bind _ (KOK.mono (λr h=>?_) _ (desc_ok (n - (m + 1)) p (m + 1) 0 hp (by omega) (by omega) (by omega) hd λi hi hi'=>by rw [show i=m + 1 - 1 by omega]))
 obtain ⟨a1,a2,a3,a4,a5,a6⟩:=h
 split
 ·exact tail3_ok (a1.rev _ _) (by omega) a3 λi j hij hj=>by
   rw [rev_same a1 a3 a4 a6,rev_same a1 a3 a4 a6]
   exact a5 i j hij hj
 ·exact tail3_ok a1 (by omega) a3 a5
theorem count_ok {p:Array Nat} (hn:1<=n) (hp:Pm n p):KOK n (cf f) (kas_count n p) (λr=>Pm n r.2/\r.1<=n/\1<=r.1/\Up f r.2 r.1):=by
 unfold kas_count
 refine KOK.bind _ (KOK.mono (λm h=>?_) _ (asc_ok hp (n - 1) 1 (zD _) (by omega) λi j hij hj=>by rw [show i=j by omega];omega))
 obtain ⟨a1,a2,a3,a4⟩:=h
 split
 ·exact ⟨hp,by omega,a1,a3⟩
 ·rename_i hne
  have hlt:m < n:=by
   have:¬ m=n:=by simpa using hne
   omega
  have a4':=a4 (by omega)
  split
  ·rename_i hm1
   refine ⟨by rw [wA];exact hp.lt (by omega),by rw [wA];exact hp.lt (by omega),?_⟩
   rw [wA,wA]
   by_cases hc:g f p 0 < g f p (m - 1)
   ·have e:cf f (at' p 0) (at' p (m - 1))=true:=decide_eq_true hc
    rw [e];dsimp only;rw [if_pos rfl]
    exact ⟨hp,by omega,a1,a3⟩
   ·have e:cf f (at' p 0) (at' p (m - 1))=false:=decide_eq_false hc
    rw [e];dsimp only;rw [if_neg zM]
    have all:∀ k,k < m->g f p k=g f p 0:=λk hk=>by
     have:=a3 0 k (by omega) hk
     have:=a3 k (m - 1) (by omega) (by omega)
     omega
    have gr:∀ k,g f (kas_rev p 0 m) k=g f p k:=λk=>by
     rw [g_rev (by rw [hp.size];omega)]
     split
     ·rw [all _ (by omega),all k (by omega)]
     ·rfl
    refine descPart_ok (hp.rev _ _) a1 hlt λi j hij hj=>?_
    rw [gr,gr]
    by_cases hjm:j < m
    ·rw [all i (by omega),all j hjm];omega
    ·have ej:j=m:=by omega
     subst ej
     by_cases hi:i=j
     ·subst hi;omega
     ·have:=all i (by omega)
      have:=all (j - 1) (by omega)
      omega
  ·refine descPart_ok hp a1 hlt λi j hij hj=>?_
   have em:m=1:=by omega
   subst em
   by_cases hi:i=j
   ·subst hi;omega
   ·have e1:i=0:=by omega
    have e2:j=1:=by omega
    subst e1 e2
    have:g f p 1 < g f p 0:=a4'
    omega
theorem place_ok {p:Array Nat}{k:Nat} (hp:Pm n p) (hk:k < n) (hu:Up f p k):∀ (t l r:Nat),l<=r->r<=k->r<=l + t->(∀ i,i < l->g f p i<=g f p k)->(∀ i,r<=i->i < k->g f p k < g f p i) ->
  KOK n (cf f) (kas_place p k t l r) (λl'=>l'<=k/\(∀ i,i < l'->g f p i<=g f p k)/\∀ i,l'<=i->i < k->g f p k < g f p i)
 | 0,l,r,h1,h2,h3,ha,hb=>⟨by omega,ha,λi hi hi'=>hb i (by omega) hi'⟩
 | t + 1,l,r,h1,h2,h3,ha,hb=>by
  unfold kas_place
  split
  ·exact ⟨by omega,ha,λi hi hi'=>hb i (by omega) hi'⟩
  ·rename_i hlr
   refine ⟨by rw [wA];exact hp.lt hk,by rw [wA];exact hp.lt (by omega),?_⟩
   rw [wA,wA]
   by_cases hc:g f p k < g f p ((l + r) / 2)
   ·have e:cf f (at' p k) (at' p ((l + r) / 2))=true:=decide_eq_true hc
    rw [e];dsimp only;rw [if_pos rfl]
    refine place_ok hp hk hu t l ((l + r) / 2) (by omega) (by omega) (by omega) ha λi hi hi'=>?_
    have:=hu ((l + r) / 2) i (by omega) hi'
    omega
   ·have e:cf f (at' p k) (at' p ((l + r) / 2))=false:=decide_eq_false hc
    rw [e];dsimp only;rw [if_neg zM]
    refine place_ok hp hk hu t ((l + r) / 2 + 1) r (by omega) (by omega) (by omega) (λi hi=>?_) hb
    have:=hu i ((l + r) / 2) (by omega) (by omega)
    omega
theorem bin_ok:∀ (t:Nat) (p:Array Nat) (k:Nat),Pm n p->k + t=n->Up f p k->KOK n (cf f) (kas_bin t p k) (λp'=>Pm n p'/\Up f p' n)
 | 0,p,k,hp,hk,hu=>⟨hp,by rw [<-hk];exact hu⟩
 | t + 1,p,k,hp,hk,hu=>by
  unfold kas_bin
  refine KOK.bind _ (KOK.mono (λl h=>?_) _ (place_ok hp (by omega) hu k 0 k (by omega) (by omega) (by omega) (λi hi=>absurd hi (zd _)) λi hi hi'=>absurd hi' (by omega)))
  obtain ⟨a1,a2,a3⟩:=h
  refine bin_ok t _ (k + 1) (hp.bub _ _) (by omega) λi j hij hj=>?_
  have hs:k < p.size:=by rw [hp.size];omega
  rw [g_bub hs (by omega),g_bub hs (by omega)]
  have el:k - (k - l)=l:=by omega
  rw [el]
  by_cases hil:i=l
  ·rw [if_pos hil]
   by_cases hjl:j=l
   ·rw [if_pos hjl];omega
   ·rw [if_neg hjl,if_pos ⟨by omega,by omega⟩]
    have:=a3 (j - 1) (by omega) (by omega)
    omega
  ·rw [if_neg hil]
   by_cases hi2:l < i/\i<=k
   ·rw [if_pos hi2]
    rw [if_neg (by omega),if_pos ⟨by omega,by omega⟩]
    exact hu _ _ (by omega) (by omega)
   ·rw [if_neg hi2]
    have hi3:i < l:=by omega
    by_cases hjl:j=l
    ·rw [if_pos hjl];exact a2 i hi3
    ·rw [if_neg hjl]
     by_cases hj2:l < j/\j<=k
     ·rw [if_pos hj2];exact hu _ _ (by omega) (by omega)
     ·rw [if_neg hj2];exact hu _ _ hij (by omega)
theorem sort_ok (hn:1<=n):KOK n (cf f) (kas_sort n) (λp=>Pm n p/\Up f p n):=by
 unfold kas_sort
 refine KOK.bind _ (KOK.mono (λr h=>?_) _ (count_ok hn (show Pm n (List.toArray (List.range n)) from Array.Perm.refl _)))
 obtain ⟨a1,a2,a3,a4⟩:=h
 split
 ·have e:max r.1 1=r.1:=by omega
  rw [e]
  exact bin_ok _ _ _ a1 (by omega) a4
 ·have e:r.1=n:=by omega
  exact ⟨a1,by rw [<-e];exact a4⟩
end
end SmSort
namespace SmSort
def lx:List Int->List Int->Bool
 | [],[]=>false
 | [],_::_=>true
 | _::_,[]=>false
 | x::xs,y::ys=>if x=y then lx xs ys else decide (x < y)
theorem lx_irr:∀ r:List Int,lx r r=false
 | []=>rfl
 | x::xs=>by unfold lx;rw [if_pos rfl];exact lx_irr xs
theorem lx_tr:∀ {a b c:List Int},lx a b=true->lx b c=true->lx a c=true
 | [],[],_,h,_=>by cases h
 | [],_::_,[],_,h=>by cases h
 | [],_::_,_::_,_,_=>rfl
 | _::_,[],_,h,_=>by cases h
 | _::_,_::_,[],_,h=>by cases h
 | x::xs,y::ys,z::zs,h,h'=>by
  unfold lx at h h' ⊢
  split at h
  ·split at h'
   ·rename_i e1 e2;rw [if_pos (e1.trans e2)];exact lx_tr h h'
   ·rename_i e1 e2
    simp only [decide_eq_true_eq] at h'
    rw [if_neg (by omega)];simp only [decide_eq_true_eq];omega
  ·simp only [decide_eq_true_eq] at h
   split at h'
   ·rename_i e1 e2
    rw [if_neg (by omega)];simp only [decide_eq_true_eq];omega
   ·simp only [decide_eq_true_eq] at h'
    rw [if_neg (by omega)];simp only [decide_eq_true_eq];omega
theorem lx_tot:∀ {a b:List Int},lx a b=false->lx b a=false->a=b
 | [],[],_,_=>rfl
 | [],_::_,h,_=>by cases h
 | _::_,[],_,h=>by cases h
 | x::xs,y::ys,h,h'=>by
  unfold lx at h h'
  split at h
  ·rename_i e;subst e;rw [if_pos rfl] at h';rw [lx_tot h h']
  ·rename_i e
   rw [if_neg λz=>e z.symm] at h'
   simp only [decide_eq_false_iff_not] at h h'
   omega
def rk (rs:List (List Int)) (r:List Int):Int:=((rs.countP λx=>lx x r:Nat):Int)
theorem countP_lt {α:Type}{p q:α->Bool}{a:α}:∀ {l:List α},(∀ x,p x=true->q x=true)->a∈l->p a=false->q a=true->l.countP p < l.countP q
 | [],_,h,_,_=>by cases h
 | x::l,hpq,h,h1,h2=>by
  have hm:l.countP p<=l.countP q:=List.countP_mono_left λx _=>hpq x
  rcases zF.mp h with rfl | h
  ·rw [List.countP_cons_of_neg (by rw [h1];exact zM),List.countP_cons_of_pos h2];omega
  ·have:=countP_lt hpq h h1 h2
   rw [List.countP_cons,List.countP_cons]
   cases e:p x with
   | true=>rw [hpq x e];simp;omega
   | false=>cases e2:q x <;> simp <;> omega
theorem rk_lt {rs:List (List Int)}{a b:List Int} (ha:a∈rs):decide (rk rs a < rk rs b)=lx a b:=by
 unfold rk
 cases h:lx a b with
 | true=>
  have:=countP_lt (p:=λx=>lx x a) (q:=λx=>lx x b) (λx hx=>lx_tr hx h) ha (lx_irr a) h
  simp only [decide_eq_true_eq];omega
 | false=>
  have hm:rs.countP (λx=>lx x b)<=rs.countP (λx=>lx x a):=List.countP_mono_left λx _ hx=>by
   cases h':lx b a with
   | true=>exact lx_tr hx h'
   | false=>rw [lx_tot h h'];exact hx
  simp only [decide_eq_false_iff_not];omega
end SmSort
namespace L2
open PySem PySem.Spec PyProof.Rows PySem.W SmSort
theorem ObjOk.at {P:Program}{w:World}{H:Hp}{h:Heap}{a:Addr}{o:HO} (x:ObjOk P w H h a o):∃ ob,h.get? a=some ob:=by
 cases o with
 | lst xs=>obtain ⟨_,_,_,_,e⟩:=x;exact ⟨_,e⟩
 | tup xs=>obtain ⟨_,_,_,ob,e,_⟩:=x;exact ⟨_,e⟩
 | dK kvs=>obtain ⟨_,_,_,_,o,_,_,e,_⟩:=x;exact ⟨_,e⟩
 | dT kvs=>obtain ⟨_,_,_,_,o,_,_,e,_⟩:=x;exact ⟨_,e⟩
 | set S n=>obtain ⟨o,_,_,_,e,_⟩:=x;exact ⟨_,e⟩
 | ins C dx fs=>obtain ⟨_,_,_,e,_⟩:=x;exact ⟨_,e⟩
 | own y=>obtain ⟨_,e⟩:=x;exact ⟨_,e⟩
 | xd fs=>obtain ⟨_,⟨_,_,_,e,_⟩,_⟩:=x;exact ⟨_,e⟩
 | rng lo hi=>obtain ⟨_,_,_,e⟩:=x;exact ⟨_,e⟩
 | frz ob u=>obtain ⟨e,_⟩:=x;exact ⟨_,e⟩
 | tbl ps=>exact ⟨_,(show h.get? a=some _ from x)⟩
 | met f y=>exact ⟨_,(show h.get? a=some _ from x)⟩
 | ext φ=>obtain ⟨_,⟨_,e⟩,_⟩:=x;exact ⟨_,e⟩
section
variable {X:Cx}{pins:List (Addr×Obj)}{σ:St}{H:Hp}{s:Shared}
theorem Inv.sortedTo {m:Str->Option Value}{h':Heap}{D:Addr}{its:List Value}{c:Nat}{xs:List V} (I:Inv X pins σ H s) (F0:Fr X.base X.env.locals s.heap m) (F:Fr X.base X.env.locals h' m)
  (N:News X.base X.env.locals h' ((D,listOf its.toArray c)::allNews X.base s.heap X.env.locals)) (lt:∀ q∈allNews X.base s.heap X.env.locals,q.1 < D) (hv:Vals xs its) (hz:xs.length<=sizeLine) :
  Inv X pins σ (upd H D (.lst xs)) { s with heap:=h' }/\H D=none:=by
 obtain ⟨eD,nL,nb⟩:=N (D,listOf its.toArray c) (.head _)
 have oldD:s.heap.get? D=none:=by
  cases q:s.heap.get? D with
  | none=>rfl
  | some o=>exact absurd (lt (D,o) (mem_allNews nL nb q)) (z8 _)
 have hD:H D=none:=by
  cases q:H D with
  | none=>rfl
  | some u=>
   obtain ⟨ob,e⟩:=(I.hok D u q).at
   rw [oldD] at e;cases e
 have keep:∀ b o,b≠X.env.locals->s.heap.get? b=some o->h'.get? b=some o:=λb o hb e=>by
  cases q:X.base.get? b with
  | some u=>
   have:=I.bk b u q
   rw [e] at this;cases this
   exact F.keep b _ q
  | none=>exact (N (b,o) (.tail _ (mem_allNews hb q e))).1
 have neD:∀ b o,s.heap.get? b=some o->b≠D:=λb o e z=>by rw [z,oldD] at e;cases e
 have neT:∀ b u,H b=some u->b≠D:=λb u e z=>by rw [z,hD] at e;cases e
 refine ⟨I.step (g':=s.gens) (t':=s.toks) (d':=s.drawn) (ch:=[]) (λ_ z=>nomatch z) (λb o hb _ _ e _=>keep b o hb e) (λb o hb _ _ e _=>⟨o.slots,keep b o hb e⟩) (λb o _ e n=>by rw [xO (neD b o e)];exact n) (λb o _ e=>?_)
  (λb ys e=>by rw [xO (neT b _ e)];exact e) (λb o u e=>by rw [xO (neT b _ e)];exact e) (λb ps e=>⟨#[],by rw [xO (neT b _ e),e,Array.append_empty]⟩) (λm' hm=>?_) (λb u e=>?_) I.bare,hD⟩
 ·by_cases hb:b=X.env.locals
  ·obtain ⟨o',_,_,q,_⟩:=F.ns
   exact ⟨o',by rw [hb];exact q⟩
  ·exact ⟨o,keep b o hb e⟩
 ·obtain ⟨o1,es1,ep1,e1,d1,k1,f1⟩:=hm
  obtain ⟨o2,es2,ep2,e2,d2,k2,f2⟩:=F0.ns
  rw [e1] at e2;cases e2
  rw [d1] at d2;cases d2
  obtain ⟨o3,es3,ep3,e3,d3,k3,f3⟩:=F.ns
  exact ⟨o3,es3,ep3,e3,d3,k3,λname=>(f3 name).trans ((f2 name).symm.trans (f1 name))⟩
 ·by_cases hb:b=D
  ·subst hb;rw [xI] at e;cases e
   exact ⟨hz,its,c,hv,eD⟩
  ·rw [xO hb] at e
   refine (I.hok b u e).stay (λc v hc q=>keep c v (λz=>?_) q) (λc q=>by rw [xO (neT c _ q)];exact q) λc ys q=>by rw [xO (neT c _ q)];exact q
   rcases hc with rfl | hc
   ·rw [z,I.free] at e;cases e
   ·rw [z,I.free] at hc;cases hc
end
section
variable {prog:Program}{w:World}{A:Around}{E:Value->Shared->Prop}{s:Shared}
theorem sort_short {a:Addr}{its:List Value}{k:Nat}{P:PySem.Fin->Shared->Prop} (hx:s.heap.get? a=some (seqObj "list" its.toArray k)) (few:its.length < 2)
  (done:P (.done (.ret .none)) { s with heap:=sortedHeap s.heap a its its.toArray }):wpAny (model prog w) A (Builtin.«list.sort» ⟨[.ref a],[]⟩) P E s:=by
 have here:a < s.heap.objs.size:=Heap.lt_size hx
 have line:its.length<=sizeLine:=by rw [sizeLine_eq];omega
 rw [list_sort_plain]
 obtain ⟨e1,at1⟩:∃ e1,(s.heap.update a (Obj.mapSeq λ_=>(#[]:Array Value))).get? a=some (seqObj "list" #[] e1):=⟨_,get?_update_seq hx (λ_=>#[])⟩
 refine wpAny_bind (listItems_at hx rfl (wpAny_bind (listUpdate_at hx rfl (wpAny_bind (seqEpoch_at at1 rfl (wpAny_bind (wpAny_newTuple (wpAny_bind (wpAny_newList (wpAny_holding ?_) (zT _))) line))))
  (by rw [zN];exact line) (zT _))))
 have at2:(((s.heap.update a (Obj.mapSeq λ_=>(#[]:Array Value))).push (seqObj "tuple" its.toArray 0)).push (seqObj "list" #[] 0)).get? a=some (seqObj "list" #[] e1):=
  Heap.get?_push_of_some _ (Heap.get?_push_of_some _ at1)
 show wpAny (model prog w) A _ P E { s with heap:=((s.heap.update a (Obj.mapSeq λ_=>(#[]:Array Value))).push (seqObj "tuple" its.toArray 0)).push (seqObj "list" #[] 0) }
 have less:its.toArray.size < 2:=by rw [zN];exact few
 have snds:(arrOf (SortSt.mk' general' (its.toArray.zip its.toArray) #[] 7 none)).map (·.2)=its.toArray:=by
  show (its.toArray.zip its.toArray).map (·.2)=its.toArray
  match its,few with
  | [],_=>simp
  | [_],_=>simp
 dsimp only
 rw [if_pos less,if_pos less]
 refine wpAny_bind (wpAny_pure ?_)
 rw [StateT.run_pure]
 refine wpAny_bind (wpAny_pure ?_)
 dsimp only
 refine wpAny_bind (seqEpoch_at at2 rfl (wpAny_bind (listUpdate_at at2 rfl ?_ (zT _) (by rw [snds,zN];omega))))
 simp only [bne_self_eq_false,zV,if_false]
 rw [snds]
 exact wpAny_pure done
theorem sorted_short {l:Addr}{its:List Value}{Q:Value->Shared->Prop} (hl:s.heap.IsList l its.toArray) (few:its.length < 2)
  (done:Q (.ref (s.heap.objs.size + 1)) { s with heap:=sortedAll s.heap its its.toArray }):wpAny (model prog w) A (call (.builtin "sorted") [.ref l]) Q E s:=by
 have line:its.length<=sizeLine:=by rw [sizeLine_eq];omega
 refine Calls.call_function_entry kind_sorted plain_sorted entry_sorted (args_sorted1 _) ?_
 unfold Builtin.«sorted»
 refine wpAny_bind (m:=checkCount "sorted" 1 1 _) (wpAny_pure (wpAny_bind (collect_list hl (wpAny_bind (wpAny_newList ?_ line)) line)))
 have sz:((s.heap.push (seqObj "list" #[] 0)).update s.heap.objs.size (Obj.mapSeq (·++its.toArray))).objs.size=s.heap.objs.size + 1:=by rw [Heap.size_update,size_push']
 have atL:(((s.heap.push (seqObj "list" #[] 0)).update s.heap.objs.size (Obj.mapSeq (·++its.toArray))).push (seqObj "list" its.toArray 0)).get? (s.heap.objs.size + 1)=some (seqObj "list" its.toArray 0):=by
  rw [<-sz];exact Heap.get?_push_size _ rfl
 show wpAny _ _ _ _ _ { s with heap:=((s.heap.push (seqObj "list" #[] 0)).update s.heap.objs.size (Obj.mapSeq (·++its.toArray))).push (seqObj "list" its.toArray 0) }
 rw [sz]
 exact wpAny_bind (wpAny_holding (wpAny_call_entry slot_list_sort ⟨_,atL,rfl⟩ entry_list_sort (sort_short atL few ⟨_,rfl,wpAny_pure ⟨_,rfl,done⟩⟩) (args_list_sort _)))
end
section
variable {X:Cx}
theorem vals_refs:∀ {ps:List (Addr×List Int)}{us:List Value},Vals (ps.map λa=>V.ref a.1) us->us=ps.map λa=>Value.ref a.1
 | [],us,r=>by cases r;rfl
 | a::ps,us,r=>by
  cases r with
  | cons x y=>rw [vals_refs y];cases x;rfl
def RowAt (h:Heap) (a:Addr) (r:List Int):Prop:=∃ o items n,h.get? a=some o/\o.cls=.type "tuple" /\ o.data=.seq items n/\Vals (r.map V.int) items.toList
theorem vals_lex {prog:Program}{w:World}{A:Around}{s:Shared}{b fin:Bool}{Q:Bool->Shared->Prop}:∀ {r r':List Int}{us us':List Value}{i:Nat},Vals (r.map V.int) us->Vals (r'.map V.int) us'->fin=decide (us.length < us'.length)->Q (lx r r') s ->
  KatLex prog w A b fin Q (us.zip us') i s
 | [],[],us,us',i,ru,ru',hf,q=>by cases ru;cases ru';exact kat_nil (by rw [hf];exact q)
 | [],_::_,us,us',i,ru,ru',hf,q=>by
  cases ru;cases ru' with
  | cons _ _=>exact kat_nil (by rw [hf];simpa [lx] using q)
 | _::_,[],us,us',i,ru,ru',hf,q=>by
  cases ru';cases ru with
  | cons _ _=>exact kat_nil (by rw [hf];simpa [lx] using q)
 | x::r,y::r',us,us',i,ru,ru',hf,q=>by
  cases ru with
  | cons rx ru=>
  cases ru' with
  | cons ry ru'=>
  obtain ⟨t,rfl⟩:=rx
  obtain ⟨t',rfl⟩:=ry
  refine kat_cons (wpAny_eqBool_int ?_)
  unfold lx at q
  by_cases e:x=y
  ·subst e
   rw [if_pos rfl] at q
   rw [show (x == x)=true from by simp]
   exact kat_yes (vals_lex ru ru' (by rw [hf];simp) q)
  ·rw [if_neg e] at q
   rw [show (x == y)=false from by simpa using e]
   refine kat_no ?_
   cases (b && i == 0) with
   | true=>exact oneLt_int q
   | false=>exact kat_one _ _ (lt_int q)
theorem kat_tups {h:Heap}:∀ {ps:List (Addr×List Int)},(∀ a∈ps,RowAt h a.1 a.2/\a.2≠[])->∃ fs,KatTups h (ps.map λa=>Value.ref a.1) fs/\fs.length=ps.length/\∀ v∈fs,∃ i t,v=Value.int i t
 | [],_=>⟨[],KatTups.nil,rfl,λ_ z=>nomatch z⟩
 | (a,r)::ps,hp=>by
  obtain ⟨fs,k,l,f⟩:=kat_tups λa ha=>hp a (.tail _ ha)
  obtain ⟨⟨o,items,n,ho,hc,hd,hv⟩,hn⟩:=hp (a,r) (.head _)
  match r,hn,hv with
  | x::r,_,hv=>
   obtain ⟨u,hu,t,e⟩:=Vals.get (i:=0) hv rfl
   refine ⟨u::fs,KatTups.cons ho hc hd (by rw [<-hu];simp) k,by simp [l],λv hv=>?_⟩
   rcases zF.mp hv with rfl | hv
   ·exact ⟨x,t,e⟩
   ·exact f v hv
theorem range_map {α:Type} (d:α) (l:List α):(List.range l.length).map (λi=>l.getD i d)=l:=by
 apply List.ext_getElem
 ·simp
 ·intro i h1 h2
  simp [List.getD,h2]
theorem vals_of_refs:∀ (ps:List (Addr×List Int)),Vals (ps.map λa=>V.ref a.1) (ps.map λa=>Value.ref a.1)
 | []=>.nil
 | _::ps=>.cons rfl (vals_of_refs ps)
theorem call_sortT:CallR X (.builtin "sorted") (λxs H Q=>∃ p,∃ ps:List (Addr×List Int),xs=[.ref p]/\SqL X.K H p (ps.map λa=>V.ref a.1)/\ps.length < 64/\(∀ a∈ps,H a.1=some (.tup (a.2.map V.int))/\a.2≠[]) /\
  ∀ l qs,H l=none->List.Perm qs ps->qs.Pairwise (λa b=>lx b.2 a.2=false)->Q (.ref l) (upd H l (.lst (qs.map λa=>V.ref a.1)))):=by
 intro pins s σ H xs us Q I r h
 obtain ⟨p,ps,rfl,hq,h64,hrow,q⟩:=h
 obtain ⟨u,rfl,rx⟩:=vals1 r
 cases rx
 obtain ⟨its,r',pl,hz⟩:=I.list hq
 have ei:=vals_refs r'
 subst ei
 have hlen:(ps.map λa=>Value.ref a.1).length=ps.length:=by simp
 by_cases h2:ps.length < 2
 ·refine sorted_short pl.isList (by omega) ?_
  have sz:((s.heap.push (seqObj "list" #[] 0)).update s.heap.objs.size (Obj.mapSeq (·++(ps.map λa=>Value.ref a.1).toArray))).objs.size=s.heap.objs.size + 1:=by rw [Heap.size_update,size_push']
  have kp:∀ b o,s.heap.get? b=some o->(sortedAll s.heap (ps.map λa=>Value.ref a.1) (ps.map λa=>Value.ref a.1).toArray).get? b=some o:=λb o e=>by
   have lb:b < s.heap.objs.size:=Heap.lt_size e
   unfold sortedAll sortedHeap
   rw [Heap.get?_update_ne _ _ _ _ (zQ (yQ lb))]
   refine Heap.get?_push_of_some _ (Heap.get?_push_of_some _ ?_)
   rw [Heap.get?_update_ne _ _ _ _ (zQ (yQ lb))]
   refine Heap.get?_push_of_some _ ?_
   rw [Heap.get?_update_ne _ _ _ _ (zQ lb)]
   exact Heap.get?_push_of_some _ e
  obtain ⟨c,ec⟩:∃ c,(sortedAll s.heap (ps.map λa=>Value.ref a.1) (ps.map λa=>Value.ref a.1).toArray).get? (s.heap.objs.size + 1)=some (seqObj "list" (ps.map λa=>Value.ref a.1).toArray c):=by
   have e0:=Heap.get?_push_size ((s.heap.push (seqObj "list" #[] 0)).update s.heap.objs.size (Obj.mapSeq (·++(ps.map λa=>Value.ref a.1).toArray))) (o:=seqObj "list" (ps.map λa=>Value.ref a.1).toArray 0) rfl
   rw [sz] at e0
   unfold sortedAll sortedHeap
   have e1:=get?_update_seq e0 (λ_=>(#[]:Array Value))
   exact ⟨_,get?_update_seq (Heap.get?_push_of_some _ (Heap.get?_push_of_some _ e1)) _⟩
  refine ⟨.ref (s.heap.objs.size + 1),_,I.laid (t':=s.toks) kp (yw _) (show ObjOk X.prog X.w _ _ _ (.lst (ps.map λa=>V.ref a.1)) from ⟨hz,_,c,r',ec⟩),rfl,q _ ps (I.hok.fresh (yw _)) (List.Perm.refl _) ?_⟩
  match ps,h2 with
  | [],_=>exact .nil
  | [_],_=>exact zv _ _
 ·obtain ⟨m,F⟩:=I.fr
  refine kat_sorted F (news_all (g:=X.base) (h:=s.heap)) pl.isList (by omega) (by omega) λD e1 h' F' N' lt=>?_
  have keep:∀ b o,b≠X.env.locals->s.heap.get? b=some o->h'.get? b=some o:=λb o hb e=>by
   cases q:X.base.get? b with
   | some u=>
    have:=I.bk b u q
    rw [e] at this;cases this
    exact F'.keep b _ q
   | none=>exact (N' (b,o) (.tail _ (mem_allNews hb q e))).1
  have rowAt:∀ a∈ps,RowAt h' a.1 a.2/\a.2≠[]:=λa ha=>by
   obtain ⟨ht,hn⟩:=hrow a ha
   obtain ⟨_,its,rv,o,e,c,n,d⟩:=I.hok a.1 _ ht
   refine ⟨⟨o,_,n,keep a.1 o (λz=>?_) e,c,d,rv⟩,hn⟩
   rw [z,I.free] at ht;cases ht
  obtain ⟨fs,kt,lf,hf⟩:=kat_tups rowAt
  refine kat_kind (T:=.type "int") kt (by omega) (λv hv=>?_) (by decide) ?_
  ·obtain ⟨i,t,rfl⟩:=hf v hv
   exact Looks.now
  have n1:1<=(ps.map λa=>Value.ref a.1).length:=by omega
  refine KOK.wp (c:=cf λi=>rk (ps.map (·.2)) ((ps.map (·.2)).getD i [])) (λi j C hi hj hC=>?_) (λpp hp=>?_) _ (sort_ok (f:=λi=>rk (ps.map (·.2)) ((ps.map (·.2)).getD i [])) n1)
  ·have hi':i < ps.length:=by omega
   have hj':j < ps.length:=by omega
   obtain ⟨⟨o,items,n,ho,hc,hd,hv⟩,hn⟩:=rowAt ps[i] (zq hi')
   obtain ⟨⟨o',items',n',ho',hc',hd',hv'⟩,hn'⟩:=rowAt ps[j] (zq hj')
   unfold kas_ask
   have ei:(ps.map λa=>Value.ref a.1).getD i Value.none=.ref ps[i].1:=by simp [hi']
   have ej:(ps.map λa=>Value.ref a.1).getD j Value.none=.ref ps[j].1:=by simp [hj']
   rw [ei,ej]
   refine kat_lt ho hd ho' hd' (vals_lex hv hv' (by simp) ?_)
   have e:cf (λi=>rk (ps.map (·.2)) ((ps.map (·.2)).getD i [])) i j=lx ps[i].2 ps[j].2:=by
    unfold cf
    have e1:(ps.map (·.2)).getD i []=ps[i].2:=by simp [hi']
    have e2:(ps.map (·.2)).getD j []=ps[j].2:=by simp [hj']
    simp only [e1,e2]
    exact rk_lt (zI.mpr ⟨ps[i],zq hi',rfl⟩)
   rw [e] at hC
   exact hC
  ·obtain ⟨pm,up⟩:=hp
   refine KasFin.intro F' N' (UpdF.head λx hx=>zQ (lt x hx)) λh2' c F2 N2=>?_
   have pl:pp.toList.Perm (List.range ps.length):=by
    have:=pm.toList
    rw [hlen] at this
    simpa using this
   have eo:(pp.toList.map λi=>(ps.map λa=>Value.ref a.1).getD i Value.none)=(pp.toList.map λi=>ps.getD i (0,[])).map λa=>Value.ref a.1:=by
    rw [zn]
    refine yL λi hi=>?_
    have hi':i < ps.length:=zY.mp (pl.mem_iff.mp hi)
    simp [hi']
   have perm:(pp.toList.map λi=>ps.getD i (0,[])).Perm ps:=by
    have:=pl.map λi=>ps.getD i (0,[])
    rwa [range_map] at this
   rw [eo] at N2
   have hzz:((pp.toList.map λi=>ps.getD i (0,[])).map λa=>V.ref a.1).length<=sizeLine:=by
    rw [zA,perm.length_eq,sizeLine_eq];omega
   obtain ⟨I2,hD⟩:=I.sortedTo F F2 N2 lt (vals_of_refs _) hzz
   refine ⟨.ref D,_,I2,rfl,q D _ hD perm ?_⟩
   rw [zW]
   intro i j hi hj hij
   simp only [zA,Array.length_toList] at hi hj
   simp only [List.getElem_map,Array.getElem_toList]
   have hn:pp.size=ps.length:=by rw [pm.size];exact hlen
   have key:=up i j (xB hij) (by omega)
   have a1:pp[i] < ps.length:=zY.mp (pl.mem_iff.mp (by simp))
   have a2:pp[j] < ps.length:=zY.mp (pl.mem_iff.mp (by simp))
   unfold g at'  at key
   simp only [hi,hj,getElem?_pos,Option.getD_some] at key
   have e1:(ps.map (·.2)).getD pp[i] []=ps[pp[i]].2:=by simp [a1]
   have e2:(ps.map (·.2)).getD pp[j] []=ps[pp[j]].2:=by simp [a2]
   rw [e1,e2] at key
   have e3:ps.getD pp[i] (0,[])=ps[pp[i]]:=by simp [a1]
   have e4:ps.getD pp[j] (0,[])=ps[pp[j]]:=by simp [a2]
   rw [e3,e4]
   have:=rk_lt (rs:=ps.map (·.2)) (a:=ps[pp[j]].2) (b:=ps[pp[i]].2) (zI.mpr ⟨_,zq a2,rfl⟩)
   rw [<-this]
   simp only [decide_eq_false_iff_not]
   omega
end
end L2
namespace L2
open PySem PySem.Spec PyProof.Rows
def notStar:Expr->Bool
 | .Starred _ _=>false
 | _=>true
theorem star_cons {e:Expr}{es:List Expr}{env:Env} (h:notStar e=true):starEach (e::es) env=(false,eval e env)::starEach es env:=by
 cases e <;> first | rfl | cases h
@[irreducible] def PA2 (X:Cx) (es:List Expr) (t:TA):Prop:=PA X es t
theorem xG {X:Cx}{es:List Expr}{t:TA} (h:PA2 X es t):PA X es t:=by unfold PA2 at h;exact h
theorem pa_in {X:Cx}{es:List Expr}{t:TA} (h:PA X es t):PA2 X es t:=by unfold PA2;exact h
theorem xS {X:Cx}:PA2 X [] tNil:=pa_in wX
theorem xH {X:Cx}{e:Expr}{es:List Expr}{te:TE}{t:TA} (ha:PE X e te) (hr:PA2 X es t) (hn:notStar e=true):PA2 X (e::es) (tCons te t):=pa_in (pa_cons ha (xG hr) (star_cons hn))
@[irreducible] def PSs2 (X:Cx) (es:List Stmt) (t:TS):Prop:=PSs X es t
theorem xQ {X:Cx}{es:List Stmt}{t:TS} (h:PSs2 X es t):PSs X es t:=by unfold PSs2 at h;exact h
theorem bl_in {X:Cx}{es:List Stmt}{t:TS} (h:PSs X es t):PSs2 X es t:=by unfold PSs2;exact h
theorem xb {X:Cx}{a:Stmt}{t:TS} (h:PS X a t):PSs2 X [a] t:=bl_in (pss_one h)
theorem xU {X:Cx}{a b:Stmt}{rest:List Stmt}{t u:TS} (h:PS X a t) (hr:PSs2 X (b::rest) u):PSs2 X (a::b::rest) (tSeq t u):=bl_in (pss_cons h (xQ hr))
end L2
namespace L2
open PySem PySem.Spec PyProof.Rows
section
variable {K:PySem.W.Frag}{a:Addr}{xs:List V}{n:Nat}{caps:List Nat}{g:TG}{tc:TT}{te:TE}{σ:St}{H:Hp}{Qf:Addr->Hp->List V->Prop}
theorem comp_of {J:It} (Pv:Nat->St->List V->Hp->Prop) (len:Nat) (h0:Pv 0 (tau0 n caps σ) [] H) (hn:len<=1000) (hl:∀ i τ acc H,Pv i τ acc H->acc.length<=i)
  (hgo:∀ i τ acc H,i < len->Pv i τ acc H->J.go i H) (hstop:∀ τ acc H,Pv len τ acc H->J.stop len H)
  (hs:∀ i τ acc H (C:St->List V->Hp->Prop),i < len->Pv i τ acc H->(∀ τ acc H,Pv (i + 1) τ acc H->C τ acc H)->∀ x H',J.yld i H x H'->g x τ H' fun τ2 H2=>tc τ2 H2 λb H3=>if b=true then te τ2 H3 λy H4=>C τ2 (acc++[y]) H4 else C τ2 acc H3)
  (hd:∀ τ acc H,Pv len τ acc H->∀ p,H p=none->Qf p H acc) :
  ∃ W:Nat->Nat->St->List V->Hp->Prop,(∃ m,W 0 m (tau0 n caps σ) [] H)/\∀ i m τ acc H,W i m τ acc H ->
   (J.stop i H/\acc.length<=sizeLine/\∀ p,H p=none->Qf p H acc) \/
   (J.go i H/\acc.length < sizeLine/\∀ x H',J.yld i H x H'->g x τ H' fun τ2 H2=>tc τ2 H2 λb H3=>if b=true then te τ2 H3 λy H4=>∃ m',m' < m/\W (i + 1) m' τ2 (acc++[y]) H4 else ∃ m',m' < m/\W (i + 1) m' τ2 acc H3):=by
 have line:1001<=sizeLine:=by rw [sizeLine_eq];decide
 refine ⟨λi m τ acc H=>m=len - i/\i<=len/\Pv i τ acc H,⟨len,by simp,zT _,h0⟩,?_⟩
 rintro i m τ acc H ⟨rfl,hi,p⟩
 have q:=hl i τ acc H p
 by_cases hlt:i < len
 ·exact .inr ⟨hgo i τ acc H hlt p,by omega,λx H' y=>hs i τ acc H (fun τ acc H=>∃ m',m' < len - i/\m'=len - (i + 1)/\i + 1<=len/\Pv (i + 1) τ acc H) hlt p (fun τ acc H p'=>⟨len - (i + 1),by omega,rfl,hlt,p'⟩) x H' y⟩
 ·have e:i=len:=by omega
  subst e
  exact .inl ⟨hstop τ acc H p,by omega,hd τ acc H p⟩
theorem comp_tup (Pv:Nat->St->List V->Hp->Prop) (h0:Pv 0 (tau0 n caps σ) [] H) (hn:xs.length<=1000) (hl:∀ i τ acc H,Pv i τ acc H->acc.length<=i/\SqT K H a xs)
  (hs:∀ i x τ acc H (C:St->List V->Hp->Prop),xs[i]?=some x->Pv i τ acc H->(∀ τ acc H,Pv (i + 1) τ acc H->C τ acc H)->g x τ H fun τ2 H2=>tc τ2 H2 λb H3=>if b=true then te τ2 H3 λy H4=>C τ2 (acc++[y]) H4 else C τ2 acc H3)
  (hd:∀ τ acc H,Pv xs.length τ acc H->∀ p,H p=none->Qf p H acc) :
  ∃ W:Nat->Nat->St->List V->Hp->Prop,(∃ m,W 0 m (tau0 n caps σ) [] H)/\∀ i m τ acc H,W i m τ acc H ->
   ((Itt K a).stop i H/\acc.length<=sizeLine/\∀ p,H p=none->Qf p H acc) \/
   ((Itt K a).go i H/\acc.length < sizeLine/\∀ x H',(Itt K a).yld i H x H'->g x τ H' fun τ2 H2=>tc τ2 H2 λb H3=>if b=true then te τ2 H3 λy H4=>∃ m',m' < m/\W (i + 1) m' τ2 (acc++[y]) H4 else ∃ m',m' < m/\W (i + 1) m' τ2 acc H3):=
 comp_of (J:=Itt K a) Pv xs.length h0 hn (λi τ acc H p=>(hl i τ acc H p).1) (λi τ acc H hi p=>⟨xs,xs[i],(hl i τ acc H p).2,by simp [hi]⟩) (fun τ acc H p=>⟨xs,(hl _ τ acc H p).2,zD _⟩)
  (λi τ acc H C hi p c x H' y=>by obtain ⟨e,y⟩:=y;subst e;exact hs i x τ acc _ C (y xs (hl i τ acc _ p).2) p c) hd
theorem comp_list (Pv:Nat->St->List V->Hp->Prop) (h0:Pv 0 (tau0 n caps σ) [] H) (hn:xs.length<=1000) (hl:∀ i τ acc H,Pv i τ acc H->acc.length<=i/\SqL K H a xs)
  (hs:∀ i x τ acc H (C:St->List V->Hp->Prop),xs[i]?=some x->Pv i τ acc H->(∀ τ acc H,Pv (i + 1) τ acc H->C τ acc H)->g x τ H fun τ2 H2=>tc τ2 H2 λb H3=>if b=true then te τ2 H3 λy H4=>C τ2 (acc++[y]) H4 else C τ2 acc H3)
  (hd:∀ τ acc H,Pv xs.length τ acc H->∀ p,H p=none->Qf p H acc) :
  ∃ W:Nat->Nat->St->List V->Hp->Prop,(∃ m,W 0 m (tau0 n caps σ) [] H)/\∀ i m τ acc H,W i m τ acc H ->
   ((Itl K a).stop i H/\acc.length<=sizeLine/\∀ p,H p=none->Qf p H acc) \/
   ((Itl K a).go i H/\acc.length < sizeLine/\∀ x H',(Itl K a).yld i H x H'->g x τ H' fun τ2 H2=>tc τ2 H2 λb H3=>if b=true then te τ2 H3 λy H4=>∃ m',m' < m/\W (i + 1) m' τ2 (acc++[y]) H4 else ∃ m',m' < m/\W (i + 1) m' τ2 acc H3):=
 comp_of (J:=Itl K a) Pv xs.length h0 hn (λi τ acc H p=>(hl i τ acc H p).1) (λi τ acc H hi p=>⟨xs,xs[i],(hl i τ acc H p).2,by simp [hi]⟩) (fun τ acc H p=>⟨xs,(hl _ τ acc H p).2,zD _⟩)
  (λi τ acc H C hi p c x H' y=>by obtain ⟨e,y⟩:=y;subst e;exact hs i x τ acc _ C (y xs (hl i τ acc _ p).2) p c) hd
theorem comp_enumT (Pv:Nat->St->List V->Hp->Prop) (h0:Pv 0 (tau0 n caps σ) [] H) (hn:xs.length<=1000) (hl:∀ i τ acc H,Pv i τ acc H->acc.length<=i/\SqT K H a xs)
  (hs:∀ i x q τ acc H (C:St->List V->Hp->Prop),xs[i]?=some x->H q=none->Pv i τ acc H->(∀ τ acc H,Pv (i + 1) τ acc H->C τ acc H)->g (.ref q) τ (upd H q (.tup [.int i,x])) fun τ2 H2=>tc τ2 H2 λb H3=>if b=true then te τ2 H3 λy H4=>C τ2 (acc++[y]) H4 else C τ2 acc H3)
  (hd:∀ τ acc H,Pv xs.length τ acc H->∀ p,H p=none->Qf p H acc) :
  ∃ W:Nat->Nat->St->List V->Hp->Prop,(∃ m,W 0 m (tau0 n caps σ) [] H)/\∀ i m τ acc H,W i m τ acc H ->
   ((IteT K a).stop i H/\acc.length<=sizeLine/\∀ p,H p=none->Qf p H acc) \/
   ((IteT K a).go i H/\acc.length < sizeLine/\∀ x H',(IteT K a).yld i H x H'->g x τ H' fun τ2 H2=>tc τ2 H2 λb H3=>if b=true then te τ2 H3 λy H4=>∃ m',m' < m/\W (i + 1) m' τ2 (acc++[y]) H4 else ∃ m',m' < m/\W (i + 1) m' τ2 acc H3):=
 comp_of (J:=IteT K a) Pv xs.length h0 hn (λi τ acc H p=>(hl i τ acc H p).1) (λi τ acc H hi p=>⟨xs,xs[i],(hl i τ acc H p).2,by simp [hi]⟩) (fun τ acc H p=>⟨xs,(hl _ τ acc H p).2,zD _⟩)
  (λi τ acc H C hi p c x H' y=>by obtain ⟨q,x',hq,e1,e2,y⟩:=y;subst e1;subst e2;exact hs i x' q τ acc _ C (y xs (hl i τ acc _ p).2) hq p c) hd
theorem for_enumT {tb:TS}{D:Ends} (Pv:Nat->St->Hp->Prop) (h0:Pv 0 σ H) (hl:∀ i σ H,i<=xs.length->Pv i σ H->SqT K H a xs)
  (hs:∀ i x q σ H,xs[i]?=some x->H q=none->Pv i σ H->g (.ref q) σ (upd H q (.tup [.int i,x])) fun σ2 H2=>tb (D.lp (Pv (i + 1))) σ2 H2) (hd:∀ σ H,Pv xs.length σ H->D.nx σ H) :
  ∃ W:Nat->Nat->St->Hp->Prop,(∃ m,W 0 m σ H)/\∀ i m σ H,W i m σ H ->
   ((IteT K a).stop i H/\D.nx σ H)\/((IteT K a).go i H/\∃ N:St->Hp->Prop,(∀ σ' H',N σ' H'->∃ m',m' < m/\W (i + 1) m' σ' H')/\∀ x H',(IteT K a).yld i H x H'->g x σ H' fun σ2 H2=>tb (D.lp N) σ2 H2):=by
 refine ⟨λi m σ H=>m=xs.length - i/\i<=xs.length/\Pv i σ H,⟨xs.length,by simp,zT _,h0⟩,?_⟩
 rintro i m σ H ⟨rfl,hi,p⟩
 have q:=hl i σ H hi p
 by_cases hlt:i < xs.length
 ·refine .inr ⟨⟨xs,xs[i],q,by simp [hlt]⟩,Pv (i + 1),fun σ' H' p'=>⟨xs.length - (i + 1),by omega,rfl,hlt,p'⟩,λx H' y=>?_⟩
  obtain ⟨q',x',hq,e1,e2,y⟩:=y
  subst e1;subst e2
  exact hs i x' q' σ _ (y xs q) hq p
 ·have e:i=xs.length:=by omega
  subst e
  exact .inl ⟨⟨xs,q,zD _⟩,hd σ H p⟩
end
end L2
namespace Sm
open PySem L2 SmSort
def But (p:Addr) (H H':Hp):Prop:=∀ b u,b≠p->H b=some u->H' b=some u
theorem But.refl (p:Addr) (H:Hp):But p H H:=λ_ _ _ h=>h
theorem But.trans {p:Addr} {H H1 H2:Hp} (a:But p H H1) (b:But p H1 H2):But p H H2:=λc u n h=>b c u n (a c u n h)
theorem But.set {p:Addr}{H:Hp}{o:HO}:But p H (upd H p o):=λb u n h=>by rw [xO n];exact h
theorem But.new {p l:Addr}{H:Hp}{o:HO} (h:H l=none):But p H (upd H l o):=λb u n e=>by rw [xO (xJ e h)];exact e
def Purse (H:Hp) (p:Addr):Prop:=∃ a b c:Int,H p=some (.lst [.int a,.int b,.int c])
def Go (p:Addr) (H H':Hp):Prop:=But p H H'/\Purse H' p
theorem Go.trans {p:Addr} {H H1 H2:Hp} (a:Go p H H1) (b:Go p H1 H2):Go p H H2:=⟨a.1.trans b.1,b.2⟩
theorem Go.refl {p:Addr}{H:Hp} (a:Purse H p):Go p H H:=⟨But.refl p H,a⟩
theorem Purse.new {p l:Addr}{H:Hp}{o:HO} (a:Purse H p) (h:H l=none):Purse (upd H l o) p:=by
 obtain ⟨x,y,z,e⟩:=a
 exact ⟨x,y,z,by rw [xO (xJ e h)];exact e⟩
theorem Purse.ne {p l:Addr}{H:Hp} (a:Purse H p) (h:H l=none):l≠p:=by
 obtain ⟨x,y,z,e⟩:=a
 exact (xJ e h).symm
theorem Go.new {p l:Addr} {H H1:Hp}{o:HO} (a:Go p H H1) (h:H1 l=none):Go p H (upd H1 l o):=⟨a.1.trans (But.new h),a.2.new h⟩
theorem Purse.tup {p t:Addr}{H:Hp}{xs:List V} (a:Purse H p) (h:H t=some (.tup xs)):t≠p:=by
 obtain ⟨x,y,z,e⟩:=a
 exact wa h e (by intro z;cases z)
def Tups (H H':Hp):Prop:=∀ b xs,H b=some (.tup xs)->H' b=some (.tup xs)
theorem Tups.trans {H H1 H2:Hp} (a:Tups H H1) (b:Tups H1 H2):Tups H H2:=λc u h=>b c u (a c u h)
theorem Go.tups {p:Addr}{H H':Hp} (a:Go p H H') (h:Purse H p):Tups H H':=λb xs e=>a.1 b _ (h.tup e) e
theorem Tups.new {l:Addr}{H:Hp}{o:HO} (h:H l=none):Tups H (upd H l o):=λb u e=>by rw [xO (xJ e h)];exact e
theorem Tups.set {l:Addr}{H:Hp}{xs:List V}{o:HO} (h:H l=some (.lst xs)):Tups H (upd H l o):=λb u e=>by rw [xO (wa e h (by intro z;cases z))];exact e
theorem Tups.same {H H':Hp} (h:Same H H'):Tups H H':=λb u e=>h b _ e
structure M4 where
 lo:Int
 hi:Int
 t:Int
 m:Int
def M4.vs (r:M4):List V:=[.int r.lo,.int r.hi,.int r.t,.int r.m]
def apart (a b:M4):Prop:=a.lo≠b.lo/\a.lo≠b.hi/\a.hi≠b.lo/\a.hi≠b.hi
structure Good (w:Int) (ms:List M4):Prop where
 few:ms.length<=60
 each:∀ r∈ms,0<=r.lo/\r.lo < r.hi/\r.hi < w/\1<=r.t/\r.t<=1000000000/\1<=r.m/\r.m<=99
 order:ms.Pairwise λa b=>a.t < b.t\/(a.t=b.t/\a.lo < b.lo/\apart a b)
def RowsAt (H:Hp) (ps:List (Addr×M4)):Prop:=∀ a∈ps,H a.1=some (.tup a.2.vs)
structure BookAt (H:Hp) (b:Addr) (rooms:List Int) (tr tm:Addr) (ps:List (Addr×M4)):Prop where
 book:H b=some (.tup [.ref tr,.ref tm])
 rooms:H tr=some (.tup (rooms.map V.int))
 meets:H tm=some (.tup (ps.map λa=>V.ref a.1))
 rows:RowsAt H ps
theorem RowsAt.tups {H H':Hp}{ps:List (Addr×M4)} (a:RowsAt H ps) (t:Tups H H'):RowsAt H' ps:=λx hx=>t _ _ (a x hx)
theorem BookAt.tups {H H':Hp}{b tr tm:Addr}{rooms:List Int}{ps:List (Addr×M4)} (a:BookAt H b rooms tr tm ps) (t:Tups H H'):BookAt H' b rooms tr tm ps:=
 ⟨t _ _ a.book,t _ _ a.rooms,t _ _ a.meets,a.rows.tups t⟩
def spPurse (K:PySem.W.Frag):Sp:=λvs H Q _=>∃ (a:Addr) (ns:List Int) (k:Nat),vs=[.ref a,.int k]/\SqL K H a (ns.map V.int)/\k < 1000/\∀ p H',H p=none->Purse H' p->Same H H'->Q (.ref p) H'
def spTake:Sp:=λvs H Q _=>∃ p n,vs=[.ref p,.int n]/\0 < n/\n < 2 ^ 200/\Purse H p/\∀ d H',0<=d->d < n->Go p H H'->Q (.int d) H'
def spRooms:Sp:=λvs H Q _=>∃ p,∃ n:Nat,vs=[.ref p,.int n]/\n<=1000/\Purse H p/\∀ (t:Addr) (rooms:List Int) (H':Hp),Go p H H'->H' t=some (.tup (rooms.map V.int))->rooms.length=n->(∀ r∈rooms,(0:Int)<=r/\r<=99)->Q (.ref t) H'
def spStep:Sp:=λvs H Q _=>∃ p,vs=[.ref p]/\Purse H p/\∀ d H',0<=d->d<=16000000->Go p H H'->Q (.int d) H'
def spMeetings:Sp:=λvs H Q _=>∃ p,∃ w:Int,∃ n:Nat,vs=[.ref p,.int w,.int n]/\n<=60/\w < 1000/\(n=0\/2<=w)/\Purse H p /\
 ∀ (t:Addr) (ps:List (Addr×M4)) (H':Hp),Go p H H'->H' t=some (.tup (ps.map λa=>V.ref a.1))->RowsAt H' ps->Good w (ps.map (·.2))->ps.length=n->Q (.ref t) H'
def spBook:Sp:=λvs H Q _=>∃ p,∃ a:Int,∃ n:Nat,vs=[.ref p,.int a,.int n]/\1<=a/\a<=100/\n<=60/\Purse H p /\
 ∀ (b:Addr) (rooms:List Int) (tr tm:Addr) (ps:List (Addr×M4)) (H':Hp),Go p H H'->BookAt H' b rooms tr tm ps->1<=rooms.length->(rooms.length:Int)<=a->(∀ r∈rooms,(0:Int)<=r/\r<=99)->Good rooms.length (ps.map (·.2))->ps.length<=n->Q (.ref b) H'
theorem iteD {c A B:Prop} [Decidable c] (h1:c->A) (h2:¬ c->B):if decide c=true then A else B:=by
 by_cases h:c
 ·rw [if_pos (decide_eq_true h)];exact h1 h
 ·rw [if_neg (by simpa using h)];exact h2 h
theorem iteB0 {c:Bool}{A B:Prop} (hc:c=false) (h:B):if c=true then A else B:=by
 rw [if_neg (by rw [hc];exact zM)];exact h
theorem iteB1 {c:Bool}{A B:Prop} (hc:c=true) (h:A):if c=true then A else B:=by
 rw [if_pos hc];exact h
theorem iteB {c:Bool}{A B:Prop} (h1:c=true->A) (h2:c=false->B):if c=true then A else B:=by
 cases c with
 | true=>exact h1 rfl
 | false=>exact h2 rfl
theorem iteNS2 {c A B:Prop} [Decidable c] (hc:c) (h:B):if (!decide c)=true then A else B:=iteNS hc h
theorem xK {H:Hp}{p:Addr}{o:HO} (h:H p=none):Same H (upd H p o):=λb u e=>by
 rw [xO (xJ e h)];exact e
def M4.row (r:M4):List Int:=[r.t,r.lo,r.hi,r.m]
structure FOk (w when':Int) (bs:List Int) (fs:List (Addr×M4)):Prop where
 each:∀ a∈fs,0<=a.2.lo/\a.2.lo < a.2.hi/\a.2.hi < w/\1<=a.2.t/\a.2.t<=when'/\1<=a.2.m/\a.2.m<=99
 pw:fs.Pairwise λa b=>a.2.t=b.2.t->apart a.2 b.2
 bz:∀ a∈fs,a.2.t=when'->a.2.lo∈bs/\a.2.hi∈bs
theorem FOk.step {w wh gap one other m:Int}{bs bs':List Int}{fs:List (Addr×M4)}{a:Addr} (F:FOk w wh bs fs) (h1:1<=wh) (g0:0<=gap) (o0:0<=one) (o1:one < w) (p0:0<=other) (p1:other < w) (ne:one≠other)
  (m0:1<=m) (m1:m<=99) (hg:gap=0->one ∉ bs/\other ∉ bs) (hb:∀ x∈bs,gap=0->x∈bs') (hb1:one∈bs') (hb2:other∈bs') :
  FOk w (wh + gap) bs' (fs++[(a,⟨if other < one then other else one,if other > one then other else one,wh + gap,m⟩)]):=by
 refine ⟨λb hb=>?_,?_,λb hm e=>?_⟩
 ·rcases zS.mp hb with h | h
  ·obtain ⟨a1,a2,a3,a4,a5,a6,a7⟩:=F.each b h
   exact ⟨a1,a2,a3,a4,by omega,a6,a7⟩
  ·cases zH.mp h
   by_cases c:other < one
   ·rw [if_pos c,if_neg (by omega)];exact ⟨p0,c,o1,by show 1<=wh + gap;omega,zX _,m0,m1⟩
   ·rw [if_neg c,if_pos (by omega)];exact ⟨o0,by show one < other;omega,p1,by show 1<=wh + gap;omega,zX _,m0,m1⟩
 ·rw [z4]
  refine ⟨F.pw,zv _ _,λb hb c hc e=>?_⟩
  cases zH.mp hc
  have e':b.2.t=wh + gap:=e
  obtain ⟨a1,a2,a3,a4,a5,a6,a7⟩:=F.each b hb
  have g:gap=0:=by omega
  obtain ⟨x1,x2⟩:=F.bz b hb (by omega)
  obtain ⟨n1,n2⟩:=hg g
  have q1:b.2.lo≠one:=λz=>n1 (z ▸ x1)
  have q2:b.2.lo≠other:=λz=>n2 (z ▸ x1)
  have q3:b.2.hi≠one:=λz=>n1 (z ▸ x2)
  have q4:b.2.hi≠other:=λz=>n2 (z ▸ x2)
  unfold apart
  dsimp only
  by_cases c:other < one
  ·rw [if_pos c,if_neg (by omega)];exact ⟨q2,q1,q4,q3⟩
  ·rw [if_neg c,if_pos (by omega)];exact ⟨q1,q2,q3,q4⟩
 ·rcases zS.mp hm with h | h
  ·obtain ⟨a1,a2,a3,a4,a5,a6,a7⟩:=F.each b h
   obtain ⟨x1,x2⟩:=F.bz b h (by omega)
   exact ⟨hb _ x1 (by omega),hb _ x2 (by omega)⟩
  ·cases zH.mp h
   by_cases c:other < one
   ·rw [if_pos c,if_neg (by omega)];exact ⟨hb2,hb1⟩
   ·rw [if_neg c,if_pos (by omega)];exact ⟨hb1,hb2⟩
def M4.late (l:Int) (r:M4):M4:=⟨r.lo,r.hi,r.t + l,r.m⟩
theorem FOk.good {w wh l:Int}{bs:List Int}{fs qs:List (Addr×M4)} (F:FOk w wh bs fs) (n:fs.length<=60) (l0:0<=l) (l1:fs≠[]->wh + l<=1000000000) (p:qs.Perm fs) (s:qs.Pairwise λa b=>lx b.2.row a.2.row=false) :
  Good w (qs.map λa=>a.2.late l):=by
 refine ⟨by rw [zA,p.length_eq];exact n,λr hr=>?_,?_⟩
 ·obtain ⟨a,ha,rfl⟩:=zI.mp hr
  have hm:=p.mem_iff.mp ha
  obtain ⟨a1,a2,a3,a4,a5,a6,a7⟩:=F.each a hm
  have:=l1 (List.ne_nil_of_mem hm)
  unfold M4.late
  exact ⟨a1,a2,a3,by show 1<=a.2.t + l;omega,by show a.2.t + l<=1000000000;omega,a6,a7⟩
 ·rw [zz]
  have ap:qs.Pairwise λa b=>a.2.t=b.2.t->apart a.2 b.2:=(List.Perm.pairwise_iff (λ{x y} h e=>by
   obtain ⟨a1,a2,a3,a4⟩:=h e.symm
   exact ⟨a1.symm,a3.symm,a2.symm,a4.symm⟩) p).mpr F.pw
  refine (s.and ap).imp λ{a b} ⟨h1,h2⟩=>?_
  unfold M4.late
  dsimp only
  unfold M4.row lx at h1
  by_cases e:a.2.t=b.2.t
  ·have q:=h2 e
   rw [if_pos e.symm] at h1
   unfold lx at h1
   rw [if_neg λz=>q.1 z.symm] at h1
   simp only [decide_eq_false_iff_not] at h1
   refine .inr ⟨by omega,?_,q⟩
   have:=q.1
   omega
  ·rw [if_neg λz=>e z.symm] at h1
   simp only [decide_eq_false_iff_not] at h1
   exact .inl (by omega)
def toM4 (r:List Int):M4:=⟨r.getD 1 0,r.getD 2 0,r.getD 0 0,r.getD 3 0⟩
theorem rows_back {fs:List (Addr×M4)}{qs:List (Addr×List Int)} (p:qs.Perm (fs.map λa=>(a.1,a.2.row))) (s:qs.Pairwise λa b=>lx b.2 a.2=false) :
  ∃ rs:List (Addr×M4),rs.Perm fs/\(rs.Pairwise λa b=>lx b.2.row a.2.row=false)/\qs=rs.map λa=>(a.1,a.2.row):=by
 have e:qs=(qs.map λa=>(a.1,toM4 a.2)).map λa=>(a.1,a.2.row):=by
  rw [zn]
  refine (List.map_id qs).symm.trans (yL λx hx=>?_)
  obtain ⟨a,_,rfl⟩:=zI.mp (p.mem_iff.mp hx)
  rfl
 refine ⟨qs.map λa=>(a.1,toM4 a.2),?_,?_,e⟩
 ·have:=p.map λa=>(a.1,toM4 a.2)
  rw [zn] at this
  refine this.trans (.of_eq ?_)
  refine (yL λx _=>?_).trans (List.map_id fs)
  rfl
 ·rw [e,zz] at s
  exact s
theorem flat_ints (bs:List Int):(bs.map V.int).all flatV=true:=by
 rw [yk]
 intro x hx
 obtain ⟨b,_,rfl⟩:=zI.mp hx
 rfl
theorem inV_ints {x:Int}{bs:List Int}:inV (.int x) (bs.map V.int)=decide (x∈bs):=by
 unfold inV
 induction bs with
 | nil=>rfl
 | cons b bs ih=>
  rw [zk,yr,ih]
  by_cases h:x=b
  ·subst h;simp [eqV]
  ·have h':¬ b=x:=λz=>h z.symm
   simp [eqV,h,h']
def PvM (p lf:Addr) (w:Int) (n:Nat) (H:Hp) (i:Nat) (σ:St) (H3:Hp):Prop:=
 ∃ v6 v7 v8 v9 v10 wh lb bs,∃ fs:List (Addr×M4),σ=[some (.ref p),some (.int w),some (.int n),some (.ref lf),some (.int wh),some (.ref lb),v6,v7,v8,v9,v10,none] /\
  H3 lf=some (.lst (fs.map λa=>V.ref a.1))/\H3 lb=some (.lst (List.map V.int bs))/\lb≠lf/\lb≠p/\(∀ a∈fs,H3 a.1=some (.tup (a.2.row.map V.int)))/\FOk w wh bs fs/\fs.length=i/\bs.length<=2 * i/\1<=wh/\wh<=10000000 + 16000000 * i/\Go p H H3
theorem PvM.step {p lf lb t:Addr}{w wh gap one other m:Int}{n i:Nat}{H Hx:Hp}{bs bs':List Int}{fs:List (Addr×M4)} {v6 v7 v8 v9 v10:Option V} (npf:lf≠p) (hlf:H lf=none)
  (F:FOk w wh bs fs) (lenf:fs.length=i) (lenb:bs'.length<=2 * i + 2) (wh1:1<=wh) (wh2:wh<=10000000 + 16000000 * i) (hf:Hx lf=some (.lst (fs.map λa=>V.ref a.1))) (hb:Hx lb=some (.lst (List.map V.int bs'))) (nb:lb≠lf) (nbp:lb≠p)
  (rows:∀ a∈fs,Hx a.1=some (.tup (a.2.row.map V.int))) (go:Go p H Hx) (ht:Hx t=none)
  (g0:0<=gap) (g1:gap<=16000000) (o0:0<=one) (o1:one < w) (p0:0<=other) (p1:other < w) (ne:one≠other) (m0:1<=m) (m1:m<=99) (hg:gap=0->one ∉ bs/\other ∉ bs) (hb0:∀ x∈bs,gap=0->x∈bs') (hb1:one∈bs') (hb2:other∈bs') :
  PvM p lf w n H (i + 1) [some (.ref p),some (.int w),some (.int n),some (.ref lf),some (.int (wh + gap)),some (.ref lb),v6,v7,v8,v9,v10,none]
   (upd (upd Hx t (.tup [.int (wh + gap),.int (if other < one then other else one),.int (if other > one then other else one),.int m])) lf (.lst ((fs.map λa=>V.ref a.1)++[.ref t]))):=by
 have ntf:t≠lf:=(xJ hf ht).symm
 refine ⟨v6,v7,v8,v9,v10,wh + gap,lb,bs',fs++[(t,⟨if other < one then other else one,if other > one then other else one,wh + gap,m⟩)],rfl,by rw [xI,zG];rfl,?_,nb,nbp,λa ha=>?_,F.step wh1 g0 o0 o1 p0 p1 ne m0 m1 hg hb0 hb1 hb2,by rw [zP,lenf];rfl,by omega,by omega,by omega,λb u nb e=>?_,?_⟩
 ·rw [xO nb,xO (xJ hb ht)];exact hb
 ·rcases zS.mp ha with h | h
  ·have:=rows a h
   rw [xO (wa this hf (by intro z;cases z)),xO (xJ this ht)];exact this
  ·cases zH.mp h
   rw [xO ntf,xI];rfl
 ·rw [xO (xJ e hlf),xO (xJ (go.1 b u nb e) ht)];exact go.1 b u nb e
 ·have:=go.2.new (o:=.tup [.int (wh + gap),.int (if other < one then other else one),.int (if other > one then other else one),.int m]) ht
  obtain ⟨x,y,z,e⟩:=this
  exact ⟨x,y,z,by rw [xO npf.symm];exact e⟩
theorem oth_ok {one x w:Int} (o0:0<=one) (o1:one < w) (x0:0<=x) (x1:x < w - 1):0<=(one + 1 + x) % w/\(one + 1 + x) % w < w/\one≠(one + 1 + x) % w:=by
 refine ⟨yq _ (by omega),yX _ (by omega),?_⟩
 by_cases h:one + 1 + x < w
 ·rw [Int.emod_eq_of_lt (by omega) h];omega
 ·have e:(one + 1 + x) % w=(one + 1 + x - w) % w:=by
   have:one + 1 + x=(one + 1 + x - w) + w:=by omega
   rw [this,Int.add_emod_right];congr 1;omega
  rw [e,Int.emod_eq_of_lt (by omega) (by omega)];omega
theorem Go.same {p:Addr} {H H1 H2:Hp} (a:Go p H H1) (s:Same H1 H2):Go p H H2:=⟨λb u n e=>s b u (a.1 b u n e),by obtain ⟨x,y,z,e⟩:=a.2;exact ⟨x,y,z,s _ _ e⟩⟩
theorem xl {α:Type}{f:α->V}{l:List α}{i:Nat}{x:V} (h:(l.map f)[i]?=some x):∃ r,l[i]?=some r/\x=f r:=by
 rw [zR] at h
 cases e:l[i]? with
 | none=>rw [e] at h;cases h
 | some r=>rw [e] at h;exact ⟨r,rfl,(Option.some.inj h).symm⟩
theorem xp {α:Type}{l:List α}{i:Nat}{r:α} (h:l[i]?=some r):l.take (i + 1)=l.take i++[r]:=by
 rw [List.take_add_one,h];rfl
theorem But.same {p:Addr} {H H1 H2:Hp} (hp:H p=none) (s:Same H H1) (g:But p H1 H2):Same H H2:=λb u e=>g b u (xJ e hp) (s b u e)
theorem Same.put {l:Addr}{H H':Hp}{o:HO} (h:H l=none) (s:Same H H'):Same H (upd H' l o):=λb u e=>by rw [xO (xJ e h)];exact s b u e
theorem BookAt.same {H H':Hp}{b tr tm:Addr}{rooms:List Int}{ps:List (Addr×M4)} (a:BookAt H b rooms tr tm ps) (t:Same H H'):BookAt H' b rooms tr tm ps:=a.tups (Tups.same t)
theorem tyS_lst {H:Hp}{l:Addr}{xs:List V} (h:H l=some (.lst xs)):tyS H (.ref l)=some "list" := by simp only [tyS,h]
def spWhole:Sp:=λvs H Q _=>∃ x t,vs=[x]/\tyS H x=some t/\Q (.bl (t == "int")) H
def inB (lo hi:Int):V->Bool
 | .int i=>decide (lo<=i) && decide (i<=hi)
 | _=>false
def spWithin:Sp:=λvs H Q _=>∃ x t lo hi,vs=[x,.int lo,.int hi]/\tyS H x=some t/\Q (.bl (inB lo hi x)) H
def spTime:Sp:=λvs H Q _=>∃ x t,vs=[x]/\tyS H x=some t/\Q (.bl (inB 0 1000000000 x)) H
theorem tyS_int {H:Hp}{x:V} (h:tyS H x=some "int"):∃ i,x=.int i:=by
 cases x with
 | int i=>exact ⟨i,rfl⟩
 | ref a=>
  unfold tyS at h
  dsimp only at h
  split at h <;> simp at h
 | _=>simp [tyS] at h
theorem inB_no {H:Hp}{x:V}{t:String}{lo hi:Int} (h:tyS H x=some t) (n:¬ t = "int"):inB lo hi x=false:=by
 cases x with
 | int i=>simp [tyS] at h;exact absurd h.symm n
 | _=>rfl
def hasW (w:Int) (r:M4):Bool:=decide (r.lo=w) || decide (r.hi=w)
def numsTo (ms:List M4) (w:Int):Nat->List Int
 | 0=>[]
 | i + 1=>numsTo ms w i++(if (ms[i]?).any (hasW w)=true then [(i:Int)] else [])
theorem numsTo_len (ms:List M4) (w:Int):∀ i,(numsTo ms w i).length<=i
 | 0=>zD _
 | i + 1=>by
  have:=numsTo_len ms w i
  unfold numsTo
  rw [zP]
  split <;> simp <;> omega
theorem numsTo_yes {ms:List M4}{w:Int}{i:Nat}{r:M4} (hm:ms[i]?=some r) (h:hasW w r=true):numsTo ms w (i + 1)=numsTo ms w i++[(i:Int)]:=by
 conv=>lhs;unfold numsTo
 rw [hm]
 simp [h]
theorem numsTo_no {ms:List M4}{w:Int}{i:Nat}{r:M4} (hm:ms[i]?=some r) (h:hasW w r=false):numsTo ms w (i + 1)=numsTo ms w i:=by
 conv=>lhs;unfold numsTo
 rw [hm]
 simp [h]
theorem inV_two {w a b:Int}:inV (.int w) [.int a,.int b]=(decide (a=w) || decide (b=w)):=by
 simp only [inV,eqV,yr,List.any_nil,Bool.or_false]
 rfl
def spMeetingsOf:Sp:=λvs H Q _=>∃ b w rooms tr tm ps,vs=[.ref b,.int w]/\BookAt H b rooms tr tm ps/\ps.length<=1000/\∀ l H',H l=none->Same H H'->H' l=some (.lst ((numsTo (ps.map (·.2)) w ps.length).map V.int))->Q (.ref l) H'
end Sm
namespace Sm
open PySem L2 SmSort
theorem Good.len {w:Int}{ps:List (Addr×M4)} (g:Good w (ps.map (·.2))):ps.length<=60:=by simpa using g.few
theorem Good.at {w:Int}{ps:List (Addr×M4)} (g:Good w (ps.map (·.2))) {r:Addr×M4} (h:r∈ps):0<=r.2.lo/\r.2.lo < r.2.hi/\r.2.hi < w/\1<=r.2.t/\r.2.t<=1000000000/\1<=r.2.m/\r.2.m<=99:=g.each _ (zI.mpr ⟨r,h,rfl⟩)
end Sm
namespace L2
open PySem PySem.Spec PyProof.Rows
end L2
namespace L2
open PySem PySem.Spec PyProof.Rows
section
variable {X:Cx}
theorem op_notB:OpR X (compareOp .IsNot) (λx y H Q=>∃ c d,x=.bl c/\y=.bl d/\Q (.bl (c != d)) H):=by
 intro pins s σ H x y v u Q I rx ry h
 obtain ⟨c,d,rfl,rfl,q⟩:=h
 cases rx;cases ry
 exact isnot_bool ⟨.bl _,H,I,rfl,q⟩
def oV:Option Int->V
 | none=>.non
 | some i=>.int i
theorem all_range {n:Nat}{e:Nat->Bool}{b:Bool} (h:(∀ j,j < n->e j=true)↔b=true):(List.range n).all e=b:=by
 cases b with
 | true=>rw [yk];intro j hj;exact h.mpr rfl j (zY.mp hj)
 | false=>
  cases c:(List.range n).all e with
  | false=>rfl
  | true=>exact absurd (h.mp λj hj=>yk.mp c j (zY.mpr hj)) (by simp)
end
end L2
namespace Sm
open PySem L2 SmSort
def Th (H:Hp) (x:V) (r:Option (List V)):Prop:=
 (∃ t,tyS H x=some t/\t ≠ "tuple" /\ r=none)\/(∃ a xs,x=.ref a/\H a=some (.tup xs)/\(∀ e∈xs,∃ t,tyS H e=some t)/\r=some xs)
def isLet (w:Int):Option (List V)->Bool
 | some [a,b,c,d]=>inB 0 (w - 1) a && (inB 0 1000000000 b && (inB 0 (w - 1) c && inB 0 1000000000 d))
 | _=>false
def spIsWalker:Sp:=λvs H Q _=>∃ b x t rooms tr tm ps,vs=[.ref b,x]/\BookAt H b rooms tr tm ps/\tyS H x=some t/\Q (.bl (inB 0 ((rooms.length:Int) - 1) x)) H
def spIsLetter:Sp:=λvs H Q _=>∃ b x r rooms tr tm ps,vs=[.ref b,x]/\BookAt H b rooms tr tm ps/\Th H x r/\Q (.bl (isLet rooms.length r)) H
theorem tyS_tup {H:Hp}{l:Addr}{xs:List V} (h:H l=some (.tup xs)):tyS H (.ref l)=some "tuple" := by simp only [tyS,h]
theorem ixN_nat {n k:Nat} (h:k < n):ixN n (k:Int)=some k:=by
 unfold ixN
 rw [if_pos (by omega),if_pos (by omega)];simp
end Sm
namespace L2
open PySem PySem.Spec PyProof.Rows
theorem pick_to {α:Type} (l:List α):∀ n,n<=l.length->(List.range n).filterMap (λk=>l[k]?)=l.take n
 | 0,_=>by simp
 | n + 1,h=>by
  have hn:n < l.length:=h
  rw [List.range_succ,List.filterMap_append,pick_to l n (by omega),List.take_add_one]
  simp [hn]
theorem fm_congr {α β:Type}{f g:α->Option β}:∀ {l:List α},(∀ x∈l,f x=g x)->l.filterMap f=l.filterMap g
 | [],_=>rfl
 | x::l,h=>by
  rw [yf,yf,h x (.head _),fm_congr λy hy=>h y (.tail _ hy)]
theorem rev_pick {α:Type} (l:List α):((List.range l.length).map λk:Nat=>((l.length:Int) - 1 + -1 * (k:Int)).toNat).filterMap (λj=>l.toArray[j]?)=l.reverse:=by
 rw [List.filterMap_map]
 have h:=pick_to l.reverse l.length (by simp)
 rw [show l.reverse.take l.length=l.reverse from by rw [<-yg];exact zf] at h
 rw [<-h]
 refine fm_congr λk hk=>?_
 have hk':=zY.mp hk
 have e:((l.length:Int) - 1 + -1 * (k:Int)).toNat=l.length - 1 - k:=by omega
 show l.toArray[((l.length:Int) - 1 + -1 * (k:Int)).toNat]?=_
 rw [e,List.getElem?_reverse hk']
 simp
theorem slicePick_rev (its:List Value):slicePick its.toArray none none (some (-1))=its.reverse.toArray:=by
 unfold slicePick
 have e:sliceBounds none none (some (-1)) its.toArray.size=((its.length:Int) - 1,-1,-1):=by
  unfold sliceBounds
  simp
 rw [e]
 have r:sliceRange ((its.length:Int) - 1) (-1) (-1)=(List.range its.length).map λk:Nat=>((its.length:Int) - 1 + -1 * (k:Int)).toNat:=by
  unfold sliceRange
  have c:(if (-1:Int) > 0 then (if (its.length:Int) - 1 < -1 then (-1 - ((its.length:Int) - 1) + -1 - 1) / -1 else 0) else (if (its.length:Int) - 1 > -1 then ((its.length:Int) - 1 - -1 - -1 - 1) / (- -1) else 0))=(its.length:Int):=by
   rw [if_neg (by decide)]
   have e1:(- -1:Int)=1:=by decide
   rw [e1,Int.ediv_one]
   split <;> omega
  simp only [c]
  simp
 rw [r]
 exact congrArg List.toArray (rev_pick its)
section
variable {X:Cx}{e:Expr}{te:TE} {pos p2 p3 p4:Pos}{j:Nat}
def tRevL (K:PySem.W.Frag) (te:TE):TE:=fun σ H Q=>te σ H λx H1=>∃ a xs,x=.ref a/\SqL K H1 a xs/\∀ p,H1 p=none->Q (.ref p) (upd H1 p (.lst xs.reverse))
theorem pe_revL {K:PySem.W.Frag} (hK:X.K=K) (he:PE X e te):PE X (.Subscript e (.Slice none none (some (.UnaryOp .USub (.Constant (.int 1) j p4) p3)) p2) pos) (tRevL K te):=by
 subst hK
 intro pins s σ H Q I h
 refine Subscript_ (thn (he pins s σ H _ I h) λv s1 ⟨x,H1,I1,r1,q1⟩=>?_)
 have st:PO X (some (.UnaryOp .USub (.Constant (.int 1) j p4) p3)) (tPart (tUn (rU λi=>.int (-i)) (tC (.int 1)))):=po_some (pe_un un_neg xL)
 refine wpAny_Slice ?_
 rw [evalPart_none]
 refine wpAny_pure (wpAny_pure ?_)
 refine thn (st pins s1 σ H1 (λo H'=>o=some (-1)/\H'=H1) I1 ⟨1,rfl,-1,rfl,rfl,rfl⟩) λvs s3 h3=>?_
 obtain ⟨o,H',I3,ps,rfl,rfl⟩:=h3
 have I4:Inv X pins σ H' { s3 with heap:=s3.heap.push { cls:=.type "slice", data:=.fields #[.none,.none,vs] } }:=I3.kept (t':=s3.toks) λb ob q=>Heap.get?_push_of_some _ q
 obtain ⟨a,xs,rfl,hx,q⟩:=q1
 cases r1
 obtain ⟨its,r,ht,hz⟩:=I4.list hx
 have hlen:=r.length
 show wpAny (model X.prog X.w) X.A (subscriptTail e (.Slice none none (some (.UnaryOp .USub (.Constant (.int 1) j p4) p3)) p2) (.ref a) (.ref s3.heap.objs.size)) (EP X pins σ Q) X.xe { s3 with heap:=s3.heap.push { cls:=.type "slice", data:=.fields #[.none,.none,vs] } }
 refine tail_any (ops:=[.ref a,.ref s3.heap.objs.size]) ht.isList.typeIs slot_list_getitem.lookup ?_ (by with_unfolding_all rfl)
 refine wpAny_getItem_list_slice ht.isList (Heap.IsSliceOf.new ..) .none .none ps (by simp) ?_ (by rw [zN] <;> omega)
 rw [slicePick_rev]
 refine ⟨.ref _,_,I4.laid (t':=s3.toks) (o:=.lst xs.reverse) (λb ob q=>Heap.get?_push_of_some _ q) (zD _) ?_,rfl,q _ (I4.hok.fresh (zD _))⟩
 exact ⟨by rw [yg];exact hz,_,0,r.reverse,Heap.get?_push_size _ rfl⟩
end
end L2
namespace Sm
open PySem L2 SmSort
abbrev Fn:=Nat->Option Int
def put (f:Fn) (k:Nat) (x:Option Int):Fn:=λi=>if i=k then x else f i
theorem xk {f:Fn}{k:Nat}{x:Option Int}:put f k x k=x:=by unfold put;rw [if_pos rfl]
theorem xt {f:Fn}{k i:Nat}{x:Option Int} (h:i≠k):put f k x i=f i:=by unfold put;rw [if_neg h]
def lone (k:Nat) (x:Int):Fn:=λi=>if i=k then some x else none
def below (o:Option Int) (t:Int):Bool:=match o with
 | some y=>decide (y < t)
 | none=>false
def from' (o:Option Int) (t:Int):Bool:=match o with
 | some y=>decide (t<=y)
 | none=>false
theorem below_iff {o:Option Int}{t:Int}:below o t=true↔∃ y,o=some y/\y < t:=by
 cases o <;> simp [below]
theorem from_iff {o:Option Int}{t:Int}:from' o t=true↔∃ y,o=some y/\t<=y:=by
 cases o <;> simp [from']
def upto (o:Option Int) (t:Int):Bool:=match o with
 | some y=>decide (y<=t)
 | none=>false
theorem upto_iff {o:Option Int}{t:Int}:upto o t=true↔∃ y,o=some y/\y<=t:=by
 cases o <;> simp [upto]
structure W3 where
 g:Nat
 o:Nat
 t:Int
def two (m:M4):List W3:=[⟨m.lo.toNat,m.hi.toNat,m.t⟩,⟨m.hi.toNat,m.lo.toNat,m.t⟩]
def ways2 (ms:List M4):List W3:=ms.flatMap two
def fstep (st:Fn) (x:W3):Fn:=if st x.o=none/\below (st x.g) x.t=true then put st x.o (some x.t) else st
def bstep (lf:Fn) (x:W3):Fn:=if lf x.g=none/\from' (lf x.o) x.t=true then put lf x.g (some (x.t - 1)) else lf
def fwd (ms:List M4) (st:Fn):Fn:=(ways2 ms).foldl fstep st
def bwd (ms:List M4) (wish:Nat) (last:Int):Fn:=(ways2 ms).reverse.foldl bstep (lone wish last)
theorem fwd_cons (m:M4) (ms:List M4) (st:Fn):fwd (m::ms) st=fwd ms (fstep (fstep st ⟨m.lo.toNat,m.hi.toNat,m.t⟩) ⟨m.hi.toNat,m.lo.toNat,m.t⟩):=by
 unfold fwd ways2
 rw [yd,yR]
 rfl
theorem bwd_cons (m:M4) (ms:List M4) (wish:Nat) (last:Int):bwd (m::ms) wish last=bstep (bstep (bwd ms wish last) ⟨m.hi.toNat,m.lo.toNat,m.t⟩) ⟨m.lo.toNat,m.hi.toNat,m.t⟩:=by
 unfold bwd ways2
 rw [yd,List.reverse_append,yR]
 rfl
theorem wO {st:Fn}{x:W3}{i:Nat}{y:Int} (h:st i=some y):fstep st x i=some y:=by
 unfold fstep
 split
 ·rename_i c
  by_cases e:i=x.o
  ·rw [e,c.1] at h;cases h
  ·rw [xt e];exact h
 ·exact h
theorem way_iff {st lf:Fn}{x:W3}{wish:Nat}{last:Int} (hw:lf wish=some last) (hl:∀ i y,lf i=some y->y<=last/\(i=wish\/x.t - 1<=y))
  (hs:∀ i y,st i=some y->y<=x.t\/∀ j,st j≠none->j=i) (ne:x.g≠x.o) :
  (∃ i a b,fstep st x i=some a/\lf i=some b/\a<=b)↔(∃ i a b,st i=some a/\bstep lf x i=some b/\a<=b):=by
 constructor
 ·rintro ⟨i,a,b,h1,h2,h3⟩
  have keep:∀ j z,lf j=some z->bstep lf x j=some z:=λj z h=>by
   unfold bstep
   split
   ·rename_i c
    rw [xt λe=>by rw [e,c.1] at h;cases h];exact h
   ·exact h
  unfold fstep at h1
  split at h1
  ·rename_i c
   by_cases e:i=x.o
   ·subst e
    rw [xk] at h1
    cases h1
    obtain ⟨y,hy,ylt⟩:=below_iff.mp c.2
    cases hg:lf x.g with
    | none=>
     refine ⟨x.g,y,x.t - 1,hy,?_,by omega⟩
     unfold bstep
     rw [if_pos ⟨hg,from_iff.mpr ⟨b,h2,h3⟩⟩,xk]
    | some z=>
     refine ⟨x.g,y,z,hy,keep _ _ hg,?_⟩
     rcases (hl _ _ hg).2 with e | e
     ·rw [e,hw] at hg;cases hg
      have:=(hl _ _ h2).1
      omega
     ·omega
   ·rw [xt e] at h1
    exact ⟨i,a,b,h1,keep _ _ h2,h3⟩
  ·exact ⟨i,a,b,h1,keep _ _ h2,h3⟩
 ·rintro ⟨i,a,b,h1,h2,h3⟩
  unfold bstep at h2
  split at h2
  ·rename_i c
   by_cases e:i=x.g
   ·subst e
    rw [xk] at h2
    cases h2
    obtain ⟨y,hy,ylt⟩:=from_iff.mp c.2
    cases ho:st x.o with
    | none=>
     refine ⟨x.o,x.t,y,?_,hy,ylt⟩
     unfold fstep
     rw [if_pos ⟨ho,below_iff.mpr ⟨a,h1,by omega⟩⟩,xk]
    | some z=>
     refine ⟨x.o,z,y,wO ho,hy,?_⟩
     rcases hs _ _ ho with e | e
     ·omega
     ·exact absurd (e x.g (by rw [h1];simp)) ne
   ·rw [xt e] at h2
    exact ⟨i,a,b,wO h1,h2,h3⟩
  ·exact ⟨i,a,b,wO h1,h2,h3⟩
theorem bstep_inv {lf:Fn}{x:W3}{wish:Nat}{last:Int} (hw:lf wish=some last) (hl:∀ i y,lf i=some y->y<=last/\(i=wish\/x.t - 1<=y)) :
  bstep lf x wish=some last/\∀ i y,bstep lf x i=some y->y<=last/\(i=wish\/x.t - 1<=y):=by
 unfold bstep
 split
 ·rename_i c
  obtain ⟨z,hz,zt⟩:=from_iff.mp c.2
  refine ⟨by rw [xt λe=>by rw [<-e,hw] at c;cases c.1];exact hw,λi y h=>?_⟩
  by_cases e:i=x.g
  ·rw [e,xk] at h;cases h
   have:=(hl _ _ hz).1
   exact ⟨by omega,.inr (by omega)⟩
  ·rw [xt e] at h;exact hl i y h
 ·exact ⟨hw,hl⟩
theorem fstep_inv {st:Fn}{x:W3} (hs:∀ i y,st i=some y->y<=x.t\/∀ j,st j≠none->j=i) (hne:x.g≠x.o):∀ i y,fstep st x i=some y->y<=x.t\/∀ j,fstep st x j≠none->j=i:=by
 unfold fstep
 split
 ·rename_i c
  obtain ⟨z,hz,zt⟩:=below_iff.mp c.2
  intro i y h
  by_cases e:i=x.o
  ·rw [e,xk] at h;cases h;exact .inl (zX _)
  ·rw [xt e] at h
   rcases hs i y h with q | q
   ·exact .inl q
   ·have:x.g=i:=q x.g (by rw [hz];simp)
    rw [<-this,hz] at h;cases h
    exact .inl (by omega)
 ·exact hs
def Ord (t:Int) (ms:List M4):Prop:=(∀ m∈ms,t<=m.t/\m.lo.toNat≠m.hi.toNat)/\ms.Pairwise λa b=>a.t<=b.t
theorem bwd_inv {wish:Nat}{last:Int}:∀ {ms:List M4}{t:Int},Ord t ms->bwd ms wish last wish=some last/\∀ i y,bwd ms wish last i=some y->y<=last/\(i=wish\/t - 1<=y)
 | [],t,_=>by
  refine ⟨by simp [bwd,ways2,lone],λi y h=>?_⟩
  simp only [bwd,ways2,List.flatMap_nil,List.reverse_nil,List.foldl_nil,lone] at h
  split at h
  ·cases h;exact ⟨zX _,.inl (by assumption)⟩
  ·cases h
 | m::ms,t,o=>by
  have o':Ord m.t ms:=⟨λx hx=>⟨(zg.mp o.2).1 x hx,(o.1 x (.tail _ hx)).2⟩,(zg.mp o.2).2⟩
  obtain ⟨a,b⟩:=bwd_inv (wish:=wish) (last:=last) o'
  rw [bwd_cons]
  obtain ⟨a1,b1⟩:=bstep_inv (x:=⟨m.hi.toNat,m.lo.toNat,m.t⟩) a b
  obtain ⟨a2,b2⟩:=bstep_inv (x:=⟨m.lo.toNat,m.hi.toNat,m.t⟩) a1 b1
  refine ⟨a2,λi y h=>?_⟩
  obtain ⟨c1,c2⟩:=b2 i y h
  have:=(o.1 m (.head _)).1
  exact ⟨c1,c2.imp id λz=>by show t - 1<=y;have:m.t - 1<=y:=z;omega⟩
theorem comes_iff {wish:Nat}{last:Int}:∀ {ms:List M4}{t:Int}{st:Fn},Ord t ms->(∀ i y,st i=some y->y<=t\/∀ j,st j≠none->j=i) ->
  ((∃ x,fwd ms st wish=some x/\x<=last)↔∃ i a b,st i=some a/\bwd ms wish last i=some b/\a<=b)
 | [],t,st,_,_=>by
  simp only [fwd,bwd,ways2,List.flatMap_nil,List.reverse_nil,List.foldl_nil,lone]
  constructor
  ·rintro ⟨x,h,le⟩;exact ⟨wish,x,last,h,by simp,le⟩
  ·rintro ⟨i,a,b,h1,h2,h3⟩
   split at h2
   ·rename_i e;subst e;cases h2;exact ⟨a,h1,h3⟩
   ·cases h2
 | m::ms,t,st,o,hs=>by
  have o':Ord m.t ms:=⟨λx hx=>⟨(zg.mp o.2).1 x hx,(o.1 x (.tail _ hx)).2⟩,(zg.mp o.2).2⟩
  obtain ⟨t0,ne⟩:=o.1 m (.head _)
  have hs0:∀ i y,st i=some y->y<=m.t\/∀ j,st j≠none->j=i:=λi y h=>(hs i y h).imp (λz=>by omega) id
  have hs1:=fstep_inv (x:=⟨m.lo.toNat,m.hi.toNat,m.t⟩) hs0 ne
  have hs2:=fstep_inv (x:=⟨m.hi.toNat,m.lo.toNat,m.t⟩) hs1 ne.symm
  obtain ⟨a,b⟩:=bwd_inv (wish:=wish) (last:=last) o'
  obtain ⟨a1,b1⟩:=bstep_inv (x:=⟨m.hi.toNat,m.lo.toNat,m.t⟩) a b
  rw [fwd_cons,bwd_cons,comes_iff o' hs2]
  rw [way_iff (x:=⟨m.hi.toNat,m.lo.toNat,m.t⟩) a b hs1 ne.symm]
  exact way_iff (x:=⟨m.lo.toNat,m.hi.toNat,m.t⟩) a1 b1 hs0 ne
theorem comes_lone {ms:List M4}{t:Int}{v wish:Nat}{s last:Int} (o:Ord t ms):(∃ x,fwd ms (lone v s) wish=some x/\x<=last)↔∃ b,bwd ms wish last v=some b/\s<=b:=by
 rw [comes_iff o]
 ·constructor
  ·rintro ⟨i,a,b,h1,h2,h3⟩
   unfold lone at h1
   split at h1
   ·rename_i e;subst e;cases h1;exact ⟨b,h2,h3⟩
   ·cases h1
  ·rintro ⟨b,h1,h2⟩
   exact ⟨v,s,b,by simp [lone],h1,h2⟩
 ·intro i y h
  refine .inr λj hj=>?_
  unfold lone at h hj
  by_cases e:i=v
  ·by_cases e':j=v
   ·rw [e,e']
   ·rw [if_neg e'] at hj;exact absurd rfl hj
  ·rw [if_neg e] at h;cases h
theorem Good.ord {w:Int}{ms:List M4} (g:Good w ms):Ord 1 ms:=by
 refine ⟨λm hm=>?_,g.order.imp λh=>?_⟩
 ·obtain ⟨a1,a2,a3,a4,_⟩:=g.each m hm
  exact ⟨a4,by omega⟩
 ·rcases h with h | h
  ·omega
  ·omega
theorem comes_eq {ms:List M4}{t:Int}{v wish:Nat}{s last:Int} (o:Ord t ms):upto (fwd ms (lone v s) wish) last=from' (bwd ms wish last v) s:=by
 rw [yo,upto_iff,from_iff]
 exact comes_lone o
def rep (n:Nat) (f:Fn):List (Option Int):=(List.range n).map f
theorem xy (n:Nat) (f:Fn):(rep n f).length=n:=by simp [rep]
theorem rep_get {n k:Nat}{f:Fn} (h:k < n):(rep n f)[k]?=some (f k):=by simp [rep,h]
theorem rep_at {n k:Nat}{f:Fn} (h:k < n):((rep n f).map oV)[k]?=some (oV (f k)):=by rw [zR,rep_get h];rfl
theorem rep_set {n k:Nat}{f:Fn}{x:Option Int} (h:k < n):(rep n f).set k x=rep n (put f k x):=by
 apply List.ext_getElem?
 intro i
 rw [List.getElem?_set]
 by_cases e:k=i
 ·subst e
  rw [if_pos rfl,if_pos (by rw [xy];exact h),rep_get h,xk]
 ·rw [if_neg e]
  by_cases hi:i < n
  ·rw [rep_get hi,rep_get hi,xt λz=>e z.symm]
  ·rw [yA (by rw [xy];omega),yA (by rw [xy];omega)]
structure W4 where
 n:Nat
 w:W3
def W4.vs (x:W4):List V:=[.int x.n,.int x.w.g,.int x.w.o,.int x.w.t]
def waysN (ms:List M4):Nat->List W4
 | 0=>[]
 | i + 1=>waysN ms i++(match ms[i]? with
  | some m=>[⟨i,⟨m.lo.toNat,m.hi.toNat,m.t⟩⟩,⟨i,⟨m.hi.toNat,m.lo.toNat,m.t⟩⟩]
  | none=>[])
theorem waysN_succ {ms:List M4}{i:Nat}{m:M4} (h:ms[i]?=some m):waysN ms (i + 1)=waysN ms i++[⟨i,⟨m.lo.toNat,m.hi.toNat,m.t⟩⟩,⟨i,⟨m.hi.toNat,m.lo.toNat,m.t⟩⟩]:=by
 conv=>lhs;unfold waysN
 rw [h]
theorem waysN_take (ms:List M4):∀ i,i<=ms.length->(waysN ms i).map (·.w)=ways2 (ms.take i)
 | 0,_=>by simp [waysN,ways2]
 | i + 1,h=>by
  have hi:i < ms.length:=h
  have e:ms[i]?=some ms[i]:=by simp [hi]
  rw [waysN_succ e,zG,waysN_take ms i (by omega),xp e]
  unfold ways2
  rw [List.flatMap_append]
  rfl
theorem waysN_all (ms:List M4):(waysN ms ms.length).map (·.w)=ways2 ms:=by rw [waysN_take ms _ (zD _),zf]
theorem ways2_len (ms:List M4):(ways2 ms).length=2 * ms.length:=by
 induction ms with
 | nil=>rfl
 | cons m ms ih=>
  have:ways2 (m::ms)=two m++ways2 ms:=by unfold ways2;rw [yd]
  rw [this,zP,ih,za]
  show 2 + _=_
  omega
theorem wR {w:Int}{ms:List M4} (g:Good w ms) {x:W3} (h:x∈ways2 ms):(x.g:Int) < w/\(x.o:Int) < w/\1<=x.t/\x.t<=1000000000/\x.g≠x.o:=by
 unfold ways2 at h
 obtain ⟨m,hm,hx⟩:=yl.mp h
 obtain ⟨a1,a2,a3,a4,a5,_⟩:=g.each m hm
 unfold two at hx
 simp only [zF,zi,or_false] at hx
 rcases hx with rfl | rfl
 ·exact ⟨by show (m.lo.toNat:Int) < w;omega,by show (m.hi.toNat:Int) < w;omega,a4,a5,by show m.lo.toNat≠m.hi.toNat;omega⟩
 ·exact ⟨by show (m.hi.toNat:Int) < w;omega,by show (m.lo.toNat:Int) < w;omega,a4,a5,by show m.hi.toNat≠m.lo.toNat;omega⟩
theorem oV_non {o:Option Int}:(oV o=.non)↔o=none:=by cases o <;> simp [oV]
def spFrom:Sp:=λvs H Q _=>∃ o t,vs=[oV o,.int t]/\Q (.bl (from' o t)) H
def spBelow:Sp:=λvs H Q _=>∃ o t,vs=[oV o,.int t]/\Q (.bl (below o t)) H
def spUpto:Sp:=λvs H Q _=>∃ o t,vs=[oV o,.int t]/\Q (.bl (upto o t)) H
def spLone:Sp:=λvs H Q _=>∃ b,∃ k:Nat,∃ x rooms tr tm ps,vs=[.ref b,.int k,.int x]/\BookAt H b rooms tr tm ps/\rooms.length<=1000/\∀ l H',H l=none->Same H H'->H' l=some (.lst ((rep rooms.length (lone k x)).map oV))->Q (.ref l) H'
def spWays:Sp:=λvs H Q _=>∃ b rooms tr tm ps,vs=[.ref b]/\BookAt H b rooms tr tm ps/\Good rooms.length (ps.map (·.2))/\∀ l (ws:List (Addr×W4)) H',H l=none->Same H H'->H' l=some (.lst (ws.map λa=>V.ref a.1))->(∀ a∈ws,H' a.1=some (.tup a.2.vs))->ws.map (·.2)=waysN (ps.map (·.2)) ps.length->Q (.ref l) H'
def spLeavings:Sp:=λvs H Q _=>∃ b,∃ k:Nat,∃ x rooms tr tm ps,vs=[.ref b,.int k,.int x]/\BookAt H b rooms tr tm ps/\rooms.length<=1000/\Good rooms.length (ps.map (·.2))/\∀ l H',H l=none->Same H H'->H' l=some (.lst ((rep rooms.length (bwd (ps.map (·.2)) k x)).map oV))->Q (.ref l) H'
def spTimes:Sp:=λvs H Q _=>∃ b,∃ k:Nat,∃ x rooms tr tm ps,vs=[.ref b,.int k,.int x]/\k < rooms.length/\BookAt H b rooms tr tm ps/\rooms.length<=1000/\Good rooms.length (ps.map (·.2))/\∀ l H',H l=none->Same H H'->H' l=some (.lst ((rep rooms.length (fwd (ps.map (·.2)) (lone k x))).map oV))->Q (.ref l) H'
end Sm
namespace L2
open PySem PySem.Spec PyProof.Rows
section
variable {n:Nat}{caps:List Nat}{g:TG}{tc:TT}{te:TE}{σ:St}{H:Hp}{Qf:Addr->Hp->List V->Prop}
theorem comp_range {lo:Int}{m:Nat} (Pv:Nat->St->List V->Hp->Prop) (h0:Pv 0 (tau0 n caps σ) [] H) (hn:m<=1000) (hl:∀ i τ acc H,Pv i τ acc H->acc.length<=i)
  (hs:∀ i τ acc H (C:St->List V->Hp->Prop),i < m->Pv i τ acc H->(∀ τ acc H,Pv (i + 1) τ acc H->C τ acc H)->g (.int (lo + i)) τ H fun τ2 H2=>tc τ2 H2 λb H3=>if b=true then te τ2 H3 λy H4=>C τ2 (acc++[y]) H4 else C τ2 acc H3)
  (hd:∀ τ acc H,Pv m τ acc H->∀ p,H p=none->Qf p H acc) :
  ∃ W:Nat->Nat->St->List V->Hp->Prop,(∃ m,W 0 m (tau0 n caps σ) [] H)/\∀ i m' τ acc H,W i m' τ acc H ->
   ((Itr lo m).stop i H/\acc.length<=sizeLine/\∀ p,H p=none->Qf p H acc) \/
   ((Itr lo m).go i H/\acc.length < sizeLine/\∀ x H',(Itr lo m).yld i H x H'->g x τ H' fun τ2 H2=>tc τ2 H2 λb H3=>if b=true then te τ2 H3 λy H4=>∃ m'',m'' < m'/\W (i + 1) m'' τ2 (acc++[y]) H4 else ∃ m'',m'' < m'/\W (i + 1) m'' τ2 acc H3):=
 comp_of (J:=Itr lo m) Pv m h0 hn hl (λi τ acc H hi p=>hi) (fun τ acc H p=>zD _)
  (λi τ acc H C hi p c x H' y=>by obtain ⟨e1,e2⟩:=y;subst e1;subst e2;exact hs i τ acc _ C hi p c) hd
end
end L2
namespace Sm
open PySem L2 SmSort
def run (ws:List W3) (st:Fn):Fn:=ws.foldl fstep st
theorem run_keep:∀ {ws:List W3}{st:Fn}{i:Nat}{y:Int},st i=some y->run ws st i=some y
 | [],_,_,_,h=>h
 | w::ws,st,i,y,h=>run_keep (ws:=ws) (wO h)
theorem run_from:∀ {ws:List W3}{st:Fn}{i:Nat}{t:Int},run ws st i=some t->st i=none->∃ x∈ws,x.o=i/\x.t=t/\∃ y,run ws st x.g=some y/\y < t
 | [],st,i,t,h,h0=>by
  have:st i=some t:=h
  rw [h0] at this;cases this
 | w::ws,st,i,t,h,h0=>by
  have h':run ws (fstep st w) i=some t:=h
  cases e:fstep st w i with
  | none=>
   obtain ⟨x,hx,a,b,y,hy,lt⟩:=run_from h' e
   exact ⟨x,.tail _ hx,a,b,y,hy,lt⟩
  | some z=>
   have z':=run_keep (ws:=ws) e
   rw [h'] at z';cases z'
   unfold fstep at e
   split at e
   ·rename_i c
    by_cases io:i=w.o
    ·subst io
     rw [xk] at e;cases e
     obtain ⟨y,hy,lt⟩:=below_iff.mp c.2
     exact ⟨w,.head _,rfl,rfl,y,run_keep (ws:=w::ws) hy,lt⟩
    ·rw [xt io,h0] at e;cases e
   ·rw [h0] at e;cases e
theorem run_closed:∀ {ws:List W3}{st:Fn},(∀ x∈ws,x.g≠x.o)->ws.Pairwise (λa b=>a.t<=b.t)->(∀ x∈ws,∀ i y,st i=some y->y<=x.t\/∀ j,st j≠none->j=i) ->
  ∀ x∈ws,∀ y,run ws st x.g=some y->y < x.t->∃ e,run ws st x.o=some e/\e<=x.t
 | w::ws,st,ne,pw,hs,x,hx,y,hy,lt=>by
  obtain ⟨p1,p2⟩:=zg.mp pw
  rcases zF.mp hx with rfl | hx
  ·cases e:st x.g with
   | none=>
    obtain ⟨z,hz,a,b,_⟩:=run_from (ws:=x::ws) hy e
    rcases zF.mp hz with rfl | hz
    ·exact absurd a.symm (ne z (.head _))
    ·have:=p1 z hz
     omega
   | some z=>
    have:=run_keep (ws:=x::ws) e
    rw [hy] at this;cases this
    cases eo:st x.o with
    | none=>
     refine ⟨x.t,?_,zX _⟩
     show run ws (fstep st x) x.o=some x.t
     refine run_keep ?_
     unfold fstep
     rw [if_pos ⟨eo,below_iff.mpr ⟨y,e,lt⟩⟩,xk]
    | some z=>
     refine ⟨z,run_keep (ws:=x::ws) eo,?_⟩
     rcases hs x (.head _) _ _ eo with q | q
     ·exact q
     ·exact absurd (q x.g (by rw [e];simp)) (ne x (.head _))
  ·refine run_closed (ws:=ws) (st:=fstep st w) (λa ha=>ne a (.tail _ ha)) p2 (λa ha i z hz=>?_) x hx y hy lt
   have base:∀ i y,st i=some y->y<=w.t\/∀ j,st j≠none->j=i:=hs w (.head _)
   rcases fstep_inv (x:=w) base (ne w (.head _)) i z hz with q | q
   ·exact .inl (Int.le_trans q (p1 a ha))
   ·exact .inr q
theorem ways2_pw:∀ {ms:List M4},ms.Pairwise (λa b=>a.t<=b.t)->(ways2 ms).Pairwise (λa b=>a.t<=b.t)
 | [],_=>.nil
 | m::ms,h=>by
  obtain ⟨h1,h2⟩:=zg.mp h
  have e:ways2 (m::ms)=two m++ways2 ms:=by unfold ways2;rw [yd]
  rw [e,z4]
  refine ⟨?_,ways2_pw h2,λa ha b hb=>?_⟩
  ·unfold two
   refine .cons (λx hx=>?_) (zv _ _)
   cases zH.mp hx;exact zX _
  ·have ta:a.t=m.t:=by
    unfold two at ha
    simp only [zF,zi,or_false] at ha
    rcases ha with rfl | rfl <;> rfl
   unfold ways2 at hb
   obtain ⟨r,hr,hx⟩:=yl.mp hb
   have tb:b.t=r.t:=by
    unfold two at hx
    simp only [zF,zi,or_false] at hx
    rcases hx with rfl | rfl <;> rfl
   rw [ta,tb];exact h1 r hr
structure Early (w:Nat) (ws:List W3) (s:Nat) (x:Int) (E:Fn):Prop where
 self:E s=some x
 orig:∀ i t,i≠s->E i=some t->∃ a∈ws,a.o=i/\a.t=t/\∃ y,E a.g=some y/\y < t
 clos:∀ a∈ws,∀ y,E a.g=some y->y < a.t->∃ e,E a.o=some e/\e<=a.t
 inside:∀ a∈ws,a.g < w/\a.o < w
theorem early_fwd {n s:Nat}{x:Int}{ms:List M4} (g:Good n ms):Early n (ways2 ms) s x (fwd ms (lone s x)):=by
 refine ⟨?_,λi t ne h=>?_,?_,λa ha=>?_⟩
 ·exact run_keep (ws:=ways2 ms) (by simp [lone])
 ·exact run_from (ws:=ways2 ms) h (by simp [lone,ne])
 ·refine run_closed (λa ha=>(wR g ha).2.2.2.2) (ways2_pw g.ord.2) (λa ha i y h=>.inr λj hj=>?_)
  unfold lone at h hj
  by_cases e:i=s
  ·by_cases e':j=s
   ·rw [e,e']
   ·rw [if_neg e'] at hj;exact absurd rfl hj
  ·rw [if_neg e] at h;cases h
 ·obtain ⟨a1,a2,_⟩:=wR g ha
  omega
def leO (a b:Option Int):Prop:=∀ y,b=some y->∃ x,a=some x/\x<=y
def rankE (n:Nat) (E:Fn) (t:Int):Nat:=(List.range n).countP λj=>below (E j) t
end Sm
namespace L2
open PySem PySem.Spec PyProof.Rows
section
variable {X:Cx}{pins:List (Addr×Obj)}{σ:St}{H:Hp}{s:Shared}
theorem Inv.keptAll {m:Str->Option Value}{h':Heap}{tk:Nat} (I:Inv X pins σ H s) (F0:Fr X.base X.env.locals s.heap m) (F:Fr X.base X.env.locals h' m)
  (N:News X.base X.env.locals h' (allNews X.base s.heap X.env.locals)):Inv X pins σ H { s with heap:=h',toks:=tk }:=by
 have keep:∀ b o,b≠X.env.locals->s.heap.get? b=some o->h'.get? b=some o:=λb o hb e=>by
  cases q:X.base.get? b with
  | some u=>
   have:=I.bk b u q
   rw [e] at this;cases this
   exact F.keep b _ q
  | none=>exact (N (b,o) (mem_allNews hb q e)).1
 refine I.step (g':=s.gens) (t':=tk) (d':=s.drawn) (ch:=[]) (λ_ z=>nomatch z) (λb o hb _ _ e _=>keep b o hb e) (λb o hb _ _ e _=>⟨o.slots,keep b o hb e⟩) (λb o _ e n=>n) (λb o _ e=>?_)
  (λb ys e=>e) (λb o u e=>e) (λb ps e=>⟨#[],by rw [e,Array.append_empty]⟩) (λm' hm=>?_) (λb u e=>?_) I.bare
 ·by_cases hb:b=X.env.locals
  ·obtain ⟨o',_,_,q,_⟩:=F.ns
   exact ⟨o',by rw [hb];exact q⟩
  ·exact ⟨o,keep b o hb e⟩
 ·obtain ⟨o1,es1,ep1,e1,d1,k1,f1⟩:=hm
  obtain ⟨o2,es2,ep2,e2,d2,k2,f2⟩:=F0.ns
  rw [e1] at e2;cases e2
  rw [d1] at d2;cases d2
  obtain ⟨o3,es3,ep3,e3,d3,k3,f3⟩:=F.ns
  exact ⟨o3,es3,ep3,e3,d3,k3,λname=>(f3 name).trans ((f2 name).symm.trans (f1 name))⟩
 ·refine (I.hok b u e).stay (λc v hc q=>keep c v (λz=>?_) q) (λc q=>q) λc ys q=>q
  rcases hc with rfl | hc
  ·rw [z,I.free] at e;cases e
  ·rw [z,I.free] at hc;cases hc
theorem bools_of:∀ {bs:List Bool}{us:List Value},Vals (bs.map V.bl) us->LSm.BoolsAre us bs
 | [],us,r=>by cases r;exact .nil
 | b::bs,us,r=>by
  cases r with
  | cons x y=>
   cases x
   exact .cons b (bools_of y)
theorem call_all {K:PySem.W.Frag} (hK:X.K=K) (hc:X.calm=true):CallR X (.builtin "all") (λxs H Q=>∃ p,∃ bs:List Bool,xs=[.ref p]/\SqL K H p (bs.map V.bl)/\Q (.bl (bs.all id)) H):=by
 subst hK
 intro pins s σ H xs us Q I r h
 obtain ⟨p,bs,rfl,hq,q⟩:=h
 obtain ⟨u,rfl,rx⟩:=vals1 r
 cases rx
 obtain ⟨its,r',pl,hz⟩:=I.list hq
 obtain ⟨m,F⟩:=I.fr
 exact LSm.all_bools F (news_all (g:=X.base) (h:=s.heap)) (I.ok.hd hc) pl.isList (bools_of r') λh' tk F' N'=>⟨.bl _,H,I.keptAll F F' N',rfl,q⟩
end
end L2
namespace Sm
open PySem L2 SmSort
end Sm
namespace Sm
open PySem L2 SmSort
def Link (ms:List M4) (n g o:Nat) (t:Int):Prop:=∃ m,ms[n]?=some m/\m.t=t/\((m.lo.toNat=g/\m.hi.toNat=o)\/(m.lo.toNat=o/\m.hi.toNat=g))
theorem waysN_link {ms:List M4}:∀ {i:Nat}{x:W4},x∈waysN ms i->Link ms x.n x.w.g x.w.o x.w.t
 | 0,x,h=>by cases h
 | i + 1,x,h=>by
  unfold waysN at h
  rcases zS.mp h with h | h
  ·exact waysN_link h
  ·cases e:ms[i]? with
   | none=>rw [e] at h;cases h
   | some m=>
    rw [e] at h
    simp only [zF,zi,or_false] at h
    rcases h with rfl | rfl
    ·exact ⟨m,e,rfl,.inl ⟨rfl,rfl⟩⟩
    ·exact ⟨m,e,rfl,.inr ⟨rfl,rfl⟩⟩
def Came (ms:List M4) (k:Nat) (f:Fn) (kvs:List (Key×V)) (H:Hp):Prop:=
 ∀ o t,f o=some t->o=k\/∃ tt n g y,valV kvs (Sum.inl (o:Int))=some (.ref tt)/\H tt=some (.tup [.int ((n:Nat):Int),.int ((g:Nat):Int)])/\Link ms n g o t/\f g=some y/\y < t
theorem Came.tups {ms:List M4}{k:Nat}{f:Fn}{kvs:List (Key×V)}{H H':Hp} (c:Came ms k f kvs H) (t:Tups H H'):Came ms k f kvs H':=λo x h=>by
 rcases c o x h with e | ⟨tt,n,g,y,a1,a2,a3,a4,a5⟩
 ·exact .inl e
 ·exact .inr ⟨tt,n,g,y,a1,t _ _ a2,a3,a4,a5⟩
theorem Came.step {ms:List M4}{k:Nat}{f:Fn}{kvs:List (Key×V)}{H:Hp}{tt:Addr}{x:W4} (c:Came ms k f kvs H) (ho:f x.w.o=none) (hb:below (f x.w.g) x.w.t=true) (hl:Link ms x.n x.w.g x.w.o x.w.t)
  (ht:H tt=some (.tup [.int (x.n:Int),.int (x.w.g:Int)])):Came ms k (put f x.w.o (some x.w.t)) (putK kvs (Sum.inl (x.w.o:Int)) (.ref tt)) H:=λo t h=>by
 have keep:∀ g y,f g=some y->put f x.w.o (some x.w.t) g=some y:=λg y e=>by rw [xt λz=>by rw [z,ho] at e;cases e];exact e
 by_cases e:o=x.w.o
 ·subst e
  rw [xk] at h;cases h
  obtain ⟨y,hy,lt⟩:=below_iff.mp hb
  exact .inr ⟨tt,x.n,x.w.g,y,by rw [valV_put,if_pos rfl],ht,hl,keep _ _ hy,lt⟩
 ·rw [xt e] at h
  rcases c o t h with e' | ⟨t2,n,g,y,a1,a2,a3,a4,a5⟩
  ·exact .inl e'
  ·refine .inr ⟨t2,n,g,y,?_,a2,a3,keep _ _ a4,a5⟩
   rw [valV_put,if_neg λz=>e (by have:=Sum.inl.inj z;omega)]
   exact a1
def spFirst2:Sp:=λvs H Q _=>∃ b,∃ k:Nat,∃ x rooms tr tm ps,vs=[.ref b,.int k,.int x]/\BookAt H b rooms tr tm ps/\rooms.length<=1000/\Good rooms.length (ps.map (·.2))/\∀ t l d kvs H',H l=none->Same H H'->H' t=some (.tup [.ref l,.ref d])->H' l=some (.lst ((rep rooms.length (fwd (ps.map (·.2)) (lone k x))).map oV))->H' d=some (.dK kvs)->Came (ps.map (·.2)) k (fwd (ps.map (·.2)) (lone k x)) kvs H'->Q (.ref t) H'
def walkM (ms:List M4):Nat->Int->Int->List Int->Option (Nat×Int)
 | v,t,_,[]=>some (v,t)
 | v,t,a,n::ns=>match ms[n.toNat]? with
  | none=>none
  | some m=>if a < n/\0<=n/\(v=m.lo.toNat\/v=m.hi.toNat)/\t < m.t then walkM ms (if v=m.lo.toNat then m.hi.toNat else m.lo.toNat) m.t n ns else none
theorem walk_cons {ms:List M4}{n g o:Nat}{y t a:Int}{ns:List Int} (h:Link ms n g o t) (ne:g≠o) (lt:y < t) (ha:a < n):walkM ms g y a ((n:Int)::ns)=walkM ms o t n ns:=by
 obtain ⟨m,hm,rfl,h⟩:=h
 conv=>lhs;unfold walkM
 rw [show ((n:Int)).toNat=n from by simp,hm]
 dsimp only
 rcases h with ⟨rfl,rfl⟩ | ⟨rfl,rfl⟩
 ·rw [if_pos ⟨ha,by omega,.inl rfl,lt⟩,if_pos rfl]
 ·rw [if_pos ⟨ha,by omega,.inr rfl,lt⟩,if_neg λz=>ne z]
theorem Tups.setD {l:Addr}{H:Hp}{kvs:List (Key×V)}{o:HO} (h:H l=some (.dK kvs)):Tups H (upd H l o):=λb u e=>by rw [xO (wa e h (by intro z;cases z))];exact e
theorem idx_lt {ms:List M4} (o:ms.Pairwise λa b=>a.t<=b.t) {i j:Nat}{a b:M4} (hi:ms[i]?=some a) (hj:ms[j]?=some b) (lt:a.t < b.t):i < j:=by
 obtain ⟨h1,e1⟩:=zB.mp hi
 obtain ⟨h2,e2⟩:=zB.mp hj
 rcases Nat.lt_trichotomy i j with h | h | h
 ·exact h
 ·subst h;rw [e1] at e2;rw [e2] at lt;omega
 ·have:=zW.mp o j i h2 h1 h
  rw [e1,e2] at this
  omega
def mu (n:Nat) (E:Fn) (σ:St):Nat:=match σ[9]? with
 | some (some (V.int v))=>(match E v.toNat with
  | some e=>rankE n E e
  | none=>0)
 | _=>0
theorem rank_lt {n:Nat}{E:Fn}{g:Nat}{y t:Int} (hg:g < n) (hy:E g=some y) (lt:y < t):rankE n E y < rankE n E t:=
 countP_lt (λj hj=>by
  obtain ⟨z,hz,l⟩:=below_iff.mp hj
  exact below_iff.mpr ⟨z,hz,by omega⟩) (zY.mpr hg) (by
   cases c:below (E g) y with
   | false=>rfl
   | true=>
    obtain ⟨z,hz,l⟩:=below_iff.mp c
    rw [hy] at hz;cases hz;omega) (below_iff.mpr ⟨y,hy,lt⟩)
theorem rank_le (n:Nat) (E:Fn) (t:Int):rankE n E t<=n:=by
 unfold rankE
 have:=List.countP_le_length (p:=λj=>below (E j) t) (l:=List.range n)
 rw [yt] at this
 exact this
theorem Link.inside {n g o w:Nat}{t:Int}{ms:List M4} (g0:Good w ms) (h:Link ms n g o t):g < w/\o < w/\g≠o:=by
 obtain ⟨m,hm,_,h⟩:=h
 obtain ⟨a1,a2,a3,_⟩:=g0.each m (zC hm)
 rcases h with ⟨rfl,rfl⟩ | ⟨rfl,rfl⟩ <;> omega
def LetAt (H:Hp) (lt:Addr) (n s w:Nat) (a z:Int):Prop:=H lt=some (.tup [.int (s:Int),.int a,.int (w:Int),.int z])/\s < n/\w < n/\0<=a/\a<=1000000000/\0<=z/\z<=1000000000
theorem LetAt.th {H:Hp}{lt:Addr}{n s w:Nat}{a z:Int} (h:LetAt H lt n s w a z):Th H (.ref lt) (some [.int (s:Int),.int a,.int (w:Int),.int z]):=.inr ⟨lt,_,rfl,h.1,λe he=>by
 simp only [zF,zi,or_false] at he
 rcases he with rfl | rfl | rfl | rfl <;> exact ⟨_,rfl⟩,rfl⟩
theorem LetAt.yes {H:Hp}{lt:Addr}{n s w:Nat}{a z:Int} (h:LetAt H lt n s w a z):isLet n (some [.int (s:Int),.int a,.int (w:Int),.int z])=true:=by
 obtain ⟨_,h1,h2,h3,h4,h5,h6⟩:=h
 simp only [isLet,inB,yS,decide_eq_true_eq]
 omega
def spEarliest:Sp:=λvs H Q _=>∃ b lt,∃ s w:Nat,∃ a z rooms tr tm ps,vs=[.ref b,.ref lt]/\BookAt H b rooms tr tm ps/\rooms.length<=1000/\Good rooms.length (ps.map (·.2))/\LetAt H lt rooms.length s w a z /\
 (upto (fwd (ps.map (·.2)) (lone s a) w) z=false->∀ H',Same H H'->Q .non H') /\
 (∀ e l ns H',fwd (ps.map (·.2)) (lone s a) w=some e->e<=z->H l=none->Same H H'->H' l=some (.lst (List.map V.int ns))->ns.length<=1000->walkM (ps.map (·.2)) s a (-1) ns=some (w,e)->Q (.ref l) H')
theorem walk_step {ms:List M4}{v:Nat}{t A n:Int}{ns:List Int}{r:Nat×Int} (h:walkM ms v t A (n::ns)=some r):∃ m,ms[n.toNat]?=some m/\A < n/\0<=n/\(v=m.lo.toNat\/v=m.hi.toNat)/\t < m.t/\walkM ms (if v=m.lo.toNat then m.hi.toNat else m.lo.toNat) m.t n ns=some r:=by
 unfold walkM at h
 cases e:ms[n.toNat]? with
 | none=>rw [e] at h;cases h
 | some m=>
  rw [e] at h
  dsimp only at h
  split at h
  ·rename_i c;exact ⟨m,rfl,c.1,c.2.1,c.2.2.1,c.2.2.2,h⟩
  ·cases h
end Sm
namespace Sm
open PySem L2 SmSort
def closedB (ws:List W3) (f:Fn):Bool:=ws.all λx=>!(below (f x.g) x.t) || upto (f x.o) x.t
def spOtherAt:Sp:=λvs H Q _=>∃ b,∃ k:Nat,∃ v:Int,∃ rooms tr tm ps,∃ m:M4,vs=[.ref b,.int k,.int v]/\BookAt H b rooms tr tm ps/\(ps.map (·.2))[k]?=some m/\Q (.int (if v=m.lo then m.hi else m.lo)) H
def spIsMeetNo:Sp:=λvs H Q _=>∃ b x t rooms tr tm ps,vs=[.ref b,x]/\BookAt H b rooms tr tm ps/\tyS H x=some t/\Q (.bl (inB 0 ((ps.length:Int) - 1) x)) H
def spIsChain:Sp:=λvs H Q _=>∃ b lt lc,∃ s w:Nat,∃ a z e rooms tr tm ps,∃ ns:List Int,vs=[.ref b,.ref lt,.ref lc]/\BookAt H b rooms tr tm ps/\Good rooms.length (ps.map (·.2))/\LetAt H lt rooms.length s w a z/\H lc=some (.lst (List.map V.int ns))/\walkM (ps.map (·.2)) s a (-1) ns=some (w,e)/\e<=z/\∀ H',Same H H'->Q (.bl true) H'
theorem early_closed {n s:Nat}{x:Int}{ms:List M4} (g:Good n ms):closedB (ways2 ms) (fwd ms (lone s x))=true:=by
 refine yk.mpr λa ha=>?_
 cases h:below (fwd ms (lone s x) a.g) a.t with
 | false=>rfl
 | true=>
  obtain ⟨y,hy,lt⟩:=below_iff.mp h
  obtain ⟨e,he,le⟩:=(early_fwd (s:=s) (x:=x) g).clos a ha y hy lt
  rw [upto_iff.mpr ⟨e,he,le⟩];rfl
theorem fwd_ge {a:Int}:∀ {ws:List W3}{st:Fn},(∀ i y,st i=some y->a<=y)->∀ i y,run ws st i=some y->a<=y
 | [],st,h,i,y,e=>h i y e
 | w::ws,st,h,i,y,e=>by
  refine fwd_ge (ws:=ws) (st:=fstep st w) (λj z hz=>?_) i y e
  unfold fstep at hz
  split at hz
  ·rename_i c
   by_cases ej:j=w.o
   ·rw [ej,xk] at hz;cases hz
    obtain ⟨u,hu,lt⟩:=below_iff.mp c.2
    have:=h _ _ hu
    omega
   ·rw [xt ej] at hz;exact h j z hz
  ·exact h j z hz
theorem since_le {s w:Nat}{a e:Int}{ms:List M4} (h:fwd ms (lone s a) w=some e):a<=e:=
 fwd_ge (ws:=ways2 ms) (λi y e=>by
  unfold lone at e
  split at e
  ·cases e;exact zX _
  ·cases e) w e h
end Sm
namespace L2
open PySem PySem.Spec PyProof.Rows
section
variable {X:Cx}
theorem op_eqNil (hu:X.A.units + 64 < cLine):OpR X (compareOp .Eq) (λx y H Q=>∃ a b xs,x=.ref a/\y=.ref b/\SqL X.K H a xs/\SqL X.K H b []/\Q (.bl xs.isEmpty) H):=by
 intro pins s σ H x y v u Q I rx ry h
 obtain ⟨a,b,xs,rfl,rfl,ha,hb,q⟩:=h
 cases rx;cases ry
 obtain ⟨its,r,p,_⟩:=I.list ha
 obtain ⟨its2,r2,p2,_⟩:=I.list hb
 cases r2
 cases r with
 | nil=>exact SeqAt.RcAt.lists (e:=λ_=>true) p.isList p2.isList rfl (by omega) (λj h1=>absurd h1 (zd _)) _ _ _ _ ⟨.bl _,H,I,rfl,q⟩
 | cons r1 rr=>exact SeqAt.RcAt.lists_lengths p.isList p2.isList (by simp) (by omega) _ _ _ _ ⟨.bl _,H,I,rfl,q⟩
end
end L2
namespace Sm
open PySem L2 SmSort
theorem walk_last {ms:List M4}:∀ {ns:List Int}{v:Nat}{t A:Int}{w:Nat}{e:Int},walkM ms v t A ns=some (w,e)->(ns=[]/\t=e)\/∃ n m,∃ k:Nat,ns.getLast?=some n/\n=(k:Int)/\ms[k]?=some m/\m.t=e
 | [],v,t,A,w,e,h=>by
  unfold walkM at h
  obtain ⟨_,h2⟩:=Prod.mk.inj (Option.some.inj h)
  exact .inl ⟨rfl,h2⟩
 | n::ns,v,t,A,w,e,h=>by
  obtain ⟨m,hm,_,n0,_,_,wk⟩:=walk_step h
  obtain ⟨k,rfl⟩:=zb n0
  rw [zy] at hm
  rcases walk_last wk with ⟨rfl,rfl⟩ | ⟨n',m',k',h1,h2,h3,h4⟩
  ·exact .inr ⟨_,m,k,rfl,rfl,hm,rfl⟩
  ·refine .inr ⟨n',m',k',?_,h2,h3,h4⟩
   cases ns with
   | nil=>cases h1
   | cons a b=>rw [List.getLast?_cons_cons];exact h1
theorem atI_last {α:Type}{xs:List α}{v:α} (h:xs.getLast?=some v):atI xs (-1)=some v:=by
 cases xs with
 | nil=>cases h
 | cons a b=>
  rw [List.getLast?_eq_getElem?] at h
  unfold atI
  have e:ixN (a::b).length (-1)=some ((a::b).length - 1):=by
   unfold ixN
   simp only [za]
   rw [if_neg (by omega)]
   simp
   omega
  rw [e]
  exact h
structure R1 where
 t:Addr
 l:Addr
 s:Nat
 w:Nat
 a:Int
 e:Int
 ns:List Int
def spArrival:Sp:=λvs H Q _=>∃ b lt lc,∃ s w:Nat,∃ a z e rooms tr tm ps,∃ ns:List Int,vs=[.ref b,.ref lt,.ref lc]/\BookAt H b rooms tr tm ps/\Good rooms.length (ps.map (·.2))/\H lt=some (.tup [.int (s:Int),.int a,.int (w:Int),.int z])/\H lc=some (.lst (List.map V.int ns))/\walkM (ps.map (·.2)) s a (-1) ns=some (w,e)/\Q (.int e) H
end Sm
namespace L2
open PySem PySem.Spec PyProof.Rows
def IzL (K:PySem.W.Frag) (a b:Addr):It:=
 ⟨λi H=>∃ xs ys x y,SqL K H a xs/\SqL K H b ys/\xs[i]?=some x/\ys[i]?=some y,λi H v H'=>∃ p x y,H p=none/\v=.ref p/\H'=upd H p (.tup [x,y])/\∀ xs ys,SqL K H a xs->SqL K H b ys->xs[i]?=some x/\ys[i]?=some y,
  λi H=>∃ xs ys,SqL K H a xs/\SqL K H b ys/\(xs.length<=i\/ys.length<=i)⟩
theorem turn_zipL {P:Program}{w:World}{K:PySem.W.Frag}{es:List Expr}{k:Nat}{pos:Pos} (l1 l2 z TI TO i1 i2:Addr) (ap:ZipApart z TI TO i1 i2 l1 l2) :
  Turn P w K (.Tuple es k pos) (IzL K l1 l2) [z,TI,TO,i1,i2] z (λi h=>IsZip h z TI TO .none/\IsPair h TI (.ref i1) (.ref i2)/\(∃ a b,IsPair h TO a b)/\h.IsListIter i1 l1 i/\h.IsListIter i2 l2 i) where
 mem:=by simp
 obj:=λi h st b hb=>by
  obtain ⟨hz,hTI,⟨a,c,hTO⟩,⟨o1,g1,c1,d1⟩,⟨o2,g2,c2,d2⟩⟩:=st
  simp only [zF,zi,or_false] at hb
  rcases hb with e | e | e | e | e <;> subst e
  ·exact ⟨_,hz,λv q=>nomatch q⟩
  ·exact ⟨_,hTI,λv q=>nomatch q⟩
  ·exact ⟨_,hTO,λv q=>nomatch q⟩
  ·exact ⟨o1,g1,λv q=>by rw [d1] at q;cases q⟩
  ·exact ⟨o2,g2,λv q=>by rw [d2] at q;cases q⟩
 keep:=λi h h' st q=>by
  obtain ⟨hz,hTI,⟨a,c,hTO⟩,⟨o1,g1,r1⟩,⟨o2,g2,r2⟩⟩:=st
  exact ⟨q z (by simp) _ hz,q TI (by simp) _ hTI,⟨a,c,q TO (by simp) _ hTO⟩,⟨o1,q i1 (by simp) o1 g1,r1⟩,⟨o2,q i2 (by simp) o2 g2,r2⟩⟩
 item:=by
  intro X hP hw hK hc i pins s σ H E I hf st hg
  subst hP hw hK
  obtain ⟨xs,ys,x,y,hq1,hq2,hx,hy⟩:=hg
  obtain ⟨its1,rv1,p1,hz1⟩:=I.list hq1
  obtain ⟨its2,rv2,p2,hz2⟩:=I.list hq2
  obtain ⟨u,hu,ru⟩:=rv1.get hx
  obtain ⟨v,hv,rv⟩:=rv2.get hy
  obtain ⟨hZ,hTI,⟨a0,c0,hTO⟩,hi1,hi2⟩:=st
  have fp:=λb hb=>hf b hb
  have lt:∀ b,b∈[z,TI,TO,i1,i2]->b < s.heap.objs.size:=λb hb=>by
   simp only [zF,zi,or_false] at hb
   rcases hb with e | e | e | e | e <;> subst e
   ·exact Heap.lt_size hZ
   ·exact Heap.lt_size hTI
   ·exact Heap.lt_size hTO
   ·exact let ⟨_,z,_⟩:=hi1;Heap.lt_size z
   ·exact let ⟨_,z,_⟩:=hi2;Heap.lt_size z
  refine wpAny_pyNext_zip_item ap hZ hTI hTO hi1 hi2 p1.isList p2.isList (x:=u) (y:=v) (by simpa using hu) (by simpa using hv) λh1 hZ1 hTO1 hi1' hi2' hT hsz hk=>?_
  refine ⟨_,rfl,?_⟩
  refine wpAny_letOwnedTupleGo_zip hZ1 λh2 hZ2 hs2=>?_
  have hs2':Heap.SameBut z h1 h2:=hs2
  have old2:∀ b o,b ∉ [z,TO,i1,i2]->s.heap.get? b=some o->h2.get? b=some o:=λb o hb q=>by
   simp only [zF,zi,or_false,not_or] at hb
   exact hs2'.extBut b o hb.1 (hk b o hb.1 hb.2.1 hb.2.2.1 hb.2.2.2 q)
  have hT2:h2.get? s.heap.objs.size=some { cls:=.type "tuple", data:=.seq #[u,v] }:=hs2'.extBut _ _ (yF (lt z (by simp))) hT
  have nT:H s.heap.objs.size=none:=I.hok.fresh (zD _)
  have sub:∀ b,b∈[z,TO,i1,i2]->b∈[z,TI,TO,i1,i2]:=λb hb=>by
   simp only [zF,zi,or_false] at hb ⊢
   rcases hb with e | e | e | e <;> simp [e]
  refine ⟨.ref s.heap.objs.size,upd H s.heap.objs.size (.tup [x,y]),?_,rfl,⟨_,x,y,nT,rfl,rfl,λys' zs' h1 h2=>by rw [I.list_inj h1 hq1,I.list_inj h2 hq2];exact ⟨hx,hy⟩⟩,⟨hZ2,?_,⟨u,v,?_⟩,?_,?_⟩,λb hb=>?_⟩
  ·refine Inv.step (s:=s) (h':=h2) (g':=s.gens) (d':=s.drawn) (t':=s.toks) (ch:=[z,TO,i1,i2]) I (λb hb=>?_) (λb o _ _ hb q _=>old2 b o hb q) (λb o _ _ hb q _=>⟨o.slots,old2 b o hb q⟩)
    (λb o _ q n=>by rw [xO (zQ (Heap.lt_size q))];exact n) (λb o hb q=>⟨o,old2 b o hb q⟩)
    (λb ys q=>by rw [xO (xJ q nT)];exact q) (λb o v q=>by rw [xO (xJ q nT)];exact q) (λb ps q=>⟨#[],by rw [xO (xJ q nT),q];simp⟩)
    (λm hm=>by
     obtain ⟨o,es',ep,q,r⟩:=hm
     exact ⟨o,es',ep,old2 _ o (λhb=>(fp _ (sub _ hb)).2.1 rfl) q,r⟩) (λb v' q=>?_) I.bare
   ·obtain ⟨e0,e1,e2,e3,e4,e5⟩:=fp b (sub b hb)
    exact ⟨e3,e1,e4,e5⟩
   ·by_cases hb:b=s.heap.objs.size
    ·subst hb
     rw [xI] at q
     cases q
     exact ⟨⟨by show 2<=sizeLine;rw [sizeLine_eq];decide,λob e=>by rw [hT2] at e;cases e;rfl⟩,[u,v],.cons ru (.cons rv .nil),⟨_,hT2,rfl,_,rfl⟩⟩
    ·rw [xO hb] at q
     refine (I.hok b v' q).stay (λc ob hc qc=>old2 c ob (λhb=>?_) qc) (λc qc=>by rw [xO (xJ qc nT)];exact qc) λc ys qc=>by rw [xO (xJ qc nT)];exact qc
     have e0:=(fp c (sub c hb)).1
     rcases hc with z | z
     ·subst z;exact xJ q e0 rfl
     ·exact xJ z e0 rfl
  ·exact old2 _ _ (by simp only [zF,zi,or_false,not_or];exact ⟨ap.TIz,ap.TITO,ap.TIi1,ap.TIi2⟩) hTI
  ·exact hs2'.extBut _ _ ap.TOz hTO1
  ·obtain ⟨o,q,r⟩:=hi1'
   exact ⟨o,hs2'.extBut i1 o ap.i1z q,r⟩
  ·obtain ⟨o,q,r⟩:=hi2'
   exact ⟨o,hs2'.extBut i2 o ap.i2z q,r⟩
  ·rw [xO (zQ (lt b hb))];exact (fp b hb).1
 done:=by
  intro X hP hw hK hc i pins s σ H E I hf st hg
  subst hP hw hK
  obtain ⟨xs,ys,hq1,hq2,hx⟩:=hg
  obtain ⟨its1,rv1,p1,hz1⟩:=I.list hq1
  obtain ⟨its2,rv2,p2,hz2⟩:=I.list hq2
  obtain ⟨hZ,hTI,⟨a0,c0,hTO⟩,hi1,hi2⟩:=st
  have l1':=rv1.length
  have l2':=rv2.length
  have sub:∀ b,b∈[z,TO,i1,i2]->b∈[z,TI,TO,i1,i2]:=λb hb=>by
   simp only [zF,zi,or_false] at hb ⊢
   rcases hb with e | e | e | e <;> simp [e]
  refine wpAny_pyNext_zip_end (I.ok.hd hc) ap hZ hTI hTO hi1 hi2 p1.isList p2.isList (by
   rcases hx with h | h
   ·exact .inl (by simp;omega)
   ·exact .inr (by simp;omega)) λh' hk=>⟨rfl,?_⟩
  have old2:∀ b o,b ∉ [z,TO,i1,i2]->s.heap.get? b=some o->h'.get? b=some o:=λb o hb q=>by
   simp only [zF,zi,or_false,not_or] at hb
   exact hk b o hb.1 hb.2.1 hb.2.2.1 hb.2.2.2 q
  refine Inv.step (s:=s) (h':=h') (g':=s.gens) (d':=s.drawn) (t':=s.toks) (ch:=[z,TO,i1,i2]) I (λb hb=>?_) (λb o _ _ hb q _=>old2 b o hb q) (λb o _ _ hb q _=>⟨o.slots,old2 b o hb q⟩)
    (λb o _ q n=>n) (λb o hb q=>⟨o,old2 b o hb q⟩)
    (λb ys q=>q) (λb o v q=>q) (λb ps q=>⟨#[],by rw [q];simp⟩)
    (λm hm=>by
     obtain ⟨o,es',ep,q,r⟩:=hm
     exact ⟨o,es',ep,old2 _ o (λhb=>(hf _ (sub _ hb)).2.1 rfl) q,r⟩) (λb v' q=>?_) I.bare
  ·obtain ⟨e0,e1,e2,e3,e4,e5⟩:=hf b (sub b hb)
   exact ⟨e3,e1,e4,e5⟩
  ·refine (I.hok b v' q).stay (λc ob hc qc=>old2 c ob (λhb=>?_) qc) (λc qc=>qc) λc ys qc=>qc
   have e0:=(hf c (sub c hb)).1
   rcases hc with z | z
   ·subst z;exact xJ q e0 rfl
   ·exact xJ z e0 rfl
 self:=λ_ _ _ _ _ st h=>wpAny_pyIter_zip st.1 h
def iZipL (K:PySem.W.Frag) (ta:TA):TI:=fun σ H R=>ta σ H λvs H1=>∃ a b,vs=[.ref a,.ref b]/\(∃ xs,SqL K H1 a xs)/\(∃ ys,SqL K H1 b ys)/\R (IzL K a b) H1
theorem pi_zipL {X:Cx}{a b:Expr}{ta:TA} {p pos pos2:Pos}{es:List Expr}{k:Nat}{K:PySem.W.Frag} (hK:X.K=K) (hg:Gl X "zip") (hm:X.mg "zip" = none) (ha:PA X [a,b] ta)
  (hs:starEach [a,b] X.env=(false,eval a X.env)::starEach [b] X.env:=by rfl) (hs2:starEach [b] X.env=[(false,eval b X.env)]:=by rfl) :
  PI X (.Tuple es k pos2) (.Call (.Name "zip" p) [a,b] [] pos) (iZipL K ta):=by
 subst hK
 intro pins s σ H R I h
 refine Call_ (ld_blt I hg hm boot_zip (yB (thn (ha pos pins s σ H _ I h) λus s1 ⟨vs,H1,I1,r1,q1⟩=>?_) (by rw [hs,hs2]) (by rw [hs2];rfl)))
 obtain ⟨l1,l2,e,⟨xs,hq1⟩,⟨ys,hq2⟩,q⟩:=q1
 subst e
 cases r1 with
 | cons r rr=>
  cases rr with
  | cons r' rr=>
   cases rr
   cases r
   cases r'
   obtain ⟨its1,rv1,p1,hz1⟩:=I1.list hq1
   obtain ⟨its2,rv2,p2,hz2⟩:=I1.list hq2
   have lt1:l1 < s1.heap.objs.size:=let ⟨_,z,_⟩:=p1.isList;Heap.lt_size z
   have lt2:l2 < s1.heap.objs.size:=let ⟨_,z,_⟩:=p2.isList;Heap.lt_size z
   refine call_zip_2 p1.isList p2.isList λh' hZ hTI hTO hi1 hi2 hsz hk=>?_
   refine wpAny_pyIter_zip hZ ?_
   have I2:Inv X pins σ H1 { s1 with heap:=h' }:=I1.kept (t':=s1.toks) hk
   refine ⟨s1.heap.objs.size + 4,[s1.heap.objs.size + 4,s1.heap.objs.size + 2,s1.heap.objs.size + 3,s1.heap.objs.size,s1.heap.objs.size + 1],_,_,H1,rfl,I2,turn_zipL l1 l2 _ _ _ _ _ (zipApart_new lt1 lt2),⟨hZ,hTI,⟨_,_,hTO⟩,hi1,hi2⟩,λb hb=>?_,q⟩
   have hb':s1.heap.objs.size<=b:=by
    simp only [zF,zi,or_false] at hb
    rcases hb with e | e | e | e | e <;> rw [e] <;> first | exact zD _ | exact Nat.le_add_right _ _
   exact I1.fpOk hb' (I1.hok.fresh hb')
end L2
namespace L2
open PySem PySem.Spec PyProof.Rows
theorem for_zipL {K:PySem.W.Frag}{a b:Addr}{xs ys:List V}{g:TG}{tb:TS}{D:Ends}{σ:St}{H:Hp} (el:xs.length=ys.length) (Pv:Nat->St->Hp->Prop) (h0:Pv 0 σ H) (hl:∀ i σ H,i<=xs.length->Pv i σ H->SqL K H a xs/\SqL K H b ys)
  (hs:∀ i x y q σ H,xs[i]?=some x->ys[i]?=some y->H q=none->Pv i σ H->g (.ref q) σ (upd H q (.tup [x,y])) fun σ2 H2=>tb (D.lp (Pv (i + 1))) σ2 H2) (hd:∀ σ H,Pv xs.length σ H->D.nx σ H) :
  ∃ W:Nat->Nat->St->Hp->Prop,(∃ m,W 0 m σ H)/\∀ i m σ H,W i m σ H ->
   ((IzL K a b).stop i H/\D.nx σ H)\/((IzL K a b).go i H/\∃ N:St->Hp->Prop,(∀ σ' H',N σ' H'->∃ m',m' < m/\W (i + 1) m' σ' H')/\∀ x H',(IzL K a b).yld i H x H'->g x σ H' fun σ2 H2=>tb (D.lp N) σ2 H2):=by
 refine ⟨λi m σ H=>m=xs.length - i/\i<=xs.length/\Pv i σ H,⟨xs.length,by simp,zT _,h0⟩,?_⟩
 rintro i m σ H ⟨rfl,hi,p⟩
 obtain ⟨q1,q2⟩:=hl i σ H hi p
 by_cases hlt:i < xs.length
 ·refine .inr ⟨⟨xs,ys,xs[i],ys[i]'(by omega),q1,q2,by simp [hlt],by simp [<-el,hlt]⟩,Pv (i + 1),fun σ' H' p'=>⟨xs.length - (i + 1),by omega,rfl,hlt,p'⟩,λx H' y=>?_⟩
  obtain ⟨q',x',y',hq,e1,e2,y⟩:=y
  subst e1;subst e2
  exact hs i x' y' q' σ _ (y xs ys q1 q2).1 (y xs ys q1 q2).2 hq p
 ·have e:i=xs.length:=by omega
  subst e
  exact .inl ⟨⟨xs,ys,q1,q2,.inl (zD _)⟩,hd σ H p⟩
end L2
namespace Sm
open PySem L2 SmSort
structure D1 where
 t:Addr
 la:Addr
 s:Nat
 w:Nat
 a:Int
 z:Int
 e:Int
end Sm
namespace L2
open PySem
theorem iteN {c:Bool}{A:Prop}{D:Ends}{σ:St}{H:Hp} (Pre:St->Hp->Prop) (k:∀ σ H,Pre σ H->D.nx σ H) (h1:c=true->(∀ σ H,Pre σ H->D.nx σ H)->A) (h2:c=false->Pre σ H):if c=true then A else tNext D σ H:=by
 cases c with
 | true=>exact h1 rfl k
 | false=>exact k _ _ (h2 rfl)
end L2
namespace Sm
open PySem L2 SmSort
theorem Go.put {p l:Addr}{H H':Hp}{o:HO} (g:Go p H H') (h:H l=none) (np:l≠p):Go p H (upd H' l o):=by
 refine ⟨λb u nb e=>by rw [xO (xJ e h)];exact g.1 b u nb e,?_⟩
 obtain ⟨x,y,z,e⟩:=g.2
 exact ⟨x,y,z,by rw [xO np.symm];exact e⟩
end Sm
namespace Sm
open PySem L2 SmSort
def jstep (row F:Fn) (x:W3):Fn:=if below (row x.g) x.t=true/\upto (F x.o) x.t=false then put F x.o (some x.t) else F
def jac (ws:List W3) (row:Fn):Fn:=ws.foldl (jstep row) row
def jrow (ws:List W3) (row:Fn):Nat->Fn
 | 0=>row
 | k + 1=>jac ws (jrow ws row k)
def rk (ws:List W3):Option Int->Nat
 | none=>ws.length + 1
 | some y=>ws.countP λx=>decide (x.t < y)
end Sm
namespace Sm
open PySem L2 SmSort
structure Rows (H0 H:Hp) (ms:List M4) (n k:Nat) (x:Int) (as:List Addr):Prop where
 pos:as≠[]
 few:as.length<=200000
 at':∀ (i:Nat) (a:Addr),as[i]?=some a->H0 a=none/\H a=some (.lst ((rep n (jrow (ways2 ms) (lone k x) i)).map oV))
 ne:∀ i,i + 1 < as.length->rep n (jrow (ways2 ms) (lone k x) (i + 1))≠rep n (jrow (ways2 ms) (lone k x) i)
 last:rep n (jrow (ways2 ms) (lone k x) as.length)=rep n (jrow (ways2 ms) (lone k x) (as.length - 1))
end Sm
namespace L2
open PySem PySem.Spec PyProof.Rows
section
variable {K:PySem.W.Frag}{a:Addr}{xs:List V}{n:Nat}{caps:List Nat}{g:TG}{tc:TT}{te:TE}{σ:St}{H:Hp}{Qf:Addr->Hp->List V->Prop}
end
end L2
namespace Sm
open PySem L2 SmSort
end Sm
namespace Sm
open PySem L2 SmSort
end Sm
namespace Sm
open PySem L2
end Sm
namespace Sm
open PySem L2 SmSort
end Sm
namespace Sm
open PySem L2 SmSort
theorem way_link {ms:List M4}{x:W3} (h:x∈ways2 ms):∃ n,Link ms n x.g x.o x.t:=by
 rw [<-waysN_all] at h
 obtain ⟨y,hy,rfl⟩:=zI.mp h
 exact ⟨y.n,waysN_link hy⟩
end Sm
namespace Sm
open PySem L2 SmSort
end Sm
namespace Sm
open PySem L2 SmSort
def again (ms:List M4) (day first:Int):Nat->List M4
 | 0=>[]
 | r + 1=>again ms day first r++ms.map (M4.late ((first + r) * day))
def agF (ms:List M4) (day first:Int) (st:Fn) (r:Nat):Fn:=fwd (again ms day first r) st
theorem fwd_append (a b:List M4) (st:Fn):fwd (a++b) st=fwd b (fwd a st):=by
 unfold fwd ways2
 rw [List.flatMap_append,yR]
def W3.late (l:Int) (x:W3):W3:=⟨x.g,x.o,x.t + l⟩
theorem ways2_late (ms:List M4) (l:Int):ways2 (ms.map (M4.late l))=(ways2 ms).map (W3.late l):=by
 unfold ways2
 induction ms with
 | nil=>rfl
 | cons m ms ih=>rw [zk,yd,yd,zG,ih];rfl
theorem agF_succ (ms:List M4) (day first:Int) (st:Fn) (r:Nat):agF ms day first st (r + 1)=((ways2 ms).map (W3.late ((first + r) * day))).foldl fstep (agF ms day first st r):=by
 show fwd (again ms day first r++ms.map (M4.late ((first + r) * day))) st=_
 rw [fwd_append]
 show (ways2 (ms.map (M4.late ((first + r) * day)))).foldl fstep _=_
 rw [ways2_late];rfl
theorem fold_keep {ws:List W3}:∀ {st:Fn}{i:Nat}{y:Int},st i=some y->ws.foldl fstep st i=some y:=by
 induction ws with
 | nil=>exact λh=>h
 | cons w ws ih=>exact λh=>ih (wO h)
theorem fold_from {ws:List W3}:∀ {st:Fn}{i:Nat}{y:Int},ws.foldl fstep st i=some y->st i=some y\/∃ x∈ws,x.o=i/\x.t=y:=by
 induction ws with
 | nil=>exact λh=>.inl h
 | cons w ws ih=>
  intro st i y h
  rcases ih h with h | ⟨x,hx,e⟩
  ·unfold fstep at h
   split at h
   ·by_cases ej:i=w.o
    ·rw [ej,xk] at h;cases h
     exact .inr ⟨w,.head _,ej.symm,rfl⟩
    ·rw [xt ej] at h;exact .inl h
   ·exact .inl h
  ·exact .inr ⟨x,.tail _ hx,e⟩
structure DayOk (ms:List M4) (day first x:Int):Prop where
 pos:1<=day
 each:∀ m∈ms,1<=m.t/\m.t<=day
 lo:first * day<=x
 hi:x < (first + 1) * day
theorem DayOk.mk' {ms:List M4}{day x:Int} (h:1<=day) (e:∀ m∈ms,1<=m.t/\m.t<=day):DayOk ms day (x / day) x:=by
 refine ⟨h,e,?_,?_⟩
 ·exact Int.ediv_mul_le _ (by omega)
 ·have:=Int.lt_ediv_add_one_mul_self x (show 0 < day by omega)
  exact this
theorem way_in {ms:List M4}{x:W3} (h:x∈ways2 ms):∃ m∈ms,x.t=m.t:=by
 unfold ways2 at h
 obtain ⟨m,hm,hx⟩:=yl.mp h
 refine ⟨m,hm,?_⟩
 unfold two at hx
 rcases zF.mp hx with rfl | hx
 ·rfl
 ·rcases zF.mp hx with rfl | hx
  ·rfl
  ·cases hx
theorem mul_le_of {a b d:Int} (h:a<=b) (hd:0<=d):a * d<=b * d:=yG h hd
theorem agF_le {ms:List M4}{day first x:Int}{k:Nat} (D:DayOk ms day first x):∀ (r:Nat),1<=r->∀ i y,agF ms day first (lone k x) r i=some y->y<=(first + r) * day
 | 0,h=>absurd h (by omega)
 | r + 1,_=>λi y h=>by
  rw [agF_succ] at h
  have dp:=D.pos
  rcases fold_from h with h | ⟨w,hw,_,rfl⟩
  ·rcases Nat.eq_zero_or_pos r with e | e
   ·subst e
    have h:lone k x i=some y:=h
    unfold lone at h
    split at h
    ·cases h
     have:=D.hi
     show x<=(first + 1) * day
     omega
    ·cases h
   ·have:=agF_le D r e i y h
    have m:=mul_le_of (show first + (r:Int)<=first + ((r + 1:Nat):Int) by omega) (show 0<=day by omega)
    omega
  ·obtain ⟨u,hu,rfl⟩:=zI.mp hw
   obtain ⟨m,hm,e⟩:=way_in hu
   have:=D.each m hm
   show u.t + (first + r) * day<=(first + ((r + 1:Nat):Int)) * day
   have e2:(first + ((r + 1:Nat):Int)) * day=(first + r) * day + day:=by
    rw [show first + ((r + 1:Nat):Int)=(first + r) + 1 by omega,yx,xA]
   omega
theorem round_has {ws:List W3}:∀ {st:Fn}{x:W3}{y:Int},x∈ws->st x.g=some y->y < x.t->∃ z,ws.foldl fstep st x.o=some z:=by
 induction ws with
 | nil=>intro _ _ _ h;cases h
 | cons w ws ih=>
  intro st x y hx hg lt
  rcases zF.mp hx with rfl | hx
  ·cases ho:st x.o with
   | some z=>exact ⟨z,by rw [List.foldl_cons];exact fold_keep (wO ho)⟩
   | none=>
    refine ⟨x.t,?_⟩
    rw [List.foldl_cons]
    refine fold_keep ?_
    unfold fstep
    rw [if_pos ⟨ho,below_iff.mpr ⟨y,hg,lt⟩⟩,xk]
  ·exact ih hx (wO hg) lt
def Shut (ms:List M4) (f:Fn):Prop:=∀ x∈ways2 ms,f x.g≠none->f x.o≠none
theorem shut_fold {f:Fn}:∀ {ws:List W3},(∀ x∈ws,f x.g≠none->f x.o≠none)->ws.foldl fstep f=f
 | [],_=>rfl
 | w::ws,h=>by
  have e:fstep f w=f:=by
   unfold fstep
   rw [if_neg]
   rintro ⟨a,b⟩
   obtain ⟨y,hy,_⟩:=below_iff.mp b
   exact h w (.head _) (by rw [hy];exact λz=>nomatch z) a
  show ws.foldl fstep (fstep f w)=f
  rw [e]
  exact shut_fold λx hx=>h x (.tail _ hx)
theorem agF_shut {ms:List M4}{day first:Int}{st:Fn}{r:Nat} (h:Shut ms (agF ms day first st r)):agF ms day first st (r + 1)=agF ms day first st r:=by
 rw [agF_succ]
 refine shut_fold λx hx=>?_
 obtain ⟨u,hu,rfl⟩:=zI.mp hx
 exact h u hu
def cntF (n:Nat) (f:Fn):Nat:=(List.range n).countP λi=>(f i).isSome
theorem agF_count {n:Nat}{ms:List M4}{day first x:Int}{k:Nat} (g:∀ x∈ways2 ms,x.g < n/\x.o < n) (hk:k < n) (D:DayOk ms day first x):∀ r:Nat,1<=r->Shut ms (agF ms day first (lone k x) r)\/r<=cntF n (agF ms day first (lone k x) r)
 | 0,h=>absurd h (by omega)
 | r + 1,_=>by
  have dp:=D.pos
  rcases Nat.eq_zero_or_pos r with e | e
  ·subst e
   refine .inr ?_
   have hx:agF ms day first (lone k x) 1 k=some x:=by
    rw [agF_succ]
    exact fold_keep (by show lone k x k=some x;unfold lone;rw [if_pos rfl])
   exact List.countP_pos_iff.mpr ⟨k,zY.mpr hk,by rw [hx];rfl⟩
  ·by_cases c:Shut ms (agF ms day first (lone k x) r)
   ·rw [agF_shut c]
    exact .inl c
   ·rcases agF_count g hk D r e with h | h
    ·exact absurd h c
    ·refine .inr ?_
     obtain ⟨w,hw⟩:=Classical.not_forall.mp c
     obtain ⟨hw,hw2⟩:=Classical.not_imp.mp hw
     obtain ⟨hg,ho⟩:=Classical.not_imp.mp hw2
     have ho:=Classical.not_not.mp ho
     obtain ⟨y,hy⟩:=zw.mp hg
     have le:=agF_le D r e _ _ hy
     obtain ⟨m,hm,et⟩:=way_in hw
     have:=D.each m hm
     obtain ⟨z,hz⟩:=round_has (ws:=(ways2 ms).map (W3.late ((first + r) * day))) (st:=agF ms day first (lone k x) r) (x:=w.late ((first + r) * day)) (zI.mpr ⟨w,hw,rfl⟩) hy (by show y < w.t + (first + r) * day;omega)
     rw [<-agF_succ] at hz
     have hz:agF ms day first (lone k x) (r + 1) w.o=some z:=hz
     have:=countP_lt (l:=List.range n) (p:=λi=>(agF ms day first (lone k x) r i).isSome) (q:=λi=>(agF ms day first (lone k x) (r + 1) i).isSome) (a:=w.o) (λi hi=>by
      obtain ⟨y,hy⟩:=Option.isSome_iff_exists.mp hi
      rw [agF_succ,fold_keep hy];rfl) (zY.mpr (g w hw).2) (by rw [ho];rfl) (by rw [hz];rfl)
     show r + 1<=(List.range n).countP λi=>(agF ms day first (lone k x) (r + 1) i).isSome
     have h:r<=(List.range n).countP λi=>(agF ms day first (lone k x) r i).isSome:=h
     omega
theorem agF_closed {n:Nat}{ms:List M4}{day first x:Int}{k:Nat} (g:∀ x∈ways2 ms,x.g < n/\x.o < n) (hk:k < n) (D:DayOk ms day first x):Shut ms (agF ms day first (lone k x) n):=by
 rcases agF_count g hk D n (by omega) with h | h
 ·exact h
 ·intro w hw _ ho
  have:(List.range n).countP (λi=>(agF ms day first (lone k x) n i).isSome) < (List.range n).countP (λ_=>true):=countP_lt (a:=w.o) (λ_ _=>rfl) (zY.mpr (g w hw).2) (by rw [ho];rfl) rfl
  have e:(List.range n).countP (λ_=>true)=n:=by rw [List.countP_eq_length.mpr (λ_ _=>rfl),yt]
  have h:n<=(List.range n).countP (λi=>(agF ms day first (lone k x) n i).isSome):=h
  omega
theorem agF_end {n:Nat}{ms:List M4}{day first x:Int}{k:Nat} (g:∀ x∈ways2 ms,x.g < n/\x.o < n) (hk:k < n) (D:DayOk ms day first x):∀ j,agF ms day first (lone k x) (n + j)=agF ms day first (lone k x) n
 | 0=>rfl
 | j + 1=>by
  have ih:=agF_end g hk D j
  rw [<-Nat.add_assoc,agF_shut (by rw [ih];exact agF_closed g hk D),ih]
theorem ways_in {n:Nat}{ms:List M4} (g:Good n ms):∀ x∈ways2 ms,x.g < n/\x.o < n:=λx hx=>by
 obtain ⟨a,b,_⟩:=wR g hx
 omega
end Sm
namespace L2
open PySem PySem.Spec PyProof.Rows
section
variable {X:Cx}{tg:Expr}
end
end L2
namespace L2
open PySem PySem.Spec PyProof.Rows
section
variable {X:Cx}
theorem call_any {K:PySem.W.Frag} (hK:X.K=K) (hc:X.calm=true):CallR X (.builtin "any") (λxs H Q=>∃ p,∃ bs:List Bool,xs=[.ref p]/\SqL K H p (bs.map V.bl)/\Q (.bl (bs.any id)) H):=by
 subst hK
 intro pins s σ H xs us Q I r h
 obtain ⟨p,bs,rfl,hq,q⟩:=h
 obtain ⟨u,rfl,rx⟩:=vals1 r
 cases rx
 obtain ⟨its,r',pl,hz⟩:=I.list hq
 obtain ⟨m,F⟩:=I.fr
 exact LSm.any_bools F (news_all (g:=X.base) (h:=s.heap)) (I.ok.hd hc) pl.isList (bools_of r') λh' tk F' N'=>⟨.bl _,H,I.keptAll F F' N',rfl,q⟩
theorem op_neUnit (hu:X.A.units + 64 < cLine):OpR X (compareOp .NotEq) (λx y H Q=>∃ a b xs,x=.ref a/\y=.ref b/\SqT X.K H a xs/\SqT X.K H b []/\Q (.bl (!xs.isEmpty)) H):=by
 intro pins s σ H x y v u Q I rx ry h
 obtain ⟨a,b,xs,rfl,rfl,ha,hb,q⟩:=h
 cases rx;cases ry
 obtain ⟨its,r,p,_⟩:=I.tuple ha
 obtain ⟨its2,r2,p2,_⟩:=I.tuple hb
 cases r2
 cases r with
 | nil=>exact SeqAt.RcNeAt.tuples (e:=λ_=>true) p p2 (by omega) (λj h1 h2=>absurd h2 (zd _)) _ _ _ _ ⟨.bl _,H,I,rfl,q⟩
 | cons r1 rr=>exact SeqAt.RcNeAt.tuples (e:=λ_=>true) p p2 (by omega) (λj h1 h2=>absurd h2 (zd _)) _ _ _ _ ⟨.bl _,H,I,rfl,by simpa using q⟩
end
end L2
namespace HT
open PySem PySem.Spec PyProof.Rows
section
variable {prog:Program}{w:World}{A:Around}{E:Value->Shared->Prop}{s:Shared}
end
end HT
namespace L2
open PySem PySem.Spec PyProof.Rows
section
variable {X:Cx}
end
end L2
namespace Sm
open PySem L2 SmSort
def CameD (ms:List M4) (day:Int) (k:Nat) (f:Fn) (kvs:List (Key×V)) (H:Hp):Prop:=
 ∀ o t,f o=some t->o=k\/∃ tt n g turn y,valV kvs (Sum.inl (o:Int))=some (.ref tt)/\H tt=some (.tup [.int ((n:Nat):Int),.int turn,.int ((g:Nat):Int)])/\0<=turn/\Link ms n g o (t - turn * day)/\f g=some y/\y < t
theorem CameD.tups {ms:List M4}{day:Int}{k:Nat}{f:Fn}{kvs:List (Key×V)}{H H':Hp} (c:CameD ms day k f kvs H) (t:Tups H H'):CameD ms day k f kvs H':=λo x h=>by
 rcases c o x h with e | ⟨tt,n,g,u,y,a1,a2,a3⟩
 ·exact .inl e
 ·exact .inr ⟨tt,n,g,u,y,a1,t _ _ a2,a3⟩
theorem CameD.step {ms:List M4}{day turn:Int}{k:Nat}{f:Fn}{kvs:List (Key×V)}{H:Hp}{tt:Addr}{x:W4} (c:CameD ms day k f kvs H) (t0:0<=turn) (ho:f x.w.o=none) (hb:below (f x.w.g) (x.w.t + turn * day)=true) (hl:Link ms x.n x.w.g x.w.o x.w.t)
  (ht:H tt=some (.tup [.int (x.n:Int),.int turn,.int (x.w.g:Int)])):CameD ms day k (put f x.w.o (some (x.w.t + turn * day))) (putK kvs (Sum.inl (x.w.o:Int)) (.ref tt)) H:=λo t h=>by
 have keep:∀ g y,f g=some y->put f x.w.o (some (x.w.t + turn * day)) g=some y:=λg y e=>by rw [xt λz=>by rw [z,ho] at e;cases e];exact e
 by_cases e:o=x.w.o
 ·subst e
  rw [xk] at h;cases h
  obtain ⟨y,hy,lt⟩:=below_iff.mp hb
  refine .inr ⟨tt,x.n,x.w.g,turn,y,by rw [valV_put,if_pos rfl],ht,t0,?_,keep _ _ hy,lt⟩
  rw [show x.w.t + turn * day - turn * day=x.w.t by omega]
  exact hl
 ·rw [xt e] at h
  rcases c o t h with e' | ⟨t2,n,g,u,y,a1,a2,a3,a4,a5,a6⟩
  ·exact .inl e'
  ·refine .inr ⟨t2,n,g,u,y,?_,a2,a3,a4,keep _ _ a5,a6⟩
   rw [valV_put,if_neg λz=>e (by have:=Sum.inl.inj z;omega)]
   exact a1
def spAg2:Sp:=λvs H Q _=>∃ b,∃ day:Int,∃ k:Nat,∃ x rooms tr tm ps,vs=[.ref b,.int day,.int k,.int x]/\BookAt H b rooms tr tm ps/\rooms.length<=1000/\Good rooms.length (ps.map (·.2))/\1<=day/\day<=1000000000/\0<=x/\x<=2000000000 /\
 ∀ t l d kvs H',H l=none->Same H H'->H' t=some (.tup [.ref l,.ref d])->H' l=some (.lst ((rep rooms.length (agF (ps.map (·.2)) day (x / day) (lone k x) rooms.length)).map oV))->H' d=some (.dK kvs)->CameD (ps.map (·.2)) day k (agF (ps.map (·.2)) day (x / day) (lone k x) rooms.length) kvs H'->Q (.ref t) H'
def spNeed:Sp:=λvs H Q _=>∃ b,∃ day:Int,∃ rooms tr tm ps,vs=[.ref b,.int day]/\BookAt H b rooms tr tm ps/\ps.length<=1000/\1<=day/\day<=1000000/\(∀ m∈ps.map (·.2),m.t<=day)/\∀ H',Same H H'->Q .non H'
def spAgT:Sp:=λvs H Q _=>∃ b,∃ day:Int,∃ k:Nat,∃ x rooms tr tm ps,vs=[.ref b,.int day,.int k,.int x]/\BookAt H b rooms tr tm ps/\rooms.length<=1000/\Good rooms.length (ps.map (·.2))/\1<=day/\day<=1000000/\(∀ m∈ps.map (·.2),m.t<=day)/\0<=x/\x<=2000000000 /\
 ∀ l H',H l=none->Same H H'->H' l=some (.lst ((rep rooms.length (agF (ps.map (·.2)) day (x / day) (lone k x) rooms.length)).map oV))->Q (.ref l) H'
def spSqz:Sp:=λvs H Q _=>∃ p b rooms tr tm ps,vs=[.ref p,.ref b]/\BookAt H b rooms tr tm ps/\rooms.length<=60/\Good rooms.length (ps.map (·.2))/\Purse H p /\
 ∀ b' tm' ps' H',Go p H H'->BookAt H' b' rooms tr tm' ps'->Good rooms.length (ps'.map (·.2))->(∀ m∈ps'.map (·.2),m.t<=1000000)->Q (.ref b') H'
def spDayOf:Sp:=λvs H Q _=>∃ p b rooms tr tm ps,vs=[.ref p,.ref b]/\BookAt H b rooms tr tm ps/\Good rooms.length (ps.map (·.2))/\(∀ m∈ps.map (·.2),m.t<=1000000)/\Purse H p /\
 ∀ d H',Go p H H'->1<=d->d<=1000000->(∀ m∈ps.map (·.2),m.t<=d)->Q (.int d) H'
theorem again_len (ms:List M4) (day first:Int):∀ n,(again ms day first n).length=n * ms.length
 | 0=>by rw [Nat.zero_mul];rfl
 | n + 1=>by
  show (again ms day first n++_).length=_
  rw [zP,again_len ms day first n,zA,Nat.succ_mul]
structure SqOk (w:Int) (ms:List M4) (i:Nat) (now ahead:Int) (qs:List (M4×M4)):Prop where
 old:qs.map (·.1)=ms.take i
 each:∀ q∈qs,q.2.lo=q.1.lo/\q.2.hi=q.1.hi/\q.2.m=q.1.m/\1<=q.2.t/\q.2.t<=now/\(q.2.t=now->q.1.t=ahead)
 ord:(qs.map (·.2)).Pairwise λa b=>a.t < b.t\/(a.t=b.t/\a.lo < b.lo/\apart a b)
 pos:1<=now\/ahead=0
 now0:0<=now
 most:now<=16000 * i
theorem SqOk.step {w:Int}{ms:List M4}{i:Nat}{now ahead add:Int}{qs:List (M4×M4)} (g:Good w ms) {r:M4} (hr:ms[i]?=some r) (S:SqOk w ms i now ahead qs) (h:(r.t=ahead/\add=0)\/(r.t≠ahead/\1<=add/\add<=16000)) :
  SqOk w ms (i + 1) (now + add) r.t (qs++[(r,⟨r.lo,r.hi,now + add,r.m⟩)]):=by
 obtain ⟨a1,a2,a3,a4,a5,_⟩:=g.each r (zC hr)
 have hn:1<=now + add:=by
  rcases h with ⟨h,_⟩ | ⟨_,h,_⟩
  ·rcases S.pos with p | p
   ·omega
   ·omega
  ·have:=S.now0;omega
 have n0:=S.now0
 have nm:=S.most
 refine ⟨by rw [zG,S.old,xp hr];rfl,λq hq=>?_,?_,.inl hn,by omega,by omega⟩
 ·rcases zS.mp hq with hq | hq
  ·obtain ⟨b1,b2,b3,b4,b5,b6⟩:=S.each q hq
   refine ⟨b1,b2,b3,b4,by omega,λe=>?_⟩
   have e0:add=0:=by omega
   rw [b6 (by omega)]
   rcases h with ⟨h,_⟩ | ⟨_,h,_⟩
   ·exact h.symm
   ·omega
  ·cases zH.mp hq
   exact ⟨rfl,rfl,rfl,hn,zX _,λ_=>rfl⟩
 ·rw [zG,z4]
  refine ⟨S.ord,zv _ _,λa ha b hb=>?_⟩
  cases zH.mp hb
  obtain ⟨q,hq,rfl⟩:=zI.mp ha
  obtain ⟨b1,b2,b3,b4,b5,b6⟩:=S.each q hq
  show q.2.t < now + add\/(q.2.t=now + add/\q.2.lo < r.lo/\apart q.2 _)
  by_cases e:q.2.t < now + add
  ·exact .inl e
  ·have e0:add=0:=by omega
   rcases h with ⟨h,_⟩ | ⟨_,h,_⟩
   ·have et:=b6 (by omega)
    have hq1:q.1∈ms.take i:=by rw [<-S.old];exact zI.mpr ⟨q,hq,rfl⟩
    obtain ⟨j,hj⟩:=List.mem_iff_getElem?.mp hq1
    have ji:j < i:=by
     have:=(zB.mp hj).1
     rw [zZ] at this;omega
    rw [List.getElem?_take,if_pos ji] at hj
    obtain ⟨l1,e1⟩:=zB.mp hj
    obtain ⟨l2,e2⟩:=zB.mp hr
    have o:=zW.mp g.order j i l1 l2 ji
    rw [e1,e2] at o
    rcases o with o | ⟨_,o1,o2⟩
    ·omega
    ·refine .inr ⟨by omega,by omega,?_⟩
     unfold apart at o2 ⊢
     dsimp only
     rw [b1,b2];exact o2
   ·omega
theorem SqOk.good {w:Int}{ms:List M4}{now ahead:Int}{qs:List (M4×M4)} (g:Good w ms) (S:SqOk w ms ms.length now ahead qs):Good w (qs.map (·.2))/\∀ m∈qs.map (·.2),m.t<=1000000:=by
 have f:=g.few
 have nm:=S.most
 have hold:=S.old
 rw [zf] at hold
 have hl:qs.length=ms.length:=by rw [<-hold,zA]
 refine ⟨⟨by rw [zA,hl];exact f,λr hr=>?_,S.ord⟩,λr hr=>?_⟩
 ·obtain ⟨q,hq,rfl⟩:=zI.mp hr
  obtain ⟨b1,b2,b3,b4,b5,b6⟩:=S.each q hq
  obtain ⟨a1,a2,a3,a4,a5,a6,a7⟩:=g.each q.1 (by rw [<-hold];exact zI.mpr ⟨q,hq,rfl⟩)
  rw [b1,b2,b3]
  exact ⟨a1,a2,a3,b4,by omega,a6,a7⟩
 ·obtain ⟨q,hq,rfl⟩:=zI.mp hr
  obtain ⟨b1,b2,b3,b4,b5,b6⟩:=S.each q hq
  omega
theorem last_most:∀ {ms:List M4}{r m:M4},ms.Pairwise (λa b=>a.t<=b.t)->ms.getLast?=some r->m∈ms->m.t<=r.t
 | [],_,_,_,_,h=>nomatch h
 | [a],r,m,_,hr,h=>by
  cases hr
  cases zH.mp h
  exact zX _
 | a::b::ms,r,m,hp,hr,h=>by
  rw [List.getLast?_cons_cons] at hr
  rw [zg] at hp
  rcases zF.mp h with rfl | h
  ·exact hp.1 r (ye hr)
  ·exact last_most hp.2 hr h
end Sm
namespace L2
open PySem PySem.Spec PyProof.Rows
section
variable {X:Cx}
end
end L2
namespace Sm
open PySem L2 SmSort
def walkD (ms:List M4) (day:Int):Nat->Int->List (Int×Int)->Option (Nat×Int)
 | v,t,[]=>some (v,t)
 | v,t,c::cs=>match ms[c.1.toNat]? with
  | none=>none
  | some m=>if 0<=c.1/\0<=c.2/\(v=m.lo.toNat\/v=m.hi.toNat)/\t < m.t + c.2 * day then walkD ms day (if v=m.lo.toNat then m.hi.toNat else m.lo.toNat) (m.t + c.2 * day) cs else none
theorem walkD_cons {ms:List M4}{day:Int}{n g o:Nat}{turn y t:Int}{cs:List (Int×Int)} (h:Link ms n g o (t - turn * day)) (ne:g≠o) (lt:y < t) (h0:0<=turn):walkD ms day g y (((n:Int),turn)::cs)=walkD ms day o t cs:=by
 obtain ⟨m,hm,et,h⟩:=h
 have et:m.t + turn * day=t:=by omega
 conv=>lhs;unfold walkD
 dsimp only
 rw [show ((n:Int)).toNat=n from by simp,hm]
 dsimp only
 rw [et]
 rcases h with ⟨rfl,rfl⟩ | ⟨rfl,rfl⟩
 ·rw [if_pos ⟨by omega,h0,.inl rfl,lt⟩,if_pos rfl]
 ·rw [if_pos ⟨by omega,h0,.inr rfl,lt⟩,if_neg λz=>ne z]
def muD (n:Nat) (E:Fn) (σ:St):Nat:=match σ[8]? with
 | some (some (V.int v))=>(match E v.toNat with
  | some e=>rankE n E e
  | none=>0)
 | _=>0
theorem agF_self {ms:List M4}{day first x:Int}{k:Nat}:∀ r,agF ms day first (lone k x) r k=some x
 | 0=>by show lone k x k=some x;unfold lone;rw [if_pos rfl]
 | r + 1=>by rw [agF_succ];exact fold_keep (agF_self r)
def spAgC:Sp:=λvs H Q _=>∃ b,∃ day:Int,∃ k w:Nat,∃ x rooms tr tm ps,vs=[.ref b,.int day,.int k,.int x,.int w]/\BookAt H b rooms tr tm ps/\rooms.length<=1000/\Good rooms.length (ps.map (·.2))/\w < rooms.length/\1<=day/\day<=1000000/\(∀ m∈ps.map (·.2),m.t<=day)/\0<=x/\x<=2000000000 /\
 (agF (ps.map (·.2)) day (x / day) (lone k x) rooms.length w=none->∀ H',Same H H'->Q .non H') /\
 ∀ e l (cs:List (Addr×Int×Int)) H',agF (ps.map (·.2)) day (x / day) (lone k x) rooms.length w=some e->H l=none->Same H H'->H' l=some (.lst (cs.map λc=>V.ref c.1))->(∀ c∈cs,H' c.1=some (.tup [.int c.2.1,.int c.2.2]))->(w=k->cs=[])->cs.length<=rooms.length->walkD (ps.map (·.2)) day k x (cs.map (·.2))=some (w,e)->Q (.ref l) H'
end Sm
namespace Sm
open PySem L2 SmSort
structure DE (ms:List M4) (day:Int) (k:Nat) (x:Int) (E:Fn):Prop where
 self:E k=some x
 low:∀ i t,E i=some t->x<=t
 orig:∀ i t,i≠k->E i=some t->∃ u∈ways2 ms,∃ turn:Int,u.o=i/\u.t + turn * day=t/\∃ y,E u.g=some y/\y < t
 clos:∀ u∈ways2 ms,∀ (turn y:Int),E u.g=some y->y < u.t + turn * day->∃ e,E u.o=some e/\e<=u.t + turn * day
section
variable {ms:List M4}{day:Int}{k k':Nat}{x x':Int}{E E':Fn}
theorem DE.ind (h:DE ms day k x E) {P:Nat->Int->Prop} (h0:P k x) (hs:∀ u∈ways2 ms,∀ (turn y:Int),u.o≠k->E u.g=some y->y < u.t + turn * day->E u.o=some (u.t + turn * day)->P u.g y->P u.o (u.t + turn * day)):∀ i t,E i=some t->P i t:=by
 have key:∀ (n:Nat) (i:Nat) (t:Int),(t - x).toNat=n->E i=some t->P i t:=by
  intro n
  induction n using Nat.strongRecOn with
  | _ n ih=>
   intro i t en e
   by_cases c:i=k
   ·subst c
    rw [h.self] at e;cases e
    exact h0
   ·obtain ⟨u,hu,turn,rfl,rfl,y,hy,ly⟩:=h.orig i t c e
    have:=h.low _ _ hy
    exact hs u hu turn y c hy ly e (ih (y - x).toNat (by omega) u.g y rfl hy)
 exact λi t e=>key _ i t rfl e
theorem DE.below (h:DE ms day k x E) {f:Fn} (cl:∀ u∈ways2 ms,∀ (turn y:Int),f u.g=some y->y < u.t + turn * day->∃ e,f u.o=some e/\e<=u.t + turn * day) (hk:∃ z,f k=some z/\z<=x):∀ i,leO (f i) (E i):=λi t e=>by
 refine h.ind (P:=λi t=>∃ z,f i=some z/\z<=t) hk (λu hu turn y _ hy ly _ ⟨z,hz,lz⟩=>?_) i t e
 exact cl u hu turn z hz (by omega)
theorem leO_anti {a b:Option Int} (h:leO a b) (h':leO b a):a=b:=by
 cases a with
 | none=>
  cases b with
  | none=>rfl
  | some y=>obtain ⟨z,e,_⟩:=h y rfl;cases e
 | some y=>
  obtain ⟨z,e,l⟩:=h' y rfl
  obtain ⟨w,e',l'⟩:=h z e
  cases e'
  rw [e,show y=z by omega]
theorem DE.uniq (h:DE ms day k x E) (h':DE ms day k x E'):E=E':=funext λi=>leO_anti (h'.below h.clos ⟨x,h.self,zX _⟩ i) (h.below h'.clos ⟨x,h'.self,zX _⟩ i)
theorem DE.mono (h:DE ms day k x E) (h':DE ms day k x' E') (le:x<=x'):∀ i,leO (E i) (E' i):=h'.below h.clos ⟨x,h.self,le⟩
def shiftF (d:Int) (E:Fn):Fn:=λi=>(E i).map (· + d)
theorem shift_some {d:Int}{i:Nat}{t:Int}:shiftF d E i=some t↔E i=some (t - d):=by
 unfold shiftF
 cases E i with
 | none=>simp
 | some y=>
  simp only [yb,Option.some.injEq]
  omega
theorem DE.shift (h:DE ms day k x E):DE ms day k (x + day) (shiftF day E):=by
 have mu:∀ turn:Int,(turn - 1) * day=turn * day - day:=λturn=>by rw [Int.sub_mul,xA]
 refine ⟨shift_some.mpr (by rw [show x + day - day=x by omega];exact h.self),λi t e=>?_,λi t c e=>?_,λu hu turn y e l=>?_⟩
 ·have:=h.low _ _ (shift_some.mp e);omega
 ·obtain ⟨u,hu,turn,e1,e2,y,hy,ly⟩:=h.orig i _ c (shift_some.mp e)
  have m1:(turn + 1) * day=turn * day + day:=by rw [yx,xA]
  exact ⟨u,hu,turn + 1,e1,by omega,y + day,shift_some.mpr (by rw [show y + day - day=y by omega];exact hy),by omega⟩
 ·have m1:=mu turn
  obtain ⟨e',h1,h2⟩:=h.clos u hu (turn - 1) (y - day) (shift_some.mp e) (by omega)
  exact ⟨e' + day,shift_some.mpr (by rw [show e' + day - day=e' by omega];exact h1),by omega⟩
theorem DE.wait (h:DE ms day k x E) (le:x<=x') (ne:∀ u∈ways2 ms,u.g≠u.o) (no:∀ u∈ways2 ms,(u.g=k\/u.o=k)->∀ turn:Int,x < u.t + turn * day->x' < u.t + turn * day):DE ms day k x' (put E k (some x')):=by
 have late:∀ i t,E i=some t->i=k\/x' < t:=λi t e=>by
  refine h.ind (P:=λi t=>i=k\/x' < t) (.inl rfl) (λu hu turn y c hy ly _ ih=>.inr ?_) i t e
  rcases ih with ih | ih
  ·rw [ih,h.self] at hy;cases hy
   exact no u hu (.inl ih) turn ly
  ·omega
 refine ⟨xk,λi t e=>?_,λi t c e=>?_,λu hu turn y e l=>?_⟩
 ·by_cases c:i=k
  ·rw [c,xk] at e;cases e;exact zX _
  ·rw [xt c] at e
   rcases late i t e with z | z
   ·exact absurd z c
   ·omega
 ·rw [xt c] at e
  obtain ⟨u,hu,turn,e1,e2,y,hy,ly⟩:=h.orig i t c e
  refine ⟨u,hu,turn,e1,e2,?_⟩
  by_cases cg:u.g=k
  ·rw [cg,h.self] at hy;cases hy
   exact ⟨x',by rw [cg,xk],by have:=no u hu (.inl cg) turn (by omega);omega⟩
  ·exact ⟨y,by rw [xt cg];exact hy,ly⟩
 ·by_cases cg:u.g=k
  ·rw [cg,xk] at e;cases e
   obtain ⟨e',h1,h2⟩:=h.clos u hu turn x (by rw [cg];exact h.self) (by omega)
   exact ⟨e',by rw [xt λz=>ne u hu (cg.trans z.symm)];exact h1,h2⟩
  ·rw [xt cg] at e
   obtain ⟨e',h1,h2⟩:=h.clos u hu turn y e l
   by_cases co:u.o=k
   ·refine ⟨x',by rw [co,xk],?_⟩
    have:=h.low _ _ e
    have:=no u hu (.inr co) turn (by omega)
    omega
   ·exact ⟨e',by rw [xt co];exact h1,h2⟩
theorem DE.set (h:DE ms day k x E) {S:Nat->Prop} (hk:S k) (cl:∀ u∈ways2 ms,S u.g->S u.o):∀ i t,E i=some t->S i:=
 λi t e=>h.ind (P:=λi _=>S i) hk (λu hu _ _ _ _ _ _ ih=>cl u hu ih) i t e
theorem DE.shut (h:DE ms day k x E) (d1:1<=day):∀ u∈ways2 ms,E u.g≠none->E u.o≠none:=λu hu hg=>by
 obtain ⟨y,hy⟩:=zw.mp hg
 obtain ⟨e,he,_⟩:=h.clos u hu (y - u.t + 1 + (if 0<=y - u.t + 1 then 0 else 0) |>.toNat:Nat) y hy (by
  have hn:y - u.t + 1<=((y - u.t + 1 + (if 0<=y - u.t + 1 then 0 else 0)).toNat:Int):=by split <;> omega
  have h0:(0:Int)<=((y - u.t + 1 + (if 0<=y - u.t + 1 then 0 else 0)).toNat:Int):=Int.natCast_nonneg _
  have:=Int.mul_le_mul_of_nonneg_left d1 h0
  rw [Int.mul_one] at this
  omega)
 rw [he];exact λz=>nomatch z
theorem DE.same (h:DE ms day k x E) (h':DE ms day k x' E') (d1:1<=day) (i:Nat):E i=none↔E' i=none:=by
 have key:∀ {E E':Fn}{x x':Int},DE ms day k x E->DE ms day k x' E'->E i=none->E' i=none:=λ{E E' x x'} a b e=>by
  cases q:E' i with
  | none=>rfl
  | some t=>
   exact absurd e (b.set (S:=λi=>E i≠none) (by rw [a.self];exact λz=>nomatch z) (a.shut d1) i t q)
 exact ⟨key h h',key h' h⟩
end
theorem again_sorted {ms:List M4}{day first:Int} (d1:1<=day) (o:ms.Pairwise λa b=>a.t<=b.t) (each:∀ m∈ms,1<=m.t/\m.t<=day):∀ N,(again ms day first N).Pairwise (λa b=>a.t<=b.t)/\∀ m∈again ms day first N,m.t<=(first + N) * day
 | 0=>⟨.nil,λ_ h=>nomatch h⟩
 | N + 1=>by
  obtain ⟨p,q⟩:=again_sorted (first:=first) d1 o each N
  have e2:(first + ((N + 1:Nat):Int)) * day=(first + N) * day + day:=by
   rw [show first + ((N + 1:Nat):Int)=(first + N) + 1 by omega,yx,xA]
  refine ⟨?_,λm hm=>?_⟩
  ·show (again ms day first N++ms.map (M4.late ((first + N) * day))).Pairwise _
   rw [z4]
   refine ⟨p,?_,λa ha b hb=>?_⟩
   ·rw [zz]
    exact o.imp λ{a b} h=>by show a.t + _<=b.t + _;omega
   ·obtain ⟨m,hm,rfl⟩:=zI.mp hb
    have:=q a ha
    have:=each m hm
    show a.t<=m.t + (first + N) * day
    omega
  ·rcases zS.mp (show m∈again ms day first N++_ from hm) with h | h
   ·have:=q m h;omega
   ·obtain ⟨m',hm',rfl⟩:=zI.mp h
    have:=each m' hm'
    show m'.t + (first + N) * day<=_
    omega
theorem again_ways {ms:List M4}{day first:Int}:∀ {N:Nat}{w:W3},w∈ways2 (again ms day first N)->∃ u∈ways2 ms,∃ c:Nat,c < N/\w=u.late ((first + c) * day)
 | 0,w,h=>by cases h
 | N + 1,w,h=>by
  have e:ways2 (again ms day first (N + 1))=ways2 (again ms day first N)++(ways2 ms).map (W3.late ((first + N) * day)):=by
   rw [<-ways2_late]
   unfold ways2
   rw [<-List.flatMap_append];rfl
  rw [e] at h
  rcases zS.mp h with h | h
  ·obtain ⟨u,hu,c,hc,rfl⟩:=again_ways h
   exact ⟨u,hu,c,by omega,rfl⟩
  ·obtain ⟨u,hu,rfl⟩:=zI.mp h
   exact ⟨u,hu,N,by omega,rfl⟩
theorem again_has {ms:List M4}{day first:Int}{u:W3} (hu:u∈ways2 ms):∀ {N c:Nat},c < N->u.late ((first + c) * day)∈ways2 (again ms day first N)
 | 0,_,h=>absurd h (zd _)
 | N + 1,c,h=>by
  have e:ways2 (again ms day first (N + 1))=ways2 (again ms day first N)++(ways2 ms).map (W3.late ((first + N) * day)):=by
   rw [<-ways2_late]
   unfold ways2
   rw [<-List.flatMap_append];rfl
  rw [e]
  rcases ym c N with l | l
  ·exact yJ _ (again_has hu l)
  ·have:c=N:=by omega
   subst this
   exact zL _ (zI.mpr ⟨u,hu,rfl⟩)
theorem agDE {n k:Nat}{ms:List M4}{day x:Int} (g:Good n ms) (hk:k < n) (d1:1<=day) (hd:∀ m∈ms,m.t<=day):DE ms day k x (agF ms day (x / day) (lone k x) n):=by
 have each:∀ m∈ms,1<=m.t/\m.t<=day:=λm hm=>⟨(g.each m hm).2.2.2.1,hd m hm⟩
 have D:DayOk ms day (x / day) x:=DayOk.mk' d1 each
 have low:∀ i t,agF ms day (x / day) (lone k x) n i=some t->x<=t:=λi t e=>since_le e
 refine ⟨agF_self n,low,λi t c e=>?_,λu hu turn y hy ly=>?_⟩
 ·obtain ⟨w,hw,e1,e2,y,hy,ly⟩:=run_from (ws:=ways2 (again ms day (x / day) n)) (st:=lone k x) e (by unfold lone;rw [if_neg c])
  obtain ⟨u,hu,cc,_,rfl⟩:=again_ways hw
  exact ⟨u,hu,x / day + cc,e1,e2,y,hy,ly⟩
 ·obtain ⟨m,hm,et⟩:=way_in hu
  have em:=each m hm
  have lx:=low _ _ hy
  have Dl:=D.lo
  -- the turn is no earlier than the first one
  have ht:x / day<=turn:=by
   rcases Int.lt_or_le turn (x / day) with l | l
   ·exfalso
    have:=mul_le_of (show turn + 1<=x / day by omega) (show 0<=day by omega)
    have m1:(turn + 1) * day=turn * day + day:=by rw [yx,xA]
    omega
   ·exact l
  obtain ⟨c,hc⟩:=zb (show 0<=turn - x / day by omega)
  have et2:turn=x / day + c:=by omega
  subst et2
  have en:=agF_end (ways_in g) hk D (c + 1)
  rw [<-en] at hy ⊢
  have hw:=again_has (first:=x / day) (day:=day) hu (show c < n + (c + 1) by omega)
  exact run_closed (ws:=ways2 (again ms day (x / day) (n + (c + 1)))) (st:=lone k x) (λw hw=>by
    obtain ⟨u,hu,_,_,rfl⟩:=again_ways hw
    exact (wR g hu).2.2.2.2) (ways2_pw (again_sorted d1 g.ord.2 each _).1) (λa _ i y h=>.inr λj hj=>by
    unfold lone at h hj
    by_cases e:i=k
    ·by_cases e':j=k
     ·rw [e,e']
     ·rw [if_neg e'] at hj;exact absurd rfl hj
    ·rw [if_neg e] at h;cases h) _ hw y hy ly
end Sm
namespace L2
open PySem PySem.Spec PyProof.Rows
section
variable {X:Cx}{pins:List (Addr×Obj)}{σ:St}{H:Hp}{s:Shared}
theorem vals_at {xs:List V}{us:List Value} (r:Vals xs us) {j:Nat} (h:j < us.toArray.size):∃ x,xs[j]?=some x/\RelV x us.toArray[j]:=by
 have hl:=r.length
 simp only [zN] at h
 have a1:j < xs.length:=by omega
 obtain ⟨u,eu,ru⟩:=r.get (i:=j) (x:=xs[j]) (by simp [a1])
 have e1:us.toArray[j]=u:=by rw [List.getElem_toArray];exact Option.some.inj ((zU h).symm.trans eu)
 exact ⟨xs[j],by simp [a1],by rw [e1];exact ru⟩
end
end L2
namespace HT
open PySem PySem.Spec PyProof.Rows
end HT
namespace L2
open PySem PySem.Spec PyProof.Rows
section
variable {X:Cx}
end
end L2
namespace Sm
open PySem L2 SmSort
def toldStep (T:Int->Option Int) (ts:List (Int×Int)) (a:Int):List (Int×Int):=match T a with
 | none=>ts
 | some y=>if ts.getLast?.map (·.2)=some y then ts else ts++[(a,y)]
def toldF (T:Int->Option Int) (as:List Int):List (Int×Int):=as.foldl (toldStep T) []
structure StepsB (T:Int->Option Int) (ts:List (Int×Int)) (b:Int):Prop where
 head:∃ y,ts[0]?=some (0,y)
 inc:ts.Pairwise λp q=>p.1 < q.1/\p.2 < q.2
 inn:∀ p∈ts,0<=p.1/\p.1 < b
 val:∀ (j:Nat) (p:Int×Int),ts[j]?=some p->∀ s,p.1<=s->s < (match ts[j + 1]? with | some q=>q.1 | none=>b)->T s=some p.2
theorem getLast_at {α:Type}{ts:List α}{p:α} (h:ts.getLast?=some p):ts[ts.length - 1]?=some p:=by rw [<-List.getLast?_eq_getElem?];exact h
theorem StepsB.step {T:Int->Option Int}{ts:List (Int×Int)}{a b y:Int} (S:StepsB T ts a) (ab:a < b) (flat:∀ s,a<=s->s < b->T s=some y) (mono:∀ p∈ts,p.2<=y):StepsB T (toldStep T ts a) b:=by
 have Ta:T a=some y:=flat a (zX _) ab
 unfold toldStep
 rw [Ta]
 dsimp only
 obtain ⟨y0,h0⟩:=S.head
 have ne:ts≠[]:=λe=>by rw [e] at h0;cases h0
 obtain ⟨l,hl⟩:∃ l,ts.getLast?=some l:=⟨_,List.getLast?_eq_getLast ne⟩
 have hl1:=getLast_at hl
 have hlen:0 < ts.length:=List.length_pos_iff.mpr ne
 split
 ·rename_i c
  rw [hl] at c
  have c:l.2=y:=Option.some.inj c
  refine ⟨S.head,S.inc,λp hp=>⟨(S.inn p hp).1,by have:=(S.inn p hp).2;omega⟩,λj p hj s h1 h2=>?_⟩
  by_cases lj:j + 1 < ts.length
  ·have e:=S.val j p hj s h1
   rw [zU lj] at e h2
   exact e h2
  ·have ej:j=ts.length - 1:=by
    have:=(zB.mp hj).1;omega
   subst ej
   rw [hl1] at hj;cases hj
   by_cases sa:s < a
   ·have e:=S.val _ l hl1 s h1
    rw [yA (by omega)] at e
    exact e sa
   ·rw [yA (by omega)] at h2
    rw [c];exact flat s (by omega) h2
 ·rename_i c
  rw [hl] at c
  have c:l.2≠y:=λe=>c (by rw [<-e];rfl)
  have lt:∀ p∈ts,p.1 < a/\p.2 < y:=λp hp=>by
   refine ⟨(S.inn p hp).2,?_⟩
   obtain ⟨j,hj⟩:=List.mem_iff_getElem?.mp hp
   have m1:=mono l (ye hl)
   by_cases ej:j=ts.length - 1
   ·rw [ej,hl1] at hj;cases hj;omega
   ·have jl:=(zB.mp hj).1
    obtain ⟨ll,el⟩:=zB.mp hl1
    have:=(zW.mp S.inc j (ts.length - 1) jl ll (by omega)).2
    rw [(zB.mp hj).2,el] at this
    omega
  refine ⟨⟨y0,by rw [zp hlen];exact h0⟩,?_,λp hp=>?_,λj p hj s h1 h2=>?_⟩
  ·rw [z4]
   refine ⟨S.inc,zv _ _,λp hp q hq=>?_⟩
   cases zH.mp hq
   exact lt p hp
  ·rcases zS.mp hp with h | h
   ·have:=S.inn p h;exact ⟨this.1,by omega⟩
   ·cases zH.mp h
    have:=S.inn l (ye hl)
    exact ⟨by show 0<=a;omega,ab⟩
  ·rcases ym j ts.length with lj | lj
   ·rw [zp lj] at hj
    have e:=S.val j p hj s h1
    rcases ym (j + 1) ts.length with lj1 | lj1
    ·rw [zp lj1,zU lj1] at h2
     rw [zU lj1] at e
     exact e h2
    ·have ej:j + 1=ts.length:=by omega
     rw [ej,zh (zD _),Nat.sub_self] at h2
     rw [yA (by omega)] at e
     exact e h2
   ·have ej:j=ts.length:=by
     have:=(zB.mp hj).1
     rw [zP,ze] at this;omega
    subst ej
    rw [zh (zD _),Nat.sub_self] at hj
    cases hj
    rw [yA (by rw [zP,ze];omega)] at h2
    exact flat s h1 h2
theorem StepsB.first {T:Int->Option Int}{b y:Int} (hb:0 < b) (flat:∀ s,0<=s->s < b->T s=some y):StepsB T (toldStep T [] 0) b:=by
 unfold toldStep
 rw [flat 0 (zX _) hb]
 dsimp only
 rw [if_neg (by rintro ⟨⟩)]
 refine ⟨⟨y,rfl⟩,zv _ _,λp hp=>?_,λj p hj s h1 h2=>?_⟩
 ·cases zH.mp hp
  exact ⟨zX _,hb⟩
 ·cases j with
  | zero=>cases hj;exact flat s h1 h2
  | succ j=>cases hj
theorem StepsB.all {T:Int->Option Int}{day:Int} (mono:∀ s s',0<=s->s<=s'->s' < day->leO (T s) (T s')):∀ (as:List Int) (ts:List (Int×Int)) (a:Int),
  StepsB T ts a->(a::as).Pairwise (· < ·)->(∀ x∈a::as,x < day)->0<=a->(∀ s,0<=s->s < day->T s≠none)->(∀ s s',a<=s->s<=s'->s' < day->(∀ c∈a::as,¬ (s < c/\c<=s'))->T s=T s')->StepsB T (as.foldl (toldStep T) (toldStep T ts a)) day:=by
 intro as
 induction as with
 | nil=>
  intro ts a S pw lt a0 some flat
  have la:=lt a (.head _)
  obtain ⟨y,hy⟩:=zw.mp (some a a0 la)
  refine S.step (y:=y) la (λs h1 h2=>?_) λp hp=>?_
  ·rw [<-flat a s (zX _) h1 h2 λc hc=>by cases zH.mp hc;omega];exact hy
  ·obtain ⟨j,hj⟩:=List.mem_iff_getElem?.mp hp
   have e:=S.val j p hj p.1 (zX _) (by
    have hin:=S.inn p hp
    cases q:ts[j + 1]? with
    | none=>exact hin.2
    | some r=>
     obtain ⟨l1,e1⟩:=zB.mp hj
     obtain ⟨l2,e2⟩:=zB.mp q
     have:=(zW.mp S.inc j (j + 1) l1 l2 (by omega)).1
     rw [e1,e2] at this;exact this)
   have hin:=S.inn p hp
   obtain ⟨z,hz,lz⟩:=mono p.1 a hin.1 (by omega) la y hy
   rw [e] at hz;cases hz;exact lz
 | cons c as ih=>
  intro ts a S pw lt a0 some flat
  have la:=lt a (.head _)
  obtain ⟨y,hy⟩:=zw.mp (some a a0 la)
  obtain ⟨p1,p2⟩:=zg.mp pw
  have ac:=p1 c (.head _)
  have lc:=lt c (.tail _ (.head _))
  have S2:StepsB T (toldStep T ts a) c:=by
   refine S.step (y:=y) ac (λs h1 h2=>?_) λp hp=>?_
   ·rw [<-flat a s (zX _) h1 (by omega) λd hd=>by
     rcases zF.mp hd with rfl | hd
     ·omega
     ·rcases zF.mp hd with rfl | hd
      ·omega
      ·have:=(zg.mp p2).1 d hd;omega]
    exact hy
   ·obtain ⟨j,hj⟩:=List.mem_iff_getElem?.mp hp
    have e:=S.val j p hj p.1 (zX _) (by
     have hin:=S.inn p hp
     cases q:ts[j + 1]? with
     | none=>exact hin.2
     | some r=>
      obtain ⟨l1,e1⟩:=zB.mp hj
      obtain ⟨l2,e2⟩:=zB.mp q
      have:=(zW.mp S.inc j (j + 1) l1 l2 (by omega)).1
      rw [e1,e2] at this;exact this)
    have hin:=S.inn p hp
    obtain ⟨z,hz,lz⟩:=mono p.1 a hin.1 (by omega) la y hy
    rw [e] at hz;cases hz;exact lz
  show StepsB T (as.foldl (toldStep T) (toldStep T (toldStep T ts a) c)) day
  exact ih _ c S2 p2 (λx hx=>lt x (.tail _ hx)) (by omega) some λs s' h1 h2 h3 h4=>flat s s' (by omega) h2 h3 λd hd=>by
   rcases zF.mp hd with rfl | hd
   ·omega
   ·exact h4 d hd
theorem told_first {T:Int->Option Int}{day:Int}{as:List Int} (pw:(0::as).Pairwise (· < ·)) (lt:∀ x∈0::as,x < day) (mono:∀ s s',0<=s->s<=s'->s' < day->leO (T s) (T s')) (some:∀ s,0<=s->s < day->T s≠none)
  (flat:∀ s s',0<=s->s<=s'->s' < day->(∀ c∈0::as,¬ (s < c/\c<=s'))->T s=T s'):StepsB T (toldF T (0::as)) day:=by
 have d0:=lt 0 (.head _)
 obtain ⟨y,hy⟩:=zw.mp (some 0 (zX _) d0)
 unfold toldF
 rw [List.foldl_cons]
 cases as with
 | nil=>exact StepsB.first d0 λs h1 h2=>by rw [<-flat 0 s (zX _) h1 h2 λc hc=>by cases zH.mp hc;omega];exact hy
 | cons c as=>
  obtain ⟨p1,p2⟩:=zg.mp pw
  have c0:=p1 c (.head _)
  have lc:=lt c (.tail _ (.head _))
  have S:=StepsB.first (T:=T) (b:=c) (y:=y) c0 λs h1 h2=>by
   rw [<-flat 0 s (zX _) h1 (by omega) λd hd=>by
    rcases zF.mp hd with rfl | hd
    ·omega
    ·rcases zF.mp hd with rfl | hd
     ·omega
     ·have:=(zg.mp p2).1 d hd;omega]
   exact hy
  exact StepsB.all mono as _ c S p2 (λx hx=>lt x (.tail _ hx)) (by omega) some λs s' h1 h2 h3 h4=>flat s s' (by omega) h2 h3 λd hd=>by
   rcases zF.mp hd with rfl | hd
   ·omega
   ·exact h4 d hd
end Sm
namespace Sm
open PySem L2 SmSort
theorem nums_mem {ms:List M4}{w:Int}:∀ {i:Nat}{j:Int},j∈numsTo ms w i->∃ n:Nat,j=n/\n < i/\∃ r,ms[n]?=some r/\hasW w r=true
 | 0,j,h=>by cases h
 | i + 1,j,h=>by
  unfold numsTo at h
  rcases zS.mp h with h | h
  ·obtain ⟨n,e,l,r⟩:=nums_mem h
   exact ⟨n,e,by omega,r⟩
  ·split at h
   ·rename_i c
    cases zH.mp h
    cases q:ms[i]? with
    | none=>rw [q] at c;cases c
    | some r=>rw [q] at c;exact ⟨i,rfl,by omega,r,q,c⟩
   ·cases h
theorem nums_has {ms:List M4}{w:Int}{n:Nat}{r:M4} (hr:ms[n]?=some r) (h:hasW w r=true):∀ {i:Nat},n < i->(n:Int)∈numsTo ms w i
 | 0,l=>absurd l (zd _)
 | i + 1,l=>by
  unfold numsTo
  rcases ym n i with l' | l'
  ·exact yJ _ (nums_has hr h l')
  ·have e:n=i:=by omega
   subst e
   rw [hr,if_pos (show Option.any (hasW w) (some r)=true from h)]
   exact zL _ (zH.mpr rfl)
theorem nums_pw (ms:List M4) (w:Int):∀ i,(numsTo ms w i).Pairwise (· < ·)
 | 0=>.nil
 | i + 1=>by
  unfold numsTo
  rw [z4]
  refine ⟨nums_pw ms w i,?_,λa ha b hb=>?_⟩
  ·split
   ·exact zv _ _
   ·exact .nil
  ·obtain ⟨n,rfl,l,_⟩:=nums_mem ha
   split at hb
   ·cases zH.mp hb;omega
   ·cases hb
def whenOf (ms:List M4) (j:Int):Int:=((ms[j.toNat]?).map (·.t)).getD 0
def whens (ms:List M4) (k:Nat):List Int:=(numsTo ms k ms.length).map (whenOf ms)
theorem whenOf_nat {ms:List M4}{n:Nat}{r:M4} (h:ms[n]?=some r):whenOf ms (n:Int)=r.t:=by
 unfold whenOf
 rw [zy,h];rfl
theorem hasW_apart {a b:M4}{k:Int} (ha:hasW k a=true) (hb:hasW k b=true) (ap:apart a b):False:=by
 unfold hasW at ha hb
 simp only [Bool.or_eq_true,decide_eq_true_eq] at ha hb
 obtain ⟨p1,p2,p3,p4⟩:=ap
 rcases ha with h | h <;> rcases hb with h' | h' <;> omega
theorem whens_pw {w:Int}{ms:List M4} (g:Good w ms) (k:Nat):(whens ms k).Pairwise (· < ·):=by
 unfold whens
 rw [zz]
 refine (nums_pw ms k ms.length).imp_of_mem λ{a b} ha hb lt=>?_
 obtain ⟨n,rfl,l,r,hr,h⟩:=nums_mem ha
 obtain ⟨n',rfl,l',r',hr',h'⟩:=nums_mem hb
 rw [whenOf_nat hr,whenOf_nat hr']
 obtain ⟨l1,e1⟩:=zB.mp hr
 obtain ⟨l2,e2⟩:=zB.mp hr'
 have o:=zW.mp g.order n n' l1 l2 (by omega)
 rw [e1,e2] at o
 rcases o with o | ⟨_,_,ap⟩
 ·exact o
 ·exact (hasW_apart h h' ap).elim
theorem whens_mem {w:Int}{ms:List M4} (g:Good w ms) {k:Nat}{x:Int} (h:x∈whens ms k):∃ m∈ms,m.t=x:=by
 obtain ⟨j,hj,rfl⟩:=zI.mp h
 obtain ⟨n,rfl,l,r,hr,_⟩:=nums_mem hj
 exact ⟨r,zC hr,(whenOf_nat hr).symm⟩
theorem whens_has {w:Int}{ms:List M4} (g:Good w ms) {k:Nat}{u:W3} (hu:u∈ways2 ms) (h:u.g=k\/u.o=k):u.t∈whens ms k:=by
 obtain ⟨n,m,hm,et,c⟩:=way_link hu
 have e0:=g.each m (zC hm)
 have hw:hasW (k:Int) m=true:=by
  unfold hasW
  rw [Bool.or_eq_true,decide_eq_true_eq,decide_eq_true_eq]
  rcases c with ⟨c1,c2⟩ | ⟨c1,c2⟩ <;> rcases h with h | h <;> omega
 exact zI.mpr ⟨n,nums_has hm hw (zB.mp hm).1,by rw [whenOf_nat hm,et]⟩
def tOf (ms:List M4) (day:Int) (n k w:Nat) (s:Int):Option Int:=agF ms day (s / day) (lone k s) n w
def anch (ms:List M4) (day:Int) (k:Nat):List Int:=0::(whens ms k).filter λx=>decide (x≠day)
section
variable {n k w:Nat}{ms:List M4}{day:Int}
theorem tOf_told (g:Good n ms) (hk:k < n) (kw:k≠w) (d1:1<=day) (hd:∀ m∈ms,m.t<=day) (h0:tOf ms day n k w 0≠none):StepsB (tOf ms day n k w) (toldF (tOf ms day n k w) (anch ms day k)) day:=by
 have hp:∀ x∈(whens ms k).filter (λx=>decide (x≠day)),1<=x/\x < day:=λx hx=>by
  obtain ⟨h1,h2⟩:=yn.mp hx
  obtain ⟨m,hm,e⟩:=whens_mem g h1
  have:=(g.each m hm).2.2.2.1
  have:=hd m hm
  have:=of_decide_eq_true h2
  omega
 refine told_first (zg.mpr ⟨λx hx=>by have:=hp x hx;omega,(whens_pw g k).filter _⟩) (λx hx=>?_) (λs s' h1 h2 h3=>?_) (λs h1 h2 h3=>?_) λs s' h1 h2 h3 h4=>?_
 ·rcases zF.mp hx with rfl | hx
  ·omega
  ·exact (hp x hx).2
 ·exact (agDE g hk d1 hd).mono (agDE g hk d1 hd) h2 w
 ·exact h0 (((agDE (x:=0) g hk d1 hd).same (agDE (x:=s) g hk d1 hd) d1 w).mpr h3)
 ·have A:=agDE (x:=s) g hk d1 hd
  have B:=agDE (x:=s') g hk d1 hd
  have C:=A.wait h2 (λu hu=>(wR g hu).2.2.2.2) λu hu hk turn lt=>by
   obtain ⟨m,hm,et⟩:=way_in hu
   have e1:=(g.each m hm).2.2.2.1
   have e2:=hd m hm
   rcases Int.lt_or_le turn 0 with l | l
   ·have:=mul_le_of (show turn<=-1 by omega) (show 0<=day by omega)
    rw [Int.neg_one_mul] at this
    omega
   ·rcases Int.lt_or_le 0 turn with l' | l'
    ·have:=mul_le_of (show 1<=turn by omega) (show 0<=day by omega)
     rw [xA] at this
     omega
    ·have t0:turn=0:=by omega
     subst t0
     rw [Int.zero_mul,Int.add_zero] at lt ⊢
     have hu:=whens_has g hu hk
     by_cases ed:u.t=day
     ·omega
     ·have:=h4 u.t (.tail _ (yn.mpr ⟨hu,decide_eq_true ed⟩))
      omega
  have e:=B.uniq C
  show agF ms day (s / day) (lone k s) n w=agF ms day (s' / day) (lone k s') n w
  rw [e,xt kw.symm]
theorem tOf_shift (g:Good n ms) (hk:k < n) (d1:1<=day) (hd:∀ m∈ms,m.t<=day) {s y:Int} (h:tOf ms day n k w s=some y):tOf ms day n k w (s + day)=some (y + day):=by
 have e:=(agDE (x:=s + day) g hk d1 hd).uniq (agDE (x:=s) g hk d1 hd).shift
 show agF ms day ((s + day) / day) (lone k (s + day)) n w=_
 rw [e]
 exact shift_some.mpr (by rw [show y + day - day=y by omega];exact h)
end
def nextOf (ts:List (Int×Int)) (b:Int) (k:Nat):Int:=match ts[k + 1]? with
 | some q=>q.1
 | none=>b
def spWaits:Sp:=λvs H Q _=>∃ b,∃ day:Int,∃ k w:Nat,∃ rooms tr tm ps,vs=[.ref b,.int day,.int k,.int w]/\BookAt H b rooms tr tm ps/\rooms.length<=1000/\Good rooms.length (ps.map (·.2))/\k < rooms.length/\w < rooms.length/\1<=day/\day<=1000000/\(∀ m∈ps.map (·.2),m.t<=day) /\
 (tOf (ps.map (·.2)) day rooms.length k w 0=none->∀ H',Same H H'->Q .non H') /\
 ∀ l (qs:List (Addr×Int×Int)) H',tOf (ps.map (·.2)) day rooms.length k w 0≠none->H l=none->Same H H'->H' l=some (.lst (qs.map λa=>V.ref a.1))->(∀ a∈qs,H' a.1=some (.tup [.int a.2.1,.int a.2.2]))->qs.map (·.2)=toldF (tOf (ps.map (·.2)) day rooms.length k w) (anch (ps.map (·.2)) day k)->Q (.ref l) H'
theorem told_len {T:Int->Option Int}:∀ (as:List Int) (ts:List (Int×Int)),(as.foldl (toldStep T) ts).length<=ts.length + as.length
 | [],ts=>zD _
 | a::as,ts=>by
  have h:=told_len (T:=T) as (toldStep T ts a)
  have h2:(toldStep T ts a).length<=ts.length + 1:=by
   unfold toldStep
   split
   ·omega
   ·split
    ·omega
    ·rw [zP,ze];omega
  show (as.foldl (toldStep T) (toldStep T ts a)).length<=_
  rw [za]
  omega
theorem anch_len {ms:List M4}{day:Int}{k:Nat}:(anch ms day k).length<=ms.length + 1:=by
 unfold anch whens
 have h1:=numsTo_len ms k ms.length
 have h2:=ya (λx=>decide (x≠day)) ((numsTo ms k ms.length).map (whenOf ms))
 rw [zA] at h2
 rw [za]
 omega
end Sm
namespace L2
open PySem PySem.Spec PyProof.Rows
section
variable {X:Cx}
theorem int_items:∀ {ns:List Int}{its:List Value},Vals (ns.map V.int) its->∃ xs:List (Int×Tok),its=xs.map (λp=>Value.int p.1 p.2)/\xs.map (·.1)=ns
 | [],_,r=>by cases r;exact ⟨[],rfl,rfl⟩
 | n::ns,_,r=>by
  cases r with
  | cons r1 rr=>
   obtain ⟨t,rfl⟩:=r1
   obtain ⟨xs,rfl,e⟩:=int_items rr
   exact ⟨(n,t)::xs,rfl,by rw [zk,e]⟩
end
end L2
namespace Sm
open PySem L2 SmSort
end Sm
namespace L2
open PySem PySem.Spec PyProof.Rows
def Best (h:Heap) (S:Addr) (vs:Array Value):Prop:=∃ c,h.get? S=some { cls:=.type "list", dict:=none,data:=.seq vs c,slots:=#[] }
section
variable {prog:Program}{w:World}{A:Around}{R:Result->Shared->Prop}{I:Addr}{fp wr:List Addr}{n:Nat}{P:Nat->Value->Prop}{St:Nat->Heap->Prop}
def KeptBut (wr:List Addr) (S:Addr) (h h':Heap):Prop:=∀ b o,b ∉ wr->b≠S->h.get? b=some o->h'.get? b=some o
theorem maxD_on (W:Walks prog w A.in1 I fp wr n P St) {bt:Nat->Nat->Bool} (cmp:CmpOf prog w A.in1 .Gt P bt) {S:Addr} (ns:S ∉ fp) {d:Value} (left:Nat) :
  ∀ (j:Nat) (s:Shared) (v:Value),j + 1 + left=n->St (j + 1) s.heap->P (argBest bt j) v->Best s.heap S #[v,v] ->
   (∀ u h' tk,P (argBest bt (n - 1)) u->KeptBut wr S s.heap h'->R (.ok (.ret u)) { s with heap:=h',toks:=tk }) ->
   codeAny (model prog w) A (.builtin "max.loop" ⟨[.ref I,.none,.ref S],[("default", d)]⟩) R s:=by
 have nw:S ∉ wr:=λz=>ns (W.sub _ z)
 have nm:(toString "max" ++ toString ".loop" : String) = "max.loop" := by decide
 induction left with
 | zero=>
  rintro j s v hj st hp ⟨c,hS⟩ fin
  have hj:j + 1=n:=hj
  refine codeAny_builtin F.entry_max_loop (by
   rw [Around.under_plainId F.plain_max_loop _]
   show wpAny _ A.in1 (seqItems? (.ref S) >>= _) _ _ s
   refine wpAny_bind (wpAny_seqItems hS rfl (show wpAny _ A.in1 (tryCatch (pyNext (.ref I)) _ >>= _) _ _ s from ?_))
   refine wpAny_bind (wpAny_tryCatch (W.done s _ _ (hj ▸ st) λh' tk kp=>?_))
   refine wpAny_bind (m:=updateSeq S (λ_=>#[])) (wpAny_updateSeq (kp S _ nw hS) rfl (wpAny_bind (wpAny_letGo (wpAny_pure ?_))))
   exact fin v _ tk (by rw [<-hj];exact hp) λb o b1 b2 e=>(Heap.get?_update_other _ _ b2.symm).trans (kp b o b1 e))
 | succ left ih=>
  rintro j s v hj st hp ⟨c,hS⟩ fin
  refine codeAny_builtin F.entry_max_loop (by
   rw [Around.under_plainId F.plain_max_loop _]
   show wpAny _ A.in1 (seqItems? (.ref S) >>= _) _ _ s
   refine wpAny_bind (wpAny_seqItems hS rfl (show wpAny _ A.in1 (tryCatch (pyNext (.ref I)) _ >>= _) _ _ s from ?_))
   refine wpAny_bind (wpAny_tryCatch (W.item (j + 1) s _ _ (by omega) st λu h' tk hu st' kp=>?_))
   have hS':=kp S _ nw hS
   refine wpAny_bind (wpAny_pure ?_)
   refine wpAny_bind (show wpAny _ A.in1 (tryCatch (holding [u,u] (richCompare .Gt u v >>= _)) _) _ _ _ from wpAny_tryCatch (wpAny_holding (wpAny_bind (cmp (j + 1) (argBest bt j) u v _ _ _ hu hp ?_))))
   refine wpAny_bind (wpAny_holding (wpAny_truthy_bool (wpAny_bind (wpAny_letGo (wpAny_pure ?_)))))
   cases e:bt (j + 1) (argBest bt j) with
   | true=>
    rw [if_pos rfl]
    refine wpAny_bind (wpAny_updateSeq hS' rfl (wpAny_bind (wpAny_letGo ?_)))
    rw [nm]
    refine wpAny_pure ⟨plainId_quiet F.plain_max_loop _,ih (j + 1) _ u (by omega) (W.frame _ _ _ st' λb hb o q=>?_) (by unfold argBest;rw [e];exact hu) ⟨_,Heap.get?_update_self _ hS' rfl⟩ λu' h2 tk2 hp2 kp2=>?_⟩
    ·exact (Heap.get?_update_other _ _ (λz:S=b=>ns (by rw [z];exact hb))).trans q
    ·exact fin u' h2 tk2 hp2 λb o b1 b2 q=>kp2 b o b1 b2 ((Heap.get?_update_other _ _ b2.symm).trans (kp b o b1 q))
   | false=>
    rw [if_neg zM]
    refine wpAny_bind (wpAny_letGo ?_)
    rw [nm]
    exact wpAny_pure ⟨plainId_quiet F.plain_max_loop _,ih (j + 1) _ v (by omega) st' (by unfold argBest;rw [e];exact hp) ⟨_,hS'⟩ λu' h2 tk2 hp2 kp2=>fin u' h2 tk2 hp2 λb o b1 b2 q=>kp2 b o b1 b2 (kp b o b1 q)⟩)
theorem maxD_first (W:Walks prog w A.in1 I fp wr n P St) {bt:Nat->Nat->Bool} (cmp:CmpOf prog w A.in1 .Gt P bt) {S:Addr} (ns:S ∉ fp) {d:Value}{s:Shared} (st:St 0 s.heap) (hS:Best s.heap S #[])
  (fin:∀ u h' tk,(n=0/\u=d\/0 < n/\P (argBest bt (n - 1)) u)->KeptBut wr S s.heap h'->R (.ok (.ret u)) { s with heap:=h',toks:=tk }) :
  codeAny (model prog w) A (.builtin "max.loop" ⟨[.ref I,.none,.ref S],[("default", d)]⟩) R s:=by
 have nw:S ∉ wr:=λz=>ns (W.sub _ z)
 have nm:(toString "max" ++ toString ".loop" : String) = "max.loop" := by decide
 obtain ⟨c,hS⟩:=hS
 refine codeAny_builtin F.entry_max_loop (by
  rw [Around.under_plainId F.plain_max_loop _]
  show wpAny _ A.in1 (seqItems? (.ref S) >>= _) _ _ s
  refine wpAny_bind (wpAny_seqItems hS rfl (show wpAny _ A.in1 (tryCatch (pyNext (.ref I)) _ >>= _) _ _ s from ?_))
  cases n with
  | zero=>
   refine wpAny_bind (wpAny_tryCatch (W.done s _ _ st λh' tk kp=>?_))
   refine wpAny_bind (wpAny_rule (wpAny_pure ?_))
   exact fin d h' tk (.inl ⟨rfl,rfl⟩) λb o b1 _ e=>kp b o b1 e
  | succ n=>
   refine wpAny_bind (wpAny_tryCatch (W.item 0 s _ _ (Nat.succ_pos _) st λu h' tk hu st' kp=>?_))
   have hS':=kp S _ nw hS
   refine wpAny_bind (m:=updateSeq S (λ_=>#[u,u])) (wpAny_updateSeq hS' rfl ?_)
   rw [nm]
   refine wpAny_pure ⟨plainId_quiet F.plain_max_loop _,maxD_on W cmp ns n 0 _ u (by omega) (W.frame _ _ _ st' λb hb o q=>?_) hu ⟨_,Heap.get?_update_self _ hS' rfl⟩ λu' h2 tk2 hp2 kp2=>?_⟩
   ·exact (Heap.get?_update_other _ _ (λz:S=b=>ns (by rw [z];exact hb))).trans q
   ·exact fin u' h2 tk2 (.inr ⟨Nat.succ_pos _,hp2⟩) λb o b1 b2 q=>kp2 b o b1 b2 ((Heap.get?_update_other _ _ b2.symm).trans (kp b o b1 q)))
theorem args_maxD (a d:Value):argsOk "max" ⟨[a],[("default", d)]⟩:=by unfold argsOk;kernel_rfl
theorem call_maxD {E:Value->Shared->Prop}{s:Shared}{x d:Value}{Q:Value->Shared->Prop}
  (h:wpAny (model prog w) A.in1 (pyIter x) (λit s₂=>∃ I fp wr n P St bt,it=.ref I/\Walks prog w A.in1 I fp wr n P St/\St 0 s₂.heap/\(∀ b∈fp,b < s₂.heap.objs.size)/\CmpOf prog w A.in1 .Gt P bt /\
   ∀ v h' tk,(n=0/\v=d\/0 < n/\P (argBest bt (n - 1)) v)->(∀ b o,b ∉ wr->s₂.heap.get? b=some o->h'.get? b=some o)->Q v { s₂ with heap:=h',toks:=tk }) E s) :
  wpAny (model prog w) A (call (.builtin "max") [x] [("default", d)]) Q E s:=by
 have nm:(toString "max" ++ toString ".loop" : String) = "max.loop" := by decide
 refine wpAny_call (codeAny_call_builtin F.plain_max F.entry_max ?_)
 have ok:=args_maxD x d
 have go:wpAny (model prog w) A.in1 (Builtin.«max» ⟨[x],[("default", d)]⟩) (λfin s'=>match fin with
   | .done f=>(match (Except.ok f:Result) with | .ok (.ret v)=>Q v s' | .ok _=>False | .error e=>E e s')
   | .again c'=>c'.quiet=true/\codeAny (model prog w) A c' (λr s'=>match r with | .ok (.ret v)=>Q v s' | .ok _=>False | .error e=>E e s') s') (λe s'=>E e s') s:=by
  show wpAny _ A.in1 (Builtin.Builtins.bindParams "max" ["key", "default"] 0 ⟨[],[("default", d)]⟩ >>= _) _ _ s
  refine wpAny_bind (wpAny_of_eq (show Builtin.Builtins.bindParams "max" ["key", "default"] 0 ⟨[],[("default", d)]⟩=pure [none,some d] from rfl) (wpAny_bind (wpAny_pure ?_)))
  refine wpAny_bind (wpAny_mono h (λit s₂ hh=>?_) λ_ _ e=>e)
  obtain ⟨I,fp,wr,n,P,St,bt,rfl,W,st,lt,cmp,fin⟩:=hh
  refine wpAny_bind (wpAny_newObj_type ?_)
  have ns:s₂.heap.objs.size ∉ fp:=λz=>z8 _ (lt _ z)
  rw [nm]
  refine wpAny_pure ⟨plainId_quiet F.plain_max_loop _,maxD_first W cmp ns (W.frame _ _ _ st λb _ o e=>Heap.get?_push_of_some _ e) ⟨_,Heap.get?_push_size _ rfl⟩ λu h' tk hu kp=>?_⟩
  exact fin u h' tk hu λb o b1 e=>kp b o b1 (zQ (Heap.lt_size e)) (Heap.get?_push_of_some _ e)
 simp only [checkBuiltinCall,F.kind_max]
 cases sg:Manifest.signature? "max" with
 | none=>exact wpAny_pure go
 | some sig=>
  simp only [argsOk,sg] at ok
  show wpAny _ A.in1 (Bind.checkArgs "max" sig ⟨[x],[("default", d)]⟩) _ _ s
  rw [ok];exact wpAny_pure go
end
end L2
namespace L2
open PySem PySem.Spec PyProof.Rows
section
variable {X:Cx}{e dv:Expr}{te tv:TE}{np kp pos:Pos}
def tMaxD (K:PySem.W.Frag) (te tv:TE):TE:=fun σ H Q=>te σ H λx H1=>tv σ H1 λy H2=>∃ p ns d,[x]=[V.ref p]/\y=.int d/\SqL K H2 p (List.map V.int ns)/\∀ M,(ns=[]/\M=d\/M∈ns/\∀ a∈ns,a<=M)->Q (.int M) H2
theorem pe_maxD {K:PySem.W.Frag} (hK:X.K=K) (hc:X.calm=true) (hg:Gl X "max") (hm:X.mg "max" = none) (he:PE X e te) (hd:PE X dv tv) (ns:notStar e=true) :
  PE X (.Call (.Name "max" np) [e] [⟨some "default", dv,kp⟩] pos) (tMaxD K te tv):=by
 subst hK
 intro pins s σ H Q I h
 have ha:PA X [e] (tCons te tNil):=xG (xH he xS ns)
 refine wpAny_Call_Name_kw (ld_blt I hg hm yO ?_ (by decide) (by decide))
 refine callWith_kw (thn (ha pos pins s σ H (λvs H1=>tv σ H1 λy H2=>∃ p ns d,vs=[V.ref p]/\y=.int d/\SqL X.K H2 p (List.map V.int ns)/\∀ M,(ns=[]/\M=d\/M∈ns/\∀ a∈ns,a<=M)->Q (.int M) H2) I h) λus s1 ⟨vs,H1,I1,r1,q1⟩=>kws_cons (thn (hd pins s1 σ H1 _ I1 q1) λv s2 ⟨y,H2,I2,ry,q2⟩=>kws_nil ?_)) (by rw [star_cons ns];rfl) (by rw [star_cons ns];rfl)
 obtain ⟨p,ms,d,rfl,rfl,hp,q⟩:=q2
 obtain ⟨u,rfl,ru⟩:=vals1 r1
 cases ru
 obtain ⟨td,rfl⟩:=ry
 obtain ⟨its,r,pl,_⟩:=I2.list hp
 obtain ⟨ys,rfl,ey⟩:=int_items r
 have hl:ys.length=ms.length:=by rw [<-ey,zA]
 have li:s2.heap.IsList p (intItems ys.toArray):=by
  have:=pl.isList
  unfold intItems
  rw [List.map_toArray]
  exact this
 have hh:X.A.handled=none:=I2.ok.hd hc
 refine call_maxD (iter_intList li λs₂ es st hfp hlI=>?_)
 subst es
 refine ⟨_,_,_,_,_,_,_,rfl,Walks.list (A:=X.A.in1) hh _ p hlI (intItems ys.toArray),st,hfp,CmpOf.ints_gt (numAt ys.toArray) (λ_ _=>intItems_at),λv h' tk hv kp=>?_⟩
 have kk:=old_kept kp
 have sz:(intItems ys.toArray).size=ms.length:=by simp [intItems,hl]
 rw [sz] at hv
 rcases hv with ⟨n0,rfl⟩ | ⟨n0,hv⟩
 ·exact ⟨.int d,H2,I2.kept kk,⟨_,rfl⟩,q d (.inl ⟨List.eq_nil_of_length_eq_zero n0,rfl⟩)⟩
 ·obtain ⟨t,rfl⟩:=intItems_at hv
  obtain ⟨b1,b2⟩:=argBest_gt (numAt ys.toArray) (ms.length - 1)
  have nat':∀ j (h:j < ms.length),numAt ys.toArray j=ms[j]:=λj h=>by
   rw [numAt_eq]
   simp [ey,h]
  refine ⟨.int _,H2,I2.kept kk,⟨_,rfl⟩,q _ (.inr ⟨?_,λa ha=>?_⟩)⟩
  ·rw [nat' _ (by omega)];exact zq _
  ·obtain ⟨j,hj,rfl⟩:=List.mem_iff_getElem.mp ha
   have:=b2 j (by omega)
   rw [nat' j hj] at this
   exact this
end
end L2
namespace Sm
open PySem L2 SmSort
theorem ahead {n:Nat}{ms:List M4}{m:M4} (g:Good n (ms++[m])) {v:Nat}{x y:Int}{i:Nat} (hi:i≠v) (h:fwd ms (lone v x) i=some y):y<=m.t/\((i=m.lo.toNat\/i=m.hi.toNat)->y < m.t):=by
 obtain ⟨a,ha,ao,at',_⟩:=run_from (ws:=ways2 ms) h (by simp [lone,hi])
 unfold ways2 at ha
 obtain ⟨c,hc,hx⟩:=yl.mp ha
 have od:=(z4.mp g.order).2.2 c hc m (by simp)
 obtain ⟨c1,c2,c3,_⟩:=g.each c (by simp [hc])
 obtain ⟨m1,m2,m3,_⟩:=g.each m (by simp)
 unfold two at hx
 simp only [zF,zi,or_false] at hx
 have ct:c.t=y:=by rcases hx with rfl | rfl <;> exact at'
 have ci:i=c.lo.toNat\/i=c.hi.toNat:=by
  rcases hx with rfl | rfl
  ·exact .inr ao.symm
  ·exact .inl ao.symm
 refine ⟨by rcases od with h | h <;> omega,λhm=>?_⟩
 rcases od with h | ⟨h1,h2,h3,h4,h5,h6⟩
 ·omega
 ·exfalso
  rcases ci with e | e <;> rcases hm with e' | e' <;> omega
end Sm
namespace L2
open PySem PySem.Spec PyProof.Rows
section
variable {X:Cx}{pins:List (Addr×Obj)}{σ:St}{H:Hp}{s:Shared}
theorem ps_setComp {ix:Nat}{xn:Str}{pos' spos:Pos}{own:List Str}{caps:List Nat}{elt tg iter:Expr}{ifs:List Expr}{scope:Scope}{pos:Pos}{wi:TI}{g:TG}{tc:TT}{te:TE} (hN:X.N.Nodup) (hix:X.N[ix]?=some xn) (hxl:Loc X.env.scope xn) (hc:X.calm=true) (S:CompScope own caps X.N X.env.scope scope) (hi:PI X tg iter wi)
  (hg:∀ s H fp C,PG (cxComp X own caps scope s H fp C) tg g) (ht:∀ s H fp C,PTs (cxComp X own caps scope s H fp C) ifs tc) (he:∀ s H fp C,PE (cxComp X own caps scope s H fp C) elt te)
  (hs:∀ x,foldedSetIterable iter X.env x=pure x:=by intro _;rfl) (hsw:swapsWith (.ListComp elt [⟨tg,iter,ifs,0⟩] scope pos) (some (.Name xn pos')) spos.line X.env=pure true:=by rfl)
  (hf:X.fn xn=true\/X.env.scope.names.lookup xn=some .local:=by first | exact .inl rfl | exact .inr rfl | assumption) :
  PS X (.Assign [.Name xn pos'] (.ListComp elt [⟨tg,iter,ifs,0⟩] scope pos) spos) (tAsg (tComp own.length caps wi g tc te) (gName ix)):=by
 intro pins s σ H D0 I h
 rw [exec_Assign_Name_used _ _ _ _ hsw,arm_evalThenUse_ListComp]
 suffices main:wpAny (model X.prog X.w) X.A (comprehension (.ListComp elt [⟨tg,iter,ifs,0⟩] scope pos) scope X.env (firstIterPos [⟨tg,iter,ifs,0⟩] pos) (newList []) false (eval iter X.env) (some (assign (.Name xn pos') X.env))) (λ_ s1=>SP X pins D0 .next s1) X.xe s from
  wpAny_bind (wpAny_standAt (wpAny_bind (wpAny_bind (wpAny_mono main (λ_ s1 h=>wpAny_pure (wpAny_pure h)) λ_ _ e=>e))))
 refine wpAny_comprehension_free (use:=some _) (cl:=clOf scope.names X.env []) rfl hs (closureFor_eq λy hy e=>I.ok.has y.1 (S.fr y hy e)) S.kind S.loc
  (wpAny_mono (hi pins s σ H _ I h) (λv s1 h1=>thn h1 λitv s2 h2=>?_) λ_ _ e=>e)
 obtain ⟨it,fp,tn,J,H2,e,I2,T,st2,f2,W,⟨m0,w0⟩,turn⟩:=h2
 subst e
 refine wpAny_newObj_type (wpAny_newFunctionEnv S.nocell (by intro y hy;simp at hy) (λh₁ hns₁ hsb₁=>?_) S.kind)
 dsimp only at hns₁ hsb₁ ⊢
 generalize hH2:s2.heap.push { cls:=.type "list", dict:=none,data:=.seq ([]:List Value).toArray }=G at hns₁ hsb₁ ⊢
 have hG:G.objs.size=s2.heap.objs.size + 1:=by rw [<-hH2,Heap.size_push]
 have hDC:s2.heap.objs.size≠G.objs.size:=by rw [hG];exact zQ (Nat.lt_succ_self _)
 have hCle:s2.heap.objs.size<=G.objs.size:=by rw [hG];exact yw _
 have below:∀ b,b < s2.heap.objs.size->b≠G.objs.size:=λb hb=>by rw [hG];exact zQ (yQ hb)
 have old:∀ b o,s2.heap.get? b=some o->h₁.get? b=some o:=λb o e=>hsb₁.extBut b o (below b (Heap.lt_size e)) (Heap.get?_push_of_some _ (hH2 ▸ Heap.get?_push_of_some _ e))
 have hacc:h₁.get? s2.heap.objs.size=some { cls:=.type "list", dict:=none,data:=.seq ([]:List Value).toArray }:=hsb₁.extBut _ _ hDC (Heap.get?_push_of_some _ (hH2 ▸ Heap.get?_push_size _ rfl))
 have fl:∀ b∈fp,b < s2.heap.objs.size:=λb hb=>let ⟨o,e,_⟩:=T.obj _ _ st2 b hb;Heap.lt_size e
 have hns₁':h₁.Ns G.objs.size λ_=>none:=hns₁
 have I4:=inv_comp (tk:=s2.toks + ([]:List (Str×Value)).length) I2 S f2 fl (zD _) hCle hDC old hns₁' hacc (λv z=>nomatch z)
 have st4:tn 0 h₁:=T.keep _ _ _ st2 λb _ o e=>old b o e
 generalize hs4:({ s2 with heap:=h₁,toks:=s2.toks + ([]:List (Str×Value)).length }:Shared)=s4 at I4 ⊢
 have e4:s4.heap=h₁:=by rw [<-hs4]
 rw [<-e4] at st4
 -- the loop
 have loop:codeAny (model X.prog X.w) X.A (.compLoop (.ListComp elt [⟨tg,iter,ifs,0⟩] scope pos) 0 (.ref it) (.ref s2.heap.objs.size) (compEnvC scope (clOf scope.names X.env []) G.objs.size X.env))
   (compPost (model X.prog X.w) X.A X.xe (some (assign (.Name xn pos') X.env)) (λ_ s1=>SP X pins D0 .next s1) (.ref s2.heap.objs.size) G.objs.size) s4:=by
  let Y:=cxComp X own caps scope s2 H2 fp G.objs.size
  have stat:∀ {H':Hp}{its:List Value}{n:Nat},(∀ b∈fp,H' b=none)->∀ b∈fp,FpOk Y [(s2.heap.objs.size,({ cls:=.type "list", data:=.seq its.toArray n }:Obj))] H' b:=λ{H' its n} hn b hb=>by
   refine ⟨hn b hb,below b (fl b hb),λz=>?_,.inl hb,λx c e=>(f2 b hb).2.2.2.2.1 x c (xu e),λp hp=>?_⟩
   ·rcases zF.mp (I2.stkSub b z) with e | e
    ·exact (f2 b hb).2.1 e
    ·exact (f2 b hb).2.2.1 e
   ·have e:p=(s2.heap.objs.size,({ cls:=.type "list", data:=.seq its.toArray n }:Obj)):=by simpa using (show p∈[]++[_] from hp)
    subst e
    exact yF (fl b hb)
  refine loop_comp (λn s'=>∃ i τ acc its k H',Inv Y [(s2.heap.objs.size,({ cls:=.type "list", data:=.seq its.toArray k }:Obj))] τ H' s'/\tn i s'.heap/\(∀ b∈fp,H' b=none)/\Vals acc its/\W i n τ acc H') ?_ m0
   ⟨0,_,[],[],0,H2,I4,st4,λb hb=>(f2 b hb).1,.nil,w0⟩
  rintro n s5 ⟨i,τ,acc,its,k,H5,I5,st5,fr5,rv5,w5⟩
  rcases turn i n τ acc H5 w5 with ⟨stop,hz,q⟩ | ⟨go,hz,step⟩
  ·refine thn (T.done Y rfl rfl rfl hc i _ s5 τ H5 (λ_ _=>False) I5 (stat fr5) st5 stop) λr s6 ⟨hr,I6⟩=>?_
   subst hr
   obtain ⟨eD,nD,_,_,_⟩:=I6.pin _ (zL _ (zH.mpr rfl))
   obtain ⟨m6,hm6,_⟩:=I6.loc
   have hC6:H5 G.objs.size=none:=I6.free
   have hok6:HOk X.prog X.w H5 s6.heap:=I6.hok
   have ub:=I6.base
   have IX:Inv X pins σ (upd H5 s2.heap.objs.size (.lst acc)) s6:=by
    refine I2.call' (ch:=fp) (s':=s6) I6.os ⟨λb o e n' hb hx=>ub.keep b o e n' hb hx,λb o e n' hb hx=>?_,λb o e n' hx=>?_,λb o e hx=>?_,λb xs e=>?_,λb o u e=>?_,λb ps e=>?_⟩
     (hok6.track nD ⟨hz,its,k,rv5,eD⟩) I6.bare λb hb=>⟨(f2 b hb).2.2.2.1,(f2 b hb).2.1,(f2 b hb).2.2.2.2.1,(f2 b hb).2.2.2.2.2⟩
    ·exact ub.slot b o e n' hb hx
    ·rw [xO (zQ (Heap.lt_size e))]
     exact ub.free b o e n' hx
    ·exact ub.there b o e hx
    ·have z:=ub.tups b xs e
     rw [xO (xJ z nD)];exact z
    ·have z:=ub.frzs b o u e
     rw [xO (xJ z nD)];exact z
    ·obtain ⟨more,z⟩:=ub.tbls b ps e
     exact ⟨more,by rw [xO (xJ z nD)];exact z⟩
   have hCX:(upd H5 s2.heap.objs.size (.lst acc)) G.objs.size=none:=by rw [xO (Ne.symm hDC)];exact hC6
   have fC:FpOk X pins (upd H5 s2.heap.objs.size (.lst acc)) G.objs.size:=I2.fpOk hCle hCX
   obtain ⟨oC,esC,epC,gC,dC,rC⟩:=hm6
   have IP:=IX.pinned (fp:=[G.objs.size]) (λb hb=>by cases zH.mp hb;exact fC) (λb hb=>by cases zH.mp hb;exact ⟨oC,gC,λv z=>by rw [dC] at z;cases z⟩)
   refine wpAny_assign_Name (store_ok IP hN hix hxl (v:=.ref s2.heap.objs.size) rfl (λs7 I7=>?_) hf)
   have pC:=(I7.pin (G.objs.size,oC) (zL _ (zL _ (wV (zH.mpr rfl) gC)))).1
   refine ⟨m6,⟨oC,esC,epC,pC,dC,rC⟩,λh' hsb=>?_⟩
   have I8:Inv X pins (σ.set ix (some (.ref s2.heap.objs.size))) (upd H5 s2.heap.objs.size (.lst acc)) { s7 with heap:=h' }:=I7.unpinned.turned (t':=s7.toks) (λb o hb e=>hsb.extBut b o hb e) fC.1 fC.2.1 fC.2.2.2.1 fC.2.2.2.2.1 fC.2.2.2.2.2
   exact ⟨_,_,I8,q _ nD⟩
  ·refine thn (T.item Y rfl rfl rfl hc i _ s5 τ H5 (λ_ _=>False) I5 (stat fr5) st5 go) λr s6 ⟨u,hr,h6⟩=>?_
   subst hr
   refine thn h6 λ_ s7 ⟨x,H7,I7,r7,y7,st7,fr7⟩=>?_
   have I7':=I7.pinned (stat fr7) (T.obj _ _ st7)
   refine thn (hg s2 H2 fp G.objs.size _ s7 τ H7 x u _ I7' r7 (step x H7 y7)) λ_ s8 ⟨τ8,H8,I8,q8⟩=>?_
   refine thn (ht s2 H2 fp G.objs.size _ s8 τ8 H8 _ I8 q8) λok s9 ⟨H9,I9,q9⟩=>?_
   -- the iterator's state behind the turn
   have back:∀ {s':Shared}{τ':St}{H':Hp},Inv Y ([(s2.heap.objs.size,({ cls:=.type "list", data:=.seq its.toArray k }:Obj))]++pinsAt fp s7.heap) τ' H' s'->(tn (i + 1) s'.heap/\∀ b∈fp,H' b=none):=λ{s' τ' H'} Ib=>
    ⟨T.keep _ _ _ st7 λb hb o e=>(Ib.pin (b,o) (zL _ (zL _ (wV hb e)))).1,λb hb=>by
     obtain ⟨o,e,d⟩:=T.obj _ _ st7 b hb
     exact (Ib.pin (b,o) (zL _ (zL _ (wV hb e)))).2.1⟩
   cases ok with
   | false=>
    obtain ⟨m',hm',w'⟩:=q9
    obtain ⟨sb,fb⟩:=back I9
    exact ⟨m',hm',i + 1,τ8,acc,its,k,H9,I9.unpinned,sb,fb,rv5,w'⟩
   | true=>
    refine thn (he s2 H2 fp G.objs.size _ s9 τ8 H9 _ I9 q9) λy s10 ⟨yv,H10,I10,r10,q10⟩=>?_
    obtain ⟨m',hm',w'⟩:=q10
    obtain ⟨sb,fb⟩:=back I10
    obtain ⟨eD,nD,neD,nfD,_⟩:=I10.pin (s2.heap.objs.size,_) (zL _ (yJ _ (zH.mpr rfl)))
    have hl:acc.length=its.length:=rv5.length
    refine call_meets F.slot_list_append ⟨_,eD,rfl⟩ F.entry_list_append (F.args_list_append_2 _ _) (PySem.list_append s2.heap.objs.size its.toArray k y (by rw [zN];omega)) ⟨eD,?_⟩
    have q:=PySem.IsL.update eD (λa:Array Value=>a.push y)
    have Iu:Inv Y [] τ8 H10 s10:=I10.pins_of λp hp=>nomatch hp
    have It:=Iu.turned (t':=s10.toks) (it:=s2.heap.objs.size) (h':=s10.heap.update s2.heap.objs.size (Obj.mapSeq (λa:Array Value=>a.push y))) (λb o hb e=>(Heap.get?_update_other s10.heap _ (Ne.symm hb)).trans e) nD neD (.inr (zD _))
     (λx c e z=>by
      obtain ⟨v,ob,hob,_⟩:=I2.cell x c (xu e)
      exact absurd (Heap.lt_size hob) (by rw [z];exact z8 _)) (λp hp=>nomatch hp)
    have It':=It.pins_of (pins':=[(s2.heap.objs.size,({ cls:=.type "list", data:=.seq (its++[y]).toArray (k + 1) }:Obj))]) λp hp=>by
     have e:p=_:=zH.mp hp
     subst e
     exact ⟨by simpa using q,nD,neD,nfD,λv z=>nomatch z⟩
    refine ⟨m',hm',i + 1,τ8,acc++[yv],its++[y],_,H10,It',T.keep _ _ _ sb λb hb o e=>(Heap.get?_update_other s10.heap _ (yF (fl b hb))).trans e,fb,rv5.append (.cons r10 .nil),w'⟩
 exact codeAny_compStart_list loop (T.self _ 0 s4 _ _ st4 loop)
end
end L2
namespace L2
open PySem PySem.Spec PyProof.Rows
section
variable {K:PySem.W.Frag}{a:Addr}{xs:List V}{n:Nat}{caps:List Nat}{g:TG}{tc:TT}{te:TE}{σ:St}{H:Hp}{Qf:Addr->Hp->List V->Prop}
theorem comp_enumL (Pv:Nat->St->List V->Hp->Prop) (h0:Pv 0 (tau0 n caps σ) [] H) (hn:xs.length<=1000) (hl:∀ i τ acc H,Pv i τ acc H->acc.length<=i/\SqL K H a xs)
  (hs:∀ i x q τ acc H (C:St->List V->Hp->Prop),xs[i]?=some x->H q=none->Pv i τ acc H->(∀ τ acc H,Pv (i + 1) τ acc H->C τ acc H)->g (.ref q) τ (upd H q (.tup [.int i,x])) fun τ2 H2=>tc τ2 H2 λb H3=>if b=true then te τ2 H3 λy H4=>C τ2 (acc++[y]) H4 else C τ2 acc H3)
  (hd:∀ τ acc H,Pv xs.length τ acc H->∀ p,H p=none->Qf p H acc) :
  ∃ W:Nat->Nat->St->List V->Hp->Prop,(∃ m,W 0 m (tau0 n caps σ) [] H)/\∀ i m τ acc H,W i m τ acc H ->
   ((IteL K a).stop i H/\acc.length<=sizeLine/\∀ p,H p=none->Qf p H acc) \/
   ((IteL K a).go i H/\acc.length < sizeLine/\∀ x H',(IteL K a).yld i H x H'->g x τ H' fun τ2 H2=>tc τ2 H2 λb H3=>if b=true then te τ2 H3 λy H4=>∃ m',m' < m/\W (i + 1) m' τ2 (acc++[y]) H4 else ∃ m',m' < m/\W (i + 1) m' τ2 acc H3):=
 comp_of (J:=IteL K a) Pv xs.length h0 hn (λi τ acc H p=>(hl i τ acc H p).1) (λi τ acc H hi p=>⟨xs,xs[i],(hl i τ acc H p).2,by simp [hi]⟩) (fun τ acc H p=>⟨xs,(hl _ τ acc H p).2,zD _⟩)
  (λi τ acc H C hi p c x H' y=>by obtain ⟨q,x',hq,e1,e2,y⟩:=y;subst e1;subst e2;exact hs i x' q τ acc _ C (y xs (hl i τ acc _ p).2) hq p c) hd
end
end L2
namespace Sm
open PySem L2 SmSort
def Conn (ms:List M4) (k i:Nat):Prop:=∀ S:Nat->Prop,S k->(∀ u∈ways2 ms,S u.g->S u.o)->S i
theorem Conn.refl {ms:List M4}{k:Nat}:Conn ms k k:=λ_ h _=>h
theorem Conn.step {ms:List M4}{k:Nat}{u:W3} (hu:u∈ways2 ms) (h:Conn ms k u.g):Conn ms k u.o:=λS hk cl=>cl u hu (h S hk cl)
theorem DE.conn {ms:List M4}{day:Int}{k:Nat}{x:Int}{E:Fn} (h:DE ms day k x E) (d1:1<=day) (i:Nat):E i≠none↔Conn ms k i:=by
 constructor
 ·intro hi
  obtain ⟨t,ht⟩:=zw.mp hi
  exact h.set (S:=Conn ms k) Conn.refl (λu hu=>Conn.step hu) i t ht
 ·intro c
  exact c (λi=>E i≠none) (by rw [h.self];exact λz=>nomatch z) (h.shut d1)
def spHangs:Sp:=λvs H Q _=>∃ b,∃ k:Nat,∃ rooms tr tm ps,vs=[.ref b,.int k]/\k < rooms.length/\BookAt H b rooms tr tm ps/\rooms.length<=1000/\Good rooms.length (ps.map (·.2)) /\
 ∀ l (f:Nat->Bool) H',(∀ i,f i=true↔Conn (ps.map (·.2)) k i)->H l=none->Same H H'->H' l=some (.lst ((((List.range rooms.length).filter f).map λi:Nat=>(i:Int)).map V.int))->Q (.ref l) H'
end Sm
namespace L2
open PySem PySem.Spec PyProof.Rows
def Eqv (K:PySem.W.Frag) (H:Hp):Nat->V->V->Bool->Prop
 | 0,x,y,b=>(x=y/\(∃ a,x=.ref a)/\b=true)\/(flatV x=true/\flatV y=true/\b=eqV x y)
 | n + 1,x,y,b=>(x=y/\(∃ a,x=.ref a)/\b=true)\/(flatV x=true/\flatV y=true/\b=eqV x y)\/∃ (a c:Addr) (xs ys:List V) (e:Nat->Bool),x=.ref a/\y=.ref c/\((SqL K H a xs/\SqL K H c ys)\/(SqT K H a xs/\SqT K H c ys))/\(a=c->b=true)/\b=(decide (xs.length=ys.length) && (List.range xs.length).all e)/\∀ (i:Nat) (x y:V),xs[i]?=some x->ys[i]?=some y->Eqv K H n x y (e i)
section
variable {X:Cx}{pins:List (Addr×Obj)}{σ:St}{H:Hp}{s:Shared}
theorem eqv_eq (I:Inv X pins σ H s):∀ (n:Nat) {A:Around}{x y:V}{b:Bool}{u v:Value},A.units + n < cLine->Eqv X.K H n x y b->RelV x u->RelV y v->SeqAt.EqAt A s u v b
 | n,A,x,y,b,u,v,hu,h,ru,rv=>by
  have base1:x=y/\(∃ a,x=.ref a)/\b=true->SeqAt.EqAt A s u v b:=by
   rintro ⟨rfl,⟨a,rfl⟩,rfl⟩
   cases ru;cases rv
   exact SeqAt.EqAt.same _
  have base2:flatV x=true/\flatV y=true/\b=eqV x y->SeqAt.EqAt A s u v b:=by
   rintro ⟨h1,h2,rfl⟩
   exact eqAt_V (A:=A) (s:=s) ru rv h1 h2
  cases n with
  | zero=>exact h.elim base1 base2
  | succ n=>
   rcases h with h | h | ⟨a,c,xs,ys,e,rfl,rfl,h,hs,hb,hi⟩
   ·exact base1 h
   ·exact base2 h
   ·cases ru;cases rv
    by_cases ne:a=c
    ·rw [hs ne,ne];exact SeqAt.EqAt.same _
    refine SeqAt.EqAt.of_refs ne ?_
    rcases h with ⟨h1,h2⟩ | ⟨h1,h2⟩
    ·obtain ⟨its,r1,p1,_⟩:=I.list h1
     obtain ⟨its2,r2,p2,_⟩:=I.list h2
     have l1:=r1.length
     have l2:=r2.length
     by_cases hl:xs.length=ys.length
     ·have:=SeqAt.RcAt.lists (A:=A) (e:=e) p1.isList p2.isList (by simp;omega) (by omega) λj h1 h2=>by
       obtain ⟨x,ex,rx⟩:=vals_at r1 h1
       obtain ⟨y,ey,ry⟩:=vals_at r2 h2
       exact eqv_eq I n (by show A.units + 1 + n < cLine;omega) (hi j x y ex ey) rx ry
      rw [hb,decide_eq_true hl,Bool.true_and,l1]
      simpa using this
     ·rw [hb,decide_eq_false hl,yW]
      exact SeqAt.RcAt.lists_lengths (A:=A) p1.isList p2.isList (by simp;omega) (by omega)
    ·obtain ⟨its,r1,p1,_⟩:=I.tuple h1
     obtain ⟨its2,r2,p2,_⟩:=I.tuple h2
     have l1:=r1.length
     have l2:=r2.length
     have:=SeqAt.RcAt.tuples (A:=A) (e:=e) p1 p2 (by omega) λj h1 h2=>by
      obtain ⟨x,ex,rx⟩:=vals_at r1 h1
      obtain ⟨y,ey,ry⟩:=vals_at r2 h2
      exact eqv_eq I n (by show A.units + 1 + n < cLine;omega) (hi j x y ex ey) rx ry
     by_cases hl:xs.length=ys.length
     ·rw [hb,decide_eq_true hl,Bool.true_and,l1]
      have e1:its2.length=its.length:=by omega
      simpa [e1] using this
     ·rw [hb,decide_eq_false hl,yW]
      have e1:¬ its.length=its2.length:=by omega
      have e2:(its.toArray.size == its2.toArray.size)=false:=by simp [e1]
      rw [e2,Bool.and_false] at this
      exact this
def rEqv (K:PySem.W.Frag) (neg:Bool):R2:=λx y H Q=>∃ (n:Nat) (a c:Addr) (xs ys:List V) (e:Nat->Bool) (b:Bool),n<=20/\x=.ref a/\y=.ref c/\((SqL K H a xs/\SqL K H c ys)\/(SqT K H a xs/\SqT K H c ys))/\b=(decide (xs.length=ys.length) && (List.range xs.length).all e)/\(∀ (i:Nat) (x y:V),xs[i]?=some x->ys[i]?=some y->Eqv K H n x y (e i))/\Q (.bl (if neg then !b else b)) H
theorem op_neE (hu:X.A.units + 64 < cLine):OpR X (compareOp .NotEq) (rEqv X.K true):=by
 intro pins s σ H x y v u Q I rx ry h
 obtain ⟨n,a,c,xs,ys,e,b,hn,rfl,rfl,h,hb,hi,q⟩:=h
 cases rx;cases ry
 rw [if_pos rfl,hb] at q
 rcases h with ⟨h1,h2⟩ | ⟨h1,h2⟩
 ·obtain ⟨its,r1,p1,_⟩:=I.list h1
  obtain ⟨its2,r2,p2,_⟩:=I.list h2
  have l1:=r1.length
  have l2:=r2.length
  by_cases hl:xs.length=ys.length
  ·rw [decide_eq_true hl,Bool.true_and,l1] at q
   exact SeqAt.RcNeAt.lists (e:=e) p1.isList p2.isList (by simp;omega) (by omega) (λj h1 h2=>by
    obtain ⟨x,ex,rx⟩:=vals_at r1 h1
    obtain ⟨y,ey,ry⟩:=vals_at r2 h2
    exact eqv_eq I n (by show X.A.units + 1 + n < cLine;omega) (hi j x y ex ey) rx ry) _ _ _ _ ⟨.bl _,H,I,rfl,by simpa using q⟩
  ·rw [decide_eq_false hl,yW] at q
   exact SeqAt.RcNeAt.lists_lengths p1.isList p2.isList (by simp;omega) (by omega) _ _ _ _ ⟨.bl _,H,I,rfl,q⟩
 ·obtain ⟨its,r1,p1,_⟩:=I.tuple h1
  obtain ⟨its2,r2,p2,_⟩:=I.tuple h2
  have l1:=r1.length
  have l2:=r2.length
  have key:((List.range (min its.toArray.size its2.toArray.size)).all e && its.toArray.size == its2.toArray.size)=(decide (xs.length=ys.length) && (List.range xs.length).all e):=by
   by_cases hl:xs.length=ys.length
   ·have e1:its2.length=its.length:=by omega
    rw [decide_eq_true hl,Bool.true_and,l1];simp [e1]
   ·have e1:¬ its.length=its2.length:=by omega
    rw [decide_eq_false hl,yW];simp [e1]
  rw [<-key] at q
  exact SeqAt.RcNeAt.tuples (e:=e) p1 p2 (by omega) (λj h1 h2=>by
   obtain ⟨x,ex,rx⟩:=vals_at r1 h1
   obtain ⟨y,ey,ry⟩:=vals_at r2 h2
   exact eqv_eq I n (by show X.A.units + 1 + n < cLine;omega) (hi j x y ex ey) rx ry) _ _ _ _ ⟨.bl _,H,I,rfl,q⟩
end
theorem Eqv.rows {α:Type} [DecidableEq α] {f:α->V} (hf:∀ x,flatV (f x)=true) (he:∀ x y,eqV (f x) (f y)=decide (x=y)) {K:PySem.W.Frag}{H:Hp}{n:Nat}{a c:Addr}{xs ys:List α} (h:(H a=some (.lst (xs.map f))/\H c=some (.lst (ys.map f)))\/(H a=some (.tup (xs.map f))/\H c=some (.tup (ys.map f)))):Eqv K H (n + 1) (.ref a) (.ref c) (decide (xs=ys)):=by
 have fi:∀ x y,f x=f y->x=y:=λx y e=>by
  have:=he x y
  rw [e,he y y] at this
  simpa using this.symm
 have inj:∀ {l m:List α},l.map f=m.map f->l=m:=λ{l m} e=>List.map_inj_right (λx y=>fi x y) |>.mp e
 refine .inr (.inr ⟨a,c,xs.map f,ys.map f,λi=>decide (xs[i]?=ys[i]?),rfl,rfl,h.imp (λh=>⟨SqL.of h.1,SqL.of h.2⟩) (λh=>⟨SqT.of h.1,SqT.of h.2⟩),λe=>?_,?_,λi x y hx hy=>?_⟩)
 ·subst e
  rw [decide_eq_true_eq]
  rcases h with ⟨h1,h2⟩ | ⟨h1,h2⟩
  ·rw [h1] at h2
   injection h2 with h2;injection h2 with h2;exact inj h2
  ·rw [h1] at h2
   injection h2 with h2;injection h2 with h2;exact inj h2
 ·rw [zA,zA]
  by_cases hl:xs.length=ys.length
  ·rw [decide_eq_true hl,Bool.true_and]
   symm
   refine all_range ?_
   simp only [decide_eq_true_eq]
   constructor
   ·intro h
    apply List.ext_getElem?
    intro j
    by_cases hj:j < xs.length
    ·exact h j hj
    ·rw [yA (by omega),yA (by omega)]
   ·rintro rfl j _;rfl
  ·rw [decide_eq_false hl,yW,decide_eq_false_iff_not]
   rintro rfl;exact hl rfl
 ·rw [zR] at hx hy
  cases e1:xs[i]? with
  | none=>rw [e1] at hx;cases hx
  | some p=>
   cases e2:ys[i]? with
   | none=>rw [e2] at hy;cases hy
   | some q=>
    rw [e1] at hx;rw [e2] at hy
    cases hx;cases hy
    have key:flatV (f p)=true/\flatV (f q)=true/\decide (some p=some q)=eqV (f p) (f q):=⟨hf p,hf q,by
     rw [he]
     simp⟩
    cases n with
    | zero=>exact .inr (by simpa only [e1,e2] using key)
    | succ n=>exact .inr (.inl (by simpa only [e1,e2] using key))
theorem eqV_int (x y:Int):eqV (.int x) (.int y)=decide (x=y):=rfl
end L2
namespace Sm
open PySem L2 SmSort
theorem iteO {c:Bool}{A B:Prop}{D:Ends}{σ:St}{H:Hp} (Pre:St->Hp->Prop) (k:∀ σ H,Pre σ H->D.nx σ H) (h1:c=true->(∀ σ H,Pre σ H->D.nx σ H)->A) (h2:c=false->(∀ σ H,Pre σ H->D.nx σ H)->B):if c=true then (if true=true then A else tNext D σ H) else B:=by
 cases c with
 | true=>exact h1 rfl k
 | false=>exact h2 rfl k
theorem iteA {c:Bool} {T2 A:Prop}{D:Ends}{σ:St}{H:Hp} (Pre:St->Hp->Prop) (k:∀ σ H,Pre σ H->D.nx σ H) (h1:c=true->(∀ σ H,Pre σ H->D.nx σ H)->T2) (h2:c=false->Pre σ H):if c=true then T2 else (if false=true then A else tNext D σ H):=by
 cases c with
 | true=>exact h1 rfl k
 | false=>exact k _ _ (h2 rfl)
end Sm
namespace Sm
open PySem L2 SmSort
structure Loose (w:Int) (ms:List M4):Prop where
 few:ms.length<=60
 each:∀ r∈ms,0<=r.lo/\r.lo < r.hi/\r.hi < w/\1<=r.t/\r.t<=1000000000/\1<=r.m/\r.m<=99
 pw:ms.Pairwise λa b=>a.t=b.t->apart a b
def ListAt (H:Hp) (l:Addr) (fs:List (Addr×M4)):Prop:=H l=some (.lst (fs.map λa=>V.ref a.1))/\RowsAt H fs
theorem ListAt.same {H H':Hp}{l:Addr}{fs:List (Addr×M4)} (h:ListAt H l fs) (s:Same H H'):ListAt H' l fs:=⟨s _ _ h.1,h.2.tups (Tups.same s)⟩
end Sm
namespace Sm
open PySem L2 SmSort
end Sm
namespace SmSet
open PySem
theorem below_go {xs:Array Nat}{j:Nat} (so:xs.toList.Pairwise (· < ·)):∀ (fuel lo hi:Nat),hi - lo<=fuel->lo<=hi->hi<=xs.size->(∀ i (h:i < xs.size),i < lo->xs[i] < j)->(∀ i (h:i < xs.size),hi<=i->j<=xs[i]) ->
  SetTable.below.go xs j fuel lo hi<=xs.size/\(∀ i (h:i < xs.size),i < SetTable.below.go xs j fuel lo hi->xs[i] < j)/\∀ i (h:i < xs.size),SetTable.below.go xs j fuel lo hi<=i->j<=xs[i]
 | 0,lo,hi,hf,h1,h2,hl,hh=>by
  have:lo=hi:=by omega
  subst this
  unfold SetTable.below.go
  exact ⟨h2,hl,hh⟩
 | fuel + 1,lo,hi,hf,h1,h2,hl,hh=>by
  unfold SetTable.below.go
  have mono:∀ a b (ha:a < xs.size) (hb:b < xs.size),a < b->xs[a] < xs[b]:=λa b ha hb ab=>by
   have:=zW.mp so a b (by simpa using ha) (by simpa using hb) ab
   simpa using this
  by_cases c:lo < hi
  ·rw [if_pos c]
   dsimp only
   have hm:(lo + hi) / 2 < xs.size:=by omega
   have e:xs.getD ((lo + hi) / 2) j=xs[(lo + hi) / 2]:=by simp [Array.getD,hm]
   rw [e]
   by_cases d:xs[(lo + hi) / 2] < j
   ·rw [if_pos d]
    refine below_go so fuel _ _ (by omega) (by omega) h2 (λi h hi'=>?_) hh
    by_cases q:i=(lo + hi) / 2
    ·subst q;exact d
    ·exact Nat.lt_trans (mono i ((lo + hi) / 2) h hm (by omega)) d
   ·rw [if_neg d]
    refine below_go so fuel _ _ (by omega) (by omega) (by omega) hl (λi h hi'=>?_)
    by_cases q:i=(lo + hi) / 2
    ·subst q;omega
    ·have:=mono ((lo + hi) / 2) i hm h (by omega)
     omega
  ·rw [if_neg c]
   have:lo=hi:=by omega
   subst this
   exact ⟨h2,hl,hh⟩
theorem below_spec {xs:Array Nat}{j:Nat} (so:xs.toList.Pairwise (· < ·)):SetTable.below xs j<=xs.size/\(∀ i (h:i < xs.size),i < SetTable.below xs j->xs[i] < j)/\∀ i (h:i < xs.size),SetTable.below xs j<=i->j<=xs[i]:=
 below_go so _ _ _ (by omega) (by omega) (zD _) (λ_ _ h=>absurd h (zd _)) (λi h hi=>absurd h (by omega))
theorem below_at {xs:Array Nat}{j i:Nat} (so:xs.toList.Pairwise (· < ·)) (h:xs[i]?=some j):SetTable.below xs j=i:=by
 obtain ⟨hi,e⟩:=Array.getElem?_eq_some_iff.mp h
 obtain ⟨b1,b2,b3⟩:=below_spec (j:=j) so
 rcases Nat.lt_trichotomy (SetTable.below xs j) i with c | c | c
 ·have hb:SetTable.below xs j < xs.size:=by omega
  have:=b3 _ hb (zD _)
  have m:=zW.mp so (SetTable.below xs j) i (by simpa using hb) (by simpa using hi) c
  simp only [Array.getElem_toList] at m
  omega
 ·exact c
 ·have:=b2 i hi c
  omega
theorem slot_live {t:SetTable}{j i:Nat} (so:t.place.toList.Pairwise (· < ·)) (h:t.place[i]?=some j):t.slot j=.live i:=by
 unfold SetTable.slot
 dsimp only
 rw [below_at so h,h]
 simp
theorem slot_empty {t:SetTable}{j:Nat} (nd:t.dummies=#[]) (h:j ∉ t.place.toList):t.slot j=.empty:=by
 unfold SetTable.slot
 dsimp only
 rw [if_neg,if_neg]
 ·rw [nd]
  unfold SetTable.has
  simp
 ·intro c
  have:t.place[SetTable.below t.place j]?=some j:=by simpa using c
  exact h (by simpa using Array.mem_of_getElem? this)
def adv (m:Nat) (p:SetTable.Probe):SetTable.Probe:=
 if p.more > 0 then { p with j:=p.j + 1,more:=p.more - 1 } else
 { p with j:=(SetTable.leap m p.i p.perturb).1,more:=SetTable.runEnd m (SetTable.leap m p.i p.perturb).1 - (SetTable.leap m p.i p.perturb).1,i:=(SetTable.leap m p.i p.perturb).1,perturb:=(SetTable.leap m p.i p.perturb).2 }
theorem advance_eq (t:SetTable) (p:SetTable.Probe):t.advance p=adv t.mask p:=rfl
def run (m i u:Nat):SetTable.Probe:={ j:=i,more:=SetTable.runEnd m i - i,i,perturb:=u,dummy:=none }
def start (m:Nat) (h:Int):SetTable.Probe:=run m (SetTable.bits h % (m + 1)) (SetTable.bits h)
def ad (m:Nat):Nat->SetTable.Probe->SetTable.Probe
 | 0,p=>p
 | n + 1,p=>ad m n (adv m p)
theorem ad_succ (m n:Nat) (p:SetTable.Probe):ad m (n + 1) p=adv m (ad m n p):=by
 induction n generalizing p with
 | zero=>rfl
 | succ n ih=>exact ih (adv m p)
theorem ad_add (m a b:Nat) (p:SetTable.Probe):ad m (a + b) p=ad m b (ad m a p):=by
 induction a generalizing p with
 | zero=>rw [xE];rfl
 | succ a ih=>rw [Nat.succ_add];exact ih (adv m p)
theorem adv_dummy {m:Nat}{p:SetTable.Probe}:(adv m p).dummy=p.dummy:=by unfold adv;split <;> rfl
theorem ad_dummy {m:Nat}:∀ {n:Nat}{p:SetTable.Probe},(ad m n p).dummy=p.dummy
 | 0,_=>rfl
 | n + 1,p=>(ad_dummy (n:=n)).trans adv_dummy
def at' (m:Nat) (h:Int) (n:Nat):Nat:=(ad m n (start m h)).j
theorem ad_in_run {m i u:Nat}:∀ k,k<=SetTable.runEnd m i - i->ad m k (run m i u)={ j:=i + k,more:=SetTable.runEnd m i - i - k,i,perturb:=u,dummy:=none }
 | 0,_=>rfl
 | k + 1,h=>by
  rw [ad_succ,ad_in_run k (by omega)]
  unfold adv
  dsimp only
  rw [if_pos (by omega)]
  rfl
theorem ad_next_run {m i u:Nat}:ad m (SetTable.runEnd m i - i + 1) (run m i u)=run m ((i * 5 + 1 + u / 32) % (m + 1)) (u / 32):=by
 rw [ad_succ,ad_in_run _ (zD _)]
 unfold adv
 dsimp only
 rw [if_neg (by omega)]
 rfl
theorem runEnd_le {m i:Nat}:SetTable.runEnd m i - i<=9/\i<=SetTable.runEnd m i/\(i<=m->SetTable.runEnd m i<=m):=by
 unfold SetTable.runEnd
 split <;> omega
def runs (m:Nat):Nat->Nat->Nat->Nat×Nat
 | 0,i,u=>(i,u)
 | r + 1,i,u=>runs m r ((i * 5 + 1 + u / 32) % (m + 1)) (u / 32)
theorem runs_at {m:Nat}:∀ (r i u:Nat),∃ c,c<=10 * r/\ad m c (run m i u)=run m (runs m r i u).1 (runs m r i u).2
 | 0,i,u=>⟨0,zD _,rfl⟩
 | r + 1,i,u=>by
  obtain ⟨c,hc,e⟩:=runs_at r ((i * 5 + 1 + u / 32) % (m + 1)) (u / 32)
  refine ⟨SetTable.runEnd m i - i + 1 + c,?_,?_⟩
  ·have:=(runEnd_le (m:=m) (i:=i)).1;omega
  ·rw [ad_add,ad_next_run,e];rfl
theorem runs_add {m:Nat}:∀ (a b i u:Nat),runs m (a + b) i u=runs m b (runs m a i u).1 (runs m a i u).2
 | 0,b,i,u=>by rw [xE];rfl
 | a + 1,b,i,u=>by rw [Nat.succ_add];exact runs_add a b _ _
theorem runs_perturb {m:Nat}:∀ (r i u:Nat),(runs m r i u).2=u / 32 ^ r
 | 0,i,u=>by simp [runs]
 | r + 1,i,u=>by
  show (runs m r _ (u / 32)).2=_
  rw [runs_perturb r,Nat.div_div_eq_div_mul,Nat.pow_succ,Nat.mul_comm]
theorem runs_small {m:Nat}:∀ (r i u:Nat),i<=m->(runs m r i u).1<=m
 | 0,i,u,h=>h
 | r + 1,i,u,h=>runs_small r _ _ (yN.mp (Nat.mod_lt _ (by omega)))
def f5 (m:Nat):Nat->Nat->Nat
 | 0,i=>i
 | s + 1,i=>f5 m s ((i * 5 + 1) % (m + 1))
theorem runs_f5 {m:Nat}:∀ (s i:Nat),(runs m s i 0).1=f5 m s i
 | 0,i=>rfl
 | s + 1,i=>by
  show (runs m s ((i * 5 + 1 + 0 / 32) % (m + 1)) (0 / 32)).1=f5 m s ((i * 5 + 1) % (m + 1))
  rw [Nat.zero_div,Nat.add_zero]
  exact runs_f5 s _
theorem f5_add {m:Nat}:∀ (a b i:Nat),f5 m (a + b) i=f5 m b (f5 m a i)
 | 0,b,i=>by rw [xE];rfl
 | a + 1,b,i=>by rw [Nat.succ_add];exact f5_add a b _
def bitsOf (m:Nat):Nat->Nat->Nat->Nat
 | 0,_,acc=>acc
 | s + 1,i,acc=>bitsOf m s ((i * 5 + 1) % (m + 1)) (acc ||| (2 ^ i))
theorem bitsOf_spec {m j:Nat}:∀ (s i acc:Nat),(bitsOf m s i acc).testBit j=true->acc.testBit j=true\/∃ a,a < s/\f5 m a i=j
 | 0,i,acc,h=>.inl h
 | s + 1,i,acc,h=>by
  rcases bitsOf_spec s _ _ h with h | ⟨a,ha,e⟩
  ·rw [Nat.testBit_or,Bool.or_eq_true] at h
   rcases h with h | h
   ·exact .inl h
   ·rw [Nat.testBit_two_pow] at h
    exact .inr ⟨0,by omega,of_decide_eq_true h⟩
  ·exact .inr ⟨a + 1,by omega,e⟩
def Mask (m:Nat):Prop:=m=7\/m=31\/m=127\/m=511\/m=2047\/m=8191
theorem cover0 {m:Nat} (hm:Mask m):f5 m (m + 1) 0=0/\∀ j,j<=m->∃ a,a<=m/\f5 m a 0=j:=by
 have key:f5 m (m + 1) 0=0/\bitsOf m (m + 1) 0 0=2 ^ (m + 1) - 1:=by
  rcases hm with rfl | rfl | rfl | rfl | rfl | rfl <;> constructor <;> decide +kernel
 refine ⟨key.1,λj hj=>?_⟩
 have:(bitsOf m (m + 1) 0 0).testBit j=true:=by
  rw [key.2,Nat.testBit_two_pow_sub_one]
  exact decide_eq_true (by omega)
 rcases bitsOf_spec _ _ _ this with h | ⟨a,ha,e⟩
 ·simp at h
 ·exact ⟨a,by omega,e⟩
theorem cover {m i j:Nat} (hm:Mask m) (hi:i<=m) (hj:j<=m):∃ s,s<=m/\f5 m s i=j:=by
 obtain ⟨z,all⟩:=cover0 hm
 obtain ⟨a,ha,rfl⟩:=all i hi
 obtain ⟨b,hb,rfl⟩:=all j hj
 by_cases c:a<=b
 ·exact ⟨b - a,by omega,by rw [<-f5_add];congr 1;omega⟩
 ·refine ⟨b + (m + 1) - a,by omega,?_⟩
  rw [<-f5_add,show a + (b + (m + 1) - a)=(m + 1) + b from by omega,f5_add,z]
theorem reach {m i u j:Nat} (hm:Mask m) (hi:i<=m) (hu:u < 2 ^ 64) (hj:j<=m):∃ r,r<=m + 13/\(runs m r i u).1=j:=by
 have p0:(runs m 13 i u).2=0:=by
  rw [runs_perturb]
  exact Nat.div_eq_of_lt (zO hu (by decide))
 obtain ⟨s,hs,e⟩:=cover hm (runs_small 13 i u hi) hj
 refine ⟨13 + s,by omega,?_⟩
 rw [runs_add,p0,runs_f5,e]
theorem bits_lt (h:Int):SetTable.bits h < 2 ^ 64:=by
 unfold SetTable.bits
 have a:=yq h (show (2 ^ 64:Int)≠0 by decide)
 have b:=yX h (show (0:Int) < 2 ^ 64 by decide)
 have c:((h % 2 ^ 64).toNat:Int)=h % 2 ^ 64:=yh a
 have d:((2 ^ 64:Nat):Int)=(2:Int) ^ 64:=by decide
 omega
theorem reach_at {m j:Nat}{h:Int} (hm:Mask m) (hj:j<=m):∃ n,n<=10 * (m + 13)/\at' m h n=j:=by
 obtain ⟨r,hr,e⟩:=reach (u:=SetTable.bits h) hm (yN.mp (Nat.mod_lt (SetTable.bits h) (show 0 < m + 1 by omega))) (bits_lt h) hj
 obtain ⟨c,hc,e2⟩:=runs_at (m:=m) r (SetTable.bits h % (m + 1)) (SetTable.bits h)
 refine ⟨c,by omega,?_⟩
 unfold at' start
 rw [e2,e];rfl
theorem least {P:Nat->Prop}:∀ n,P n->∃ k,k<=n/\P k/\∀ i,i < k->¬ P i:=by
 intro n
 induction n using Nat.strongRecOn with
 | _ n ih=>
  intro h
  by_cases c:∃ i,i < n/\P i
  ·obtain ⟨i,hi,pi⟩:=c
   obtain ⟨k,hk,pk,al⟩:=ih i hi pi
   exact ⟨k,by omega,pk,al⟩
  ·exact ⟨n,zD _,h,λi hi pi=>c ⟨i,hi,pi⟩⟩
theorem first_free {m:Nat}{O:Nat->Prop} (h:Int) (hm:Mask m) (he:∃ j,j<=m/\¬ O j):∃ N,N<=10 * (m + 13)/\¬ O (at' m h N)/\∀ n,n < N->O (at' m h n):=by
 obtain ⟨j,hj,no⟩:=he
 obtain ⟨n,hn,e⟩:=reach_at (h:=h) hm hj
 obtain ⟨k,hk,pk,al⟩:=least (P:=λn=>¬ O (at' m h n)) n (by rw [e];exact no)
 exact ⟨k,by omega,pk,λi hi=>Classical.byContradiction λc=>al i hi c⟩
theorem at_le {m:Nat}{h:Int}:∀ n,at' m h n<=m:=by
 have key:∀ n,(ad m n (start m h)).j + (ad m n (start m h)).more<=m:=by
  have step:∀ p:SetTable.Probe,p.j + p.more<=m->(adv m p).j + (adv m p).more<=m:=λp hp=>by
   unfold adv
   split
   ·dsimp only;omega
   ·dsimp only
    have l:(SetTable.leap m p.i p.perturb).1<=m:=yN.mp (Nat.mod_lt _ (by omega))
    have:=runEnd_le (m:=m) (i:=(SetTable.leap m p.i p.perturb).1)
    have:=this.2.2 l
    omega
  intro n
  induction n with
  | zero=>
   show SetTable.bits h % (m + 1) + (SetTable.runEnd m (SetTable.bits h % (m + 1)) - SetTable.bits h % (m + 1))<=m
   have l:SetTable.bits h % (m + 1)<=m:=yN.mp (Nat.mod_lt _ (by omega))
   have:=runEnd_le (m:=m) (i:=SetTable.bits h % (m + 1))
   have:=this.2.2 l
   omega
  | succ n ih=>rw [ad_succ];exact step _ ih
 intro n
 have:=key n
 unfold at'
 omega
end SmSet
namespace SmSet
open PySem
structure Tab (t:SetTable) (es:Array (Int×Value)):Prop where
 mask:Mask t.mask
 nd:t.dummies=#[]
 so:t.place.toList.Pairwise (· < ·)
 sz:t.place.size=es.size
 small:∀ j∈t.place.toList,j<=t.mask
 light:es.size * 5 < t.mask * 3
 way:∀ i (h:i < es.size),∃ n,t.place[i]?=some (at' t.mask es[i].1 n)/\∀ n',n' < n->at' t.mask es[i].1 n'∈t.place.toList
theorem Tab.room {t:SetTable}{es:Array (Int×Value)} (T:Tab t es):es.size<=t.mask:=by have:=T.light;omega
theorem Tab.fits {t:SetTable}{es:Array (Int×Value)} (T:Tab t es):t.fits es.size=true:=by
 unfold SetTable.fits SetTable.fill
 have:=T.room
 rw [T.sz,T.nd]
 simp
 exact this
theorem Tab.odd {t:SetTable}{es:Array (Int×Value)} (T:Tab t es):t.gaveWay=false:=by
 unfold SetTable.gaveWay
 rcases T.mask with h | h | h | h | h | h <;> rw [h] <;> rfl
theorem as_long:∀ (n:Nat) (l:List Nat),(∀ j,j < n->j∈l)->n<=l.length
 | 0,_,_=>zT _
 | n + 1,l,h=>by
  have:=as_long n (l.erase n) λj hj=>(List.mem_erase_of_ne (by omega)).mpr (h j (by omega))
  rw [List.length_erase_of_mem (h n (by omega))] at this
  have:=List.length_pos_of_mem (h n (by omega))
  omega
theorem left_out {l:List Nat}{m:Nat} (h:l.length<=m):∃ j,j<=m/\j ∉ l:=by
 refine Classical.byContradiction λc=>?_
 have:=as_long (m + 1) l λj hj=>Classical.byContradiction λz=>c ⟨j,by omega,z⟩
 omega
theorem Tab.left {t:SetTable}{es:Array (Int×Value)} (T:Tab t es):∃ j,j<=t.mask/\¬ j∈t.place.toList:=by
 have:=left_out (l:=t.place.toList) (m:=t.mask) (by rw [Array.length_toList,T.sz];exact T.room)
 exact this
theorem Tab.first {t:SetTable}{es:Array (Int×Value)} (T:Tab t es) (h:Int):∃ N,N<=10 * (t.mask + 13)/\¬ at' t.mask h N∈t.place.toList/\∀ n,n < N->at' t.mask h n∈t.place.toList:=first_free h T.mask T.left
theorem at_index {t:SetTable}{j:Nat} (h:j∈t.place.toList):∃ i:Nat,t.place[i]?=some j:=by
 obtain ⟨i,hi,e⟩:=yi h
 exact ⟨i,by rw [<-Array.getElem?_toList,zU hi,e]⟩
theorem probe_go {t:SetTable}{es:Array (Int×Value)} (T:Tab t es) {hashAt:Nat->Int}{h:Int}{N:Nat} (hN:¬ at' t.mask h N∈t.place.toList) (hall:∀ n,n < N->at' t.mask h n∈t.place.toList) :
  ∀ (d k fuel:Nat),N - k=d->k<=N->d < fuel ->
   (∃ n i,k<=n/\n < N/\t.place[i]?=some (at' t.mask h n)/\hashAt i=h/\(∀ n',k<=n'->n' < n->∀ i',t.place[i']?=some (at' t.mask h n')->hashAt i'≠h)/\SetTable.probe.go t hashAt h fuel (ad t.mask k (start t.mask h))=some (.candidate (at' t.mask h n) i (ad t.mask (n + 1) (start t.mask h)))) \/
   ((∀ n',k<=n'->n' < N->∀ i',t.place[i']?=some (at' t.mask h n')->hashAt i'≠h)/\SetTable.probe.go t hashAt h fuel (ad t.mask k (start t.mask h))=some (.empty (at' t.mask h N) none))
 | d,k,0,e,hk,hf=>absurd hf (zd _)
 | 0,k,fuel + 1,e,hk,hf=>by
  have:k=N:=by omega
  subst this
  refine .inr ⟨λn' h1 h2=>absurd h1 (by omega),?_⟩
  unfold SetTable.probe.go
  rw [show (ad t.mask k (start t.mask h)).j=at' t.mask h k from rfl,slot_empty T.nd hN]
  dsimp only
  rw [ad_dummy]
  rfl
 | d + 1,k,fuel + 1,e,hk,hf=>by
  obtain ⟨i,hi⟩:=at_index (hall k (by omega))
  by_cases c:hashAt i=h
  ·refine .inl ⟨k,i,zD _,by omega,hi,c,λn' h1 h2=>absurd h1 (by omega),?_⟩
   unfold SetTable.probe.go
   rw [show (ad t.mask k (start t.mask h)).j=at' t.mask h k from rfl,slot_live T.so hi]
   dsimp only
   rw [if_pos (by rw [c];simp),advance_eq,<- ad_succ]
  ·have step:SetTable.probe.go t hashAt h (fuel + 1) (ad t.mask k (start t.mask h))=SetTable.probe.go t hashAt h fuel (ad t.mask (k + 1) (start t.mask h)):=by
    conv=>lhs;unfold SetTable.probe.go
    rw [show (ad t.mask k (start t.mask h)).j=at' t.mask h k from rfl,slot_live T.so hi]
    dsimp only
    rw [if_neg (by simpa using c),advance_eq,<- ad_succ]
   have here:∀ i',t.place[i']?=some (at' t.mask h k)->hashAt i'≠h:=λi' hi'=>by
    have:=(below_at T.so hi').symm.trans (below_at T.so hi)
    rw [this];exact c
   rw [step]
   rcases probe_go T hN hall d (k + 1) fuel (by omega) (by omega) (by omega) with ⟨n,i2,a1,a2,a3,a4,a5,a6⟩ | ⟨a1,a2⟩
   ·refine .inl ⟨n,i2,by omega,a2,a3,a4,λn' h1 h2 i' hi'=>?_,a6⟩
    by_cases q:n'=k
    ·subst q;exact here i' hi'
    ·exact a5 n' (by omega) h2 i' hi'
   ·refine .inr ⟨λn' h1 h2 i' hi'=>?_,a2⟩
    by_cases q:n'=k
    ·subst q;exact here i' hi'
    ·exact a1 n' (by omega) h2 i' hi'
end SmSet
namespace SmSet
open PySem
section
variable {prog:Program}{w:World}{K:Type} [DecidableEq K] {knd:HeapKind prog w K}{A:Around}{E:Value->Shared->Prop}{s:Shared}{a:Addr}
def Keys (knd:HeapKind prog w K) (h:Heap) (es:Array (Int×Value)) (ks:Nat->K):Prop:=∀ i (hi:i < es.size),∃ b,es[i]=(knd.hash (ks i),.ref b)/\knd.is h (ks i) b
def Calm (knd:HeapKind prog w K) (A:Around) (s:Shared):Prop:=∀ (k:K) (b:Addr),knd.is s.heap k b->∀ (E:Value->Shared->Prop) (Q:Bool->Shared->Prop),Q false s->wpAny (model prog w) A (ofAClassStatement 8 (.ref b)) Q E s
theorem not_seen {k:K}{c:Addr} (hk:knd.is s.heap k c) (cl:Calm knd A s):∀ (ys:List Value),(∀ y∈ys,∃ k b,y=.ref b/\knd.is s.heap k b)->∀ {Q:Bool->Shared->Prop},Q false s->wpAny (model prog w) A (searchCouldBeSeen (.ref c) ys) Q E s:=by
 intro ys hy Q q
 unfold searchCouldBeSeen
 refine wpAny_bind ?_
 refine wpAny_forIn_list _ (λrest r s'=>r.1=none/\s'=s/\∀ y∈rest,∃ k b,y=.ref b/\knd.is s.heap k b) _ ?_ ?_ _ _ ⟨rfl,rfl,hy⟩
 ·rintro y rest r s' ⟨hr,rfl,hall⟩
  obtain ⟨k2,b,rfl,hb⟩:=hall _ yD
  have next:∀ u∈rest,∃ k b,u=Value.ref b/\knd.is s'.heap k b:=λu hu=>hall u (zj _ hu)
  dsimp only
  split
  ·exact wpAny_pure ⟨rfl,rfl,next⟩
  ·refine wpAny_bind (knd.quiet hk ?_)
   simp only [Bool.not_true,zV,if_false]
   refine wpAny_bind (knd.quiet hb ?_)
   simp only [Bool.not_true,zV,if_false]
   refine wpAny_bind (cl _ _ hk _ _ ?_)
   simp only [zV,if_false]
   refine wpAny_bind (cl _ _ hb _ _ ?_)
   simp only [zV,if_false]
   exact wpAny_pure ⟨rfl,rfl,next⟩
 ·rintro ⟨r1,r2⟩ s' ⟨hr,rfl,_⟩
  simp only at hr
  subst hr
  exact wpAny_pure q
theorem search {o:Obj}{es:Array (Int×Value)}{ep:Nat}{t:SetTable}{ks:Nat->K}{kx:K}{c:Addr}{adding:Bool}{Q:SetFound->Shared->Prop} (hr:knd.room A) (ho:s.heap.get? a=some o) (hd:o.data=.set es ep t) (T:Tab t es) (ke:Keys knd s.heap es ks) (hx:knd.is s.heap kx c) (cl:Calm knd A s)
  (qt:∀ r:Option Nat,(r=none->adding=true)->(∃ i,i < es.size/\ks i=kx)->Q (.there r) s) {N:Nat} (hN:¬ at' t.mask (knd.hash kx) N∈t.place.toList) (hall:∀ n,n < N->at' t.mask (knd.hash kx) n∈t.place.toList) (hNb:N<=10 * (t.mask + 13))
  (qf:(∀ i,i < es.size->ks i≠kx)->Q (.free (at' t.mask (knd.hash kx) N) false) s) :
  ∀ (fuel k:Nat) (st:Option SetTable.Probe),N - k < fuel->k<=N->st.getD (t.probeStart (knd.hash kx))=ad t.mask k (start t.mask (knd.hash kx))->(∀ n',n' < k->∀ i',t.place[i']?=some (at' t.mask (knd.hash kx) n')->ks i'≠kx) ->
   wpAny (model prog w) A (setSearchFrom a (.ref c) (knd.hash kx) adding fuel st) Q E s
 | 0,k,st,hf,_,_,_=>absurd hf (zd _)
 | fuel + 1,k,st,hf,hk,hst,prev=>by
  unfold setSearchFrom
  refine wpAny_bind (wpAny_setState_of ho hd T.fits ?_)
  dsimp only
  rw [T.odd,hst]
  simp only [zV,if_false]
  unfold SetTable.probe
  rcases probe_go T hN hall (hashAt:=λi=>((es[i]?).map (·.1)).getD 0) _ k (10 * SetTable.turns t.mask) rfl hk (by unfold SetTable.turns;omega) with ⟨n,i,a1,a2,a3,a4,a5,a6⟩ | ⟨a1,a2⟩
  ·generalize hp:SetTable.probe.go t _ (knd.hash kx) (10 * SetTable.turns t.mask) (ad t.mask k (start t.mask (knd.hash kx)))=pr
   have e:=hp.symm.trans a6
   subst e
   have hi:i < es.size:=by
    have:=(Array.getElem?_eq_some_iff.mp a3).1
    rw [T.sz] at this;exact this
   obtain ⟨b,eb,hb⟩:=ke i hi
   have eg:es[i]?=some (knd.hash (ks i),.ref b):=by rw [<-eb];exact Array.getElem?_eq_getElem hi
   dsimp only
   rw [eg]
   dsimp only
   have sl:=slot_live T.so a3
   have mem:t.sameMemory t.moves t.mask=some true:=by simp [SetTable.sameMemory]
   have again:=search (adding:=adding) hr ho hd T ke hx cl qt hN hall hNb qf fuel (n + 1) (some (ad t.mask (n + 1) (start t.mask (knd.hash kx)))) (by omega) (by omega) rfl
   have more:ks i≠kx->∀ n',n' < n + 1->∀ i',t.place[i']?=some (at' t.mask (knd.hash kx) n')->ks i'≠kx:=λne n' hn i' hi'=>by
    by_cases q:n' < k
    ·exact prev n' q i' hi'
    by_cases q2:n'=n
    ·subst q2
     have:=(below_at T.so hi').symm.trans (below_at T.so a3)
     rw [this];exact ne
    ·intro z
     have hl:i' < es.size:=by
      have:=(Array.getElem?_eq_some_iff.mp hi').1
      rw [T.sz] at this;exact this
     obtain ⟨b',eb',_⟩:=ke i' hl
     exact a5 n' (by omega) (by omega) i' hi' (by simp [eb',hl,z])
   have stored:∀ y∈List.map (λx=>x.snd) (Array.filter (λx=>x.fst == knd.hash kx) es).toList,∃ k b,y=Value.ref b/\knd.is s.heap k b:=λy hy=>by
    obtain ⟨e,he,rfl⟩:=zI.mp hy
    have he:e∈es:=by
     have:e∈es/\e.fst=knd.hash kx:=by simpa using he
     exact this.1
    obtain ⟨j,hj,rfl⟩:=Array.getElem_of_mem he
    obtain ⟨b',eb',hb'⟩:=ke j hj
    exact ⟨_,b',by rw [eb'],hb'⟩
   split
   ·refine wpAny_bind (not_seen hx cl _ stored ?_)
    simp only [zV,if_false]
    refine wpAny_bind (wpAny_holding (knd.eqBool hr hb hx ?_))
    refine wpAny_bind (wpAny_setState_of ho hd T.fits ?_)
    dsimp only
    rw [mem]
    dsimp only
    rw [if_pos (show (true=true) from rfl),sl]
    dsimp only
    rw [eg]
    dsimp only
    by_cases q:ks i=kx
    ·rw [decide_eq_true q]
     cases adding with
     | true=>exact wpAny_pure (qt _ (λ_=>rfl) ⟨i,hi,q⟩)
     | false=>
      simp only [yW,zV,if_false]
      refine wpAny_bind (wpAny_isSame_ref_self ?_)
      exact wpAny_pure (qt _ (λz=>by cases z) ⟨i,hi,q⟩)
    ·rw [decide_eq_false q]
     simp only [Bool.and_false,zV,if_false]
     refine wpAny_bind (wpAny_isSame_ref_self ?_)
     exact again (more q)
   ·refine wpAny_bind (wpAny_holding (knd.eqBool hr hb hx ?_))
    refine wpAny_bind (wpAny_setState_of ho hd T.fits ?_)
    dsimp only
    rw [mem]
    dsimp only
    rw [if_pos (show (true=true) from rfl),sl]
    dsimp only
    rw [eg]
    dsimp only
    by_cases q:ks i=kx
    ·rw [decide_eq_true q]
     cases adding with
     | true=>exact wpAny_pure (qt _ (λ_=>rfl) ⟨i,hi,q⟩)
     | false=>
      simp only [yW,zV,if_false]
      refine wpAny_bind (wpAny_isSame_ref_self ?_)
      exact wpAny_pure (qt _ (λz=>by cases z) ⟨i,hi,q⟩)
    ·rw [decide_eq_false q]
     simp only [Bool.and_false,zV,if_false]
     refine wpAny_bind (wpAny_isSame_ref_self ?_)
     exact again (more q)
  ·generalize hp:SetTable.probe.go t _ (knd.hash kx) (10 * SetTable.turns t.mask) (ad t.mask k (start t.mask (knd.hash kx)))=pr
   have e:=hp.symm.trans a2
   subst e
   dsimp only
   refine wpAny_pure (qf λi hi z=>?_)
   obtain ⟨m,hm,al⟩:=T.way i hi
   obtain ⟨b,eb,_⟩:=ke i hi
   rw [eb] at hm al
   dsimp only at hm al
   rw [z] at hm al
   have mN:m < N:=Classical.byContradiction λc=>by
    by_cases q:N=m
    ·subst q
     exact hN (by simpa using Array.mem_of_getElem? hm)
    ·exact hN (al N (by omega))
   by_cases q:m < k
   ·exact prev m q i hm z
   ·refine a1 m (by omega) mN i hm ?_
    simp [eb,hi,z]
structure SetT (knd:HeapKind prog w K) (h:Heap) (a:Addr) (es:Array (Int×Value)) (ep:Nat) (t:SetTable) (ks:Nat->K):Prop where
 obj:h.get? a=some { cls:=.type "set", data:=.set es ep t }
 tab:Tab t es
 keys:Keys knd h es ks
theorem find {es:Array (Int×Value)}{ep:Nat}{t:SetTable}{ks:Nat->K}{kx:K}{c:Addr}{Q:Option Nat->Shared->Prop} (hr:knd.room A) (S:SetT knd s.heap a es ep t ks) (hx:knd.is s.heap kx c) (cl:Calm knd A s)
  (qt:∀ r:Option Nat,r.isSome=true->(∃ i,i < es.size/\ks i=kx)->Q r s) (qf:(∀ i,i < es.size->ks i≠kx)->Q none s):wpAny (model prog w) A (setFind a (.ref c) (knd.hash kx)) Q E s:=by
 obtain ⟨N,n1,n2,n3⟩:=S.tab.first (knd.hash kx)
 unfold setFind setFindIn
 refine wpAny_bind (wpAny_setState_of S.obj rfl S.tab.fits ?_)
 dsimp only
 rw [show byScan (.ref c) es=false from rfl]
 simp only [zV,if_false]
 refine wpAny_bind ?_
 unfold setSearch
 have lim:10 * (t.mask + 13) < 100000:=by
  rcases S.tab.mask with h | h | h | h | h | h <;> rw [h] <;> decide
 refine search hr S.obj rfl S.tab S.keys hx cl (λr h f=>?_) n2 n3 n1 (λnf=>?_) 100000 0 none (by omega) (zT _) rfl (λn' h=>absurd h (zd _))
 ·refine wpAny_pure (qt r ?_ f)
  cases r with
  | none=>cases h rfl
  | some i=>rfl
 ·exact wpAny_pure (qf nf)
theorem set_typeIs {es:Array (Int×Value)}{ep:Nat}{t:SetTable}{ks:Nat->K} (S:SetT knd s.heap a es ep t ks):s.TypeIs (.ref a) "set" := ⟨_,S.obj,rfl⟩
theorem inSet {es:Array (Int×Value)}{ep:Nat}{t:SetTable}{ks:Nat->K}{kx:K}{c:Addr}{Q:Value->Shared->Prop} (hr:knd.room A.in1) (S:SetT knd s.heap a es ep t ks) (hx:knd.is s.heap kx c) (cl:∀ B (s':Shared),s'.heap=s.heap->Calm knd B s')
  (qt:(∃ i,i < es.size/\ks i=kx)->Q (.bool true) { s with toks:=s.toks + knd.draws kx }) (qf:(∀ i,i < es.size->ks i≠kx)->Q (.bool false) { s with toks:=s.toks + knd.draws kx }):wpAny (model prog w) A (compareOp .In (.ref c) (.ref a)) Q E s:=by
 have hT:=set_typeIs S
 show wpAny _ _ (do return .bool (<- contains (.ref a) (.ref c))) Q E s
 refine wpAny_bind ?_
 unfold contains
 try with_reducible refine wpAny_holding ?_
 refine wpAny_bind (wpAny_specialOf hT F.slot_set_contains.lookup ?_)
 show wpAny _ _ (if (some (Value.builtin "set.__contains__") == some Value.none)=true then _ else _) _ E s
 rw [if_neg (by rw [beq_builtin_none];exact zM)]
 refine wpAny_bind (wpAny_callSpecialUnlessNone?_slot (name:=Str.ofString "__contains__") hT F.slot_set_contains
  (wpAny_call_entry F.slot_set_contains hT entry_set_contains ?_ (F.args_set_contains_2 _ _)))
 unfold Builtin.«frozenset.__contains__» Builtin.Frozenset.oneOther
 simp only [List.isEmpty_nil,bind_assoc]
 unfold Builtin.Frozenset.addrOf Builtin.Frozenset.withSetAsKey setContains
 refine wpAny_bind (wpAny_pure ?_)
 try dsimp only
 refine wpAny_bind (wpAny_pure ?_)
 try dsimp only
 refine wpAny_bind (wpAny_tryCatch ?_)
 refine wpAny_holding ?_
 refine wpAny_bind (knd.pyHash hr hx ?_)
 refine wpAny_bind (find (s:={ s with toks:=s.toks + knd.draws kx }) hr ⟨S.obj,S.tab,S.keys⟩ hx (cl _ _ rfl) (λr hs f=>?_) (λnf=>?_))
 ·refine wpAny_pure ?_
  show wpAny _ _ (ret (Value.bool r.isSome)) _ _ _
  rw [hs]
  exact wpAny_pure ⟨_,rfl,wpAny_truthy_bool (wpAny_pure (qt f))⟩
 ·refine wpAny_pure ?_
  show wpAny _ _ (ret (Value.bool false)) _ _ _
  exact wpAny_pure ⟨_,rfl,wpAny_truthy_bool (wpAny_pure (qf nf))⟩
end
end SmSet
namespace SmSet
open PySem
theorem insert_get {α:Type}{l:List α}{p:Nat}{x:α} (hp:p<=l.length) (i:Nat):(l.take p++x::l.drop p)[i]?=if i < p then l[i]? else if i=p then some x else l[i - 1]?:=by
 have lt:(l.take p).length=p:=by rw [zZ];omega
 by_cases c:i < p
 ·rw [if_pos c,zp (by omega),List.getElem?_take_of_lt c]
 ·rw [if_neg c,zh (by omega),lt]
  by_cases d:i=p
  ·rw [if_pos d,d,Nat.sub_self];rfl
  ·rw [if_neg d,show i - p=(i - p - 1) + 1 from by omega,yC,List.getElem?_drop]
   congr 1;omega
theorem Tab.put {t:SetTable}{es:Array (Int×Value)} (T:Tab t es) {h:Int}{x:Value}{N:Nat} (hN:¬ at' t.mask h N∈t.place.toList) (hall:∀ n,n < N->at' t.mask h n∈t.place.toList) (pl:Bool) :
  (((es.size + 1) * 5 < t.mask * 3)->Tab { (t.put (at' t.mask h N)).1 with plain:=pl } (SetTable.insertAt es (t.put (at' t.mask h N)).2 (h,x)))/\(t.put (at' t.mask h N)).1.dummies=#[]/\(t.put (at' t.mask h N)).1.mask=t.mask/\(t.put (at' t.mask h N)).1.place.size=es.size + 1:=by
 have e1:(t.put (at' t.mask h N)).1={ t with place:=SetTable.insertAt t.place (SetTable.below t.place (at' t.mask h N)) (at' t.mask h N) }:=by
  unfold SetTable.put
  dsimp only
  rw [T.nd]
  unfold SetTable.has
  simp
 have e2:(t.put (at' t.mask h N)).2=SetTable.below t.place (at' t.mask h N):=rfl
 rw [e1,e2]
 generalize hj:at' t.mask h N=j at *
 obtain ⟨b1,b2,b3⟩:=below_spec (j:=j) T.so
 generalize hp:SetTable.below t.place j=p at *
 have lp:(SetTable.insertAt t.place p j).toList=t.place.toList.take p++j::t.place.toList.drop p:=SetTable.toList_insertAt ..
 have le:(SetTable.insertAt es p (h,x)).toList=es.toList.take p++(h,x)::es.toList.drop p:=SetTable.toList_insertAt ..
 have p1:p<=t.place.toList.length:=by rw [Array.length_toList];exact b1
 have p2:p<=es.toList.length:=by rw [Array.length_toList,<- T.sz];exact b1
 have s1:(SetTable.insertAt t.place p j).size=es.size + 1:=by
  rw [<-Array.length_toList,lp,zP,za,zZ,yj,Array.length_toList,<- T.sz];omega
 have s2:(SetTable.insertAt es p (h,x)).size=es.size + 1:=by
  rw [<-Array.length_toList,le,zP,za,zZ,yj,Array.length_toList]
  have:=T.sz
  omega
 have mem:∀ j',j'∈(SetTable.insertAt t.place p j).toList↔j'=j\/j'∈t.place.toList:=λj'=>by
  rw [lp,zS,zF]
  constructor
  ·rintro (h | h | h)
   ·exact .inr (List.mem_of_mem_take h)
   ·exact .inl h
   ·exact .inr (List.mem_of_mem_drop h)
  ·rintro (h | h)
   ·exact .inr (.inl h)
   ·rw [<-List.take_append_drop p t.place.toList,zS] at h
    exact h.imp id .inr
 refine ⟨λlight=>⟨T.mask,T.nd,?_,by rw [s2];exact s1,λj' hj'=>?_,by rw [s2];exact light,λi hi=>?_⟩,T.nd,rfl,s1⟩
 ·show (SetTable.insertAt t.place p j).toList.Pairwise (· < ·)
  rw [lp,z4,zg]
  refine ⟨T.so.sublist (List.take_sublist _ _),⟨λy hy=>?_,T.so.sublist (List.drop_sublist _ _)⟩,λy hy z hz=>?_⟩
  ·obtain ⟨i,hi,e⟩:=yi hy
   rw [List.getElem_drop] at e
   have hl:p + i < t.place.size:=by rw [yj,Array.length_toList] at hi;omega
   have q:=b3 (p + i) hl (by omega)
   rw [Array.getElem_toList] at e
   rw [e] at q
   have ne:y≠j:=λz=>hN (by rw [<-z];exact List.mem_of_mem_drop hy)
   omega
  ·obtain ⟨i,hi,e⟩:=yi hy
   rw [List.getElem_take] at e
   rw [zZ,Array.length_toList] at hi
   have hl:i < t.place.size:=by omega
   have q:=b2 i hl (by omega)
   rw [Array.getElem_toList] at e
   rw [e] at q
   rcases zF.mp hz with z1 | z1
   ·rw [z1];exact q
   ·obtain ⟨k,hk,ek⟩:=yi z1
    rw [List.getElem_drop] at ek
    have hl':p + k < t.place.size:=by rw [yj,Array.length_toList] at hk;omega
    have q2:=b3 (p + k) hl' (by omega)
    rw [Array.getElem_toList] at ek
    rw [ek] at q2
    omega
 ·have hj':j'∈(SetTable.insertAt t.place p j).toList:=hj'
  rcases (mem j').mp hj' with z | z
  ·rw [z,<- hj];exact at_le N
  ·exact T.small j' z
 ·show ∃ n,(SetTable.insertAt t.place p j)[i]?=some (at' t.mask (SetTable.insertAt es p (h,x))[i].1 n)/\∀ n',n' < n->at' t.mask (SetTable.insertAt es p (h,x))[i].1 n'∈(SetTable.insertAt t.place p j).toList
  have ge:(SetTable.insertAt es p (h,x))[i]?=some (SetTable.insertAt es p (h,x))[i]:=Array.getElem?_eq_getElem hi
  generalize (SetTable.insertAt es p (h,x))[i]=e at ge ⊢
  rw [<-Array.getElem?_toList,le,insert_get p2] at ge
  rw [<-Array.getElem?_toList,lp,insert_get p1,<- lp]
  have old:∀ k,es.toList[k]?=some e->∃ n,t.place.toList[k]?=some (at' t.mask e.1 n)/\∀ n',n' < n->at' t.mask e.1 n'∈(SetTable.insertAt t.place p j).toList:=λk hk=>by
   rw [Array.getElem?_toList] at hk
   obtain ⟨hk',ek⟩:=Array.getElem?_eq_some_iff.mp hk
   obtain ⟨n,a1,a2⟩:=T.way k hk'
   rw [ek] at a1 a2
   exact ⟨n,by rw [Array.getElem?_toList];exact a1,λn' hn=>(mem _).mpr (.inr (a2 n' hn))⟩
  by_cases c:i < p
  ·rw [if_pos c] at ge ⊢;exact old i ge
  ·rw [if_neg c] at ge ⊢
   by_cases d:i=p
   ·rw [if_pos d] at ge ⊢
    cases ge
    exact ⟨N,by rw [hj],λn' hn=>(mem _).mpr (.inr (hall n' hn))⟩
   ·rw [if_neg d] at ge ⊢;exact old (i - 1) ge
def occ (ow:Array (Option Nat)) (j:Nat):Prop:=(ow.getD j (some 0)).isNone=false
theorem free_spec {m:Nat}{ow:Array (Option Nat)}:∀ (fuel i u:Nat),(∃ r,r < fuel/\¬ occ ow (runs m r i u).1) ->
  ∃ n,SetTable.layClean.free m ow fuel i u=some (ad m n (run m i u)).j/\¬ occ ow (ad m n (run m i u)).j/\∀ n',n' < n->occ ow (ad m n' (run m i u)).j
 | 0,i,u,⟨r,h,_⟩=>absurd h (zd _)
 | fuel + 1,i,u,⟨r,h,no⟩=>by
  unfold SetTable.layClean.free
  cases e:(List.range (SetTable.runEnd m i + 1 - i)).find? λk=>(ow.getD (i + k) (some 0)).isNone with
  | some k=>
   dsimp only
   obtain ⟨hk,hlt,before⟩:=List.find?_range_eq_some.mp e
   have hlt:k < SetTable.runEnd m i + 1 - i:=zY.mp hlt
   have inr:∀ k',k'<=k->(ad m k' (run m i u)).j=i + k':=λk' hk'=>by rw [ad_in_run k' (by omega)]
   refine ⟨k,by rw [inr k (zD _)],?_,λn' hn=>?_⟩
   ·rw [inr k (zD _)]
    unfold occ
    rw [hk];simp
   ·rw [inr n' (by omega)]
    unfold occ
    have:=before n' hn
    simpa using this
  | none=>
   dsimp only
   have all:∀ k,k < SetTable.runEnd m i + 1 - i->occ ow (i + k):=λk hk=>by
    have:=List.find?_eq_none.mp e k (zY.mpr hk)
    unfold occ
    cases q:(ow.getD (i + k) (some 0)).isNone with
    | false=>rfl
    | true=>exact absurd q this
   have r0:r≠0:=λz=>by
    subst z
    refine no ?_
    exact all 0 (by have:=(runEnd_le (m:=m) (i:=i)).2.1;omega)
   obtain ⟨r',rfl⟩:=Nat.exists_eq_succ_of_ne_zero r0
   obtain ⟨n,a1,a2,a3⟩:=free_spec fuel ((i * 5 + 1 + u / 32) % (m + 1)) (u / 32) ⟨r',by omega,no⟩
   have next:∀ n',ad m (SetTable.runEnd m i - i + 1 + n') (run m i u)=ad m n' (run m ((i * 5 + 1 + u / 32) % (m + 1)) (u / 32)):=λn'=>by rw [ad_add,ad_next_run]
   refine ⟨SetTable.runEnd m i - i + 1 + n,?_,?_,λn' hn=>?_⟩
   ·rw [next];exact a1
   ·rw [next];exact a2
   ·by_cases c:n' < SetTable.runEnd m i - i + 1
    ·rw [ad_in_run n' (by omega)]
     exact all n' (by have:=(runEnd_le (m:=m) (i:=i)).2.1;omega)
    ·rw [show n'=SetTable.runEnd m i - i + 1 + (n' - (SetTable.runEnd m i - i + 1)) from by omega,next]
     exact a3 _ (by omega)
structure Lay (m:Nat) (hs:List Int) (ow:Array (Option Nat)):Prop where
 sz:ow.size=m + 1
 each:∀ (k:Nat) (h:Int),hs[k]?=some h->∃ n,ow[at' m h n]?=some (some k)/\∀ n',n' < n->occ ow (at' m h n')
 low:∀ (j k:Nat),ow[j]?=some (some k)->k < hs.length
 one:∀ (j j' k:Nat),ow[j]?=some (some k)->ow[j']?=some (some k)->j=j'
theorem occ_iff {ow:Array (Option Nat)}{j:Nat} (h:j < ow.size):occ ow j↔∃ k,ow[j]?=some (some k):=by
 unfold occ
 rw [show ow.getD j (some 0)=ow[j] from by simp [Array.getD,h],Array.getElem?_eq_getElem h]
 cases ow[j] <;> simp
theorem Lay.left {m:Nat}{hs:List Int}{ow:Array (Option Nat)} (L:Lay m hs ow) (few:hs.length<=m):∃ j,j<=m/\¬ occ ow j:=by
 refine Classical.byContradiction λc=>?_
 have all:∀ j,j < m + 1->∃ k,ow[j]?=some (some k):=λj hj=>(occ_iff (by rw [L.sz];exact hj)).mp (Classical.byContradiction λz=>c ⟨j,by omega,z⟩)
 have pick:∀ k,∃ j,k < hs.length->ow[j]?=some (some k):=λk=>by
  by_cases hk:k < hs.length
  ·obtain ⟨n,a,_⟩:=L.each k hs[k] (zU hk)
   exact ⟨_,λ_=>a⟩
  ·exact ⟨0,λz=>absurd z hk⟩
 have:=as_long (m + 1) ((List.range hs.length).map λk=>(pick k).choose) λj hj=>by
  obtain ⟨k,hk⟩:=all j hj
  have kl:=L.low j k hk
  exact zI.mpr ⟨k,zY.mpr kl,L.one _ _ _ ((pick k).choose_spec kl) hk⟩
 rw [zA,yt] at this
 omega
theorem Lay.step {m:Nat}{hs:List Int}{ow:Array (Option Nat)} (hm:Mask m) (L:Lay m hs ow) (few:hs.length<=m) (h:Int) :
  ∃ j,SetTable.layClean.free m ow (SetTable.turns m) (SetTable.bits h % (m + 1)) (SetTable.bits h)=some j/\Lay m (hs++[h]) (ow.setIfInBounds j (some hs.length)):=by
 obtain ⟨j0,hj0,no⟩:=L.left few
 obtain ⟨r,hr,e⟩:=reach (u:=SetTable.bits h) hm (yN.mp (Nat.mod_lt (SetTable.bits h) (show 0 < m + 1 by omega))) (bits_lt h) hj0
 obtain ⟨n,a1,a2,a3⟩:=free_spec (m:=m) (ow:=ow) (SetTable.turns m) (SetTable.bits h % (m + 1)) (SetTable.bits h) ⟨r,by unfold SetTable.turns;omega,by rw [e];exact no⟩
 have ej:(ad m n (run m (SetTable.bits h % (m + 1)) (SetTable.bits h))).j=at' m h n:=rfl
 rw [ej] at a1 a2
 have a3:∀ n',n' < n->occ ow (at' m h n'):=a3
 have jl:at' m h n < ow.size:=by rw [L.sz];exact yN.mpr (at_le n)
 have get:∀ j,(ow.setIfInBounds (at' m h n) (some hs.length))[j]?=if at' m h n=j then some (some hs.length) else ow[j]?:=λj=>by
  rw [Array.getElem?_setIfInBounds]
  by_cases c:at' m h n=j
  ·rw [if_pos c,if_pos c,if_pos jl]
  ·rw [if_neg c,if_neg c]
 have keep:∀ j,occ ow j->j < ow.size->occ (ow.setIfInBounds (at' m h n) (some hs.length)) j:=λj oj hj=>by
  rw [occ_iff (by rw [Array.size_setIfInBounds];exact hj),get]
  by_cases c:at' m h n=j
  ·exact ⟨_,by rw [if_pos c]⟩
  ·rw [if_neg c];exact (occ_iff hj).mp oj
 have free:∀ k,ow[at' m h n]?≠some (some k):=λk z=>a2 ((occ_iff jl).mpr ⟨k,z⟩)
 refine ⟨_,a1,by rw [Array.size_setIfInBounds];exact L.sz,λk x hx=>?_,λj k hj=>?_,λj j' k h1 h2=>?_⟩
 ·by_cases c:k < hs.length
  ·rw [zp c] at hx
   obtain ⟨n2,b1,b2⟩:=L.each k x hx
   refine ⟨n2,?_,λn' hn=>keep _ (b2 n' hn) (by rw [L.sz];exact yN.mpr (at_le n'))⟩
   rw [get,if_neg λz=>free k (by rw [z];exact b1)]
   exact b1
  ·rw [zh (by omega)] at hx
   have:k - hs.length=0:=by
    have:=(zB.mp hx).1
    simp at this;omega
   rw [this] at hx
   cases hx
   have:k=hs.length:=by omega
   subst this
   exact ⟨n,by rw [get,if_pos rfl],λn' hn=>keep _ (a3 n' hn) (by rw [L.sz];exact yN.mpr (at_le n'))⟩
 ·rw [get] at hj
  rw [zP,ze]
  split at hj
  ·cases hj;omega
  ·have:=L.low j k hj;omega
 ·rw [get] at h1 h2
  split at h1 <;> split at h2
  ·rename_i x y;rw [<-x,<- y]
  ·cases h1;have:=L.low _ _ h2;omega
  ·cases h2;have:=L.low _ _ h1;omega
  ·exact L.one _ _ _ h1 h2
theorem lay_fold {m:Nat} (hm:Mask m):∀ (l hs:List Int) (ow:Array (Option Nat)),Lay m hs ow->hs.length + l.length<=m + 1 ->
  ∃ ow',l.foldl (λ(acc:Option (Array (Option Nat)×Nat)) h=>do
   let (owner,k) <- acc
   let j <- SetTable.layClean.free m owner (SetTable.turns m) (SetTable.bits h % (m + 1)) (SetTable.bits h)
   pure (owner.setIfInBounds j (some k),k + 1)) (some (ow,hs.length))=some (ow',hs.length + l.length)/\Lay m (hs++l) ow'
 | [],hs,ow,L,_=>⟨ow,rfl,by rw [yc];exact L⟩
 | h::l,hs,ow,L,few=>by
  obtain ⟨j,e,L'⟩:=L.step hm (by rw [za] at few;omega) h
  have few':(hs++[h]).length + l.length<=m + 1:=by rw [zP,ze];rw [za] at few;omega
  obtain ⟨ow',e2,L2⟩:=lay_fold hm l (hs++[h]) _ L' few'
  refine ⟨ow',?_,by rw [List.append_assoc] at L2;exact L2⟩
  rw [List.foldl_cons]
  show l.foldl _ ((SetTable.layClean.free m ow (SetTable.turns m) (SetTable.bits h % (m + 1)) (SetTable.bits h)).bind λj=>some (ow.setIfInBounds j (some hs.length),hs.length + 1))=_
  rw [e]
  rw [zP,ze] at e2
  rw [za]
  rw [show hs.length + (l.length + 1)=hs.length + 1 + l.length from by omega]
  exact e2
theorem lay_clean {m:Nat} (hm:Mask m) {hashes:Array Int} (few:hashes.size<=m + 1):∃ ow,SetTable.layClean m hashes=some ow/\Lay m hashes.toList ow:=by
 have L0:Lay m [] (Array.replicate (m + 1) none):=⟨by simp,λk h e=>(by cases e),(λj k e=>by rw [Array.getElem?_replicate] at e;split at e <;> cases e),(λj j' k e=>by rw [Array.getElem?_replicate] at e;split at e <;> cases e)⟩
 obtain ⟨ow,e,L⟩:=lay_fold hm hashes.toList [] _ L0 (by rw [yM,Array.length_toList];omega)
 refine ⟨ow,?_,by simpa using L⟩
 unfold SetTable.layClean
 rw [<-Array.foldl_toList]
 have:=congrArg (Option.map (·.1)) e
 exact this
theorem perm_of {l l':List Nat} (h:l.Nodup) (h':l'.Nodup) (e:∀ x,x∈l↔x∈l'):l.Perm l':=by
 rw [List.perm_iff_count]
 intro a
 rw [h.count,h'.count]
 by_cases c:a∈l
 ·rw [if_pos c,if_pos ((e a).mp c)]
 ·rw [if_neg c,if_neg λz=>c ((e a).mpr z)]
theorem fm_some {α β:Type}{f:α->Option β}{g:α->β}:∀ {l:List α},(∀ x∈l,f x=some (g x))->l.filterMap f=l.map g
 | [],_=>rfl
 | x::l,h=>by
  rw [List.filterMap_cons_some (h x yD),zk,fm_some λy hy=>h y (zj _ hy)]
theorem fm_pair {f:Nat->Option Nat}:∀ (l:List Nat),(l.filterMap λj=>(f j).map (j,·)).map (·.1)=l.filter λj=>(f j).isSome
 | []=>rfl
 | x::l=>by
  cases e:f x with
  | none=>rw [List.filterMap_cons_none (by rw [e];rfl),List.filter_cons_of_neg (by rw [e];simp),fm_pair l]
  | some k=>rw [List.filterMap_cons_some (b:=(x,k)) (by rw [e];rfl),List.filter_cons_of_pos (by rw [e];rfl),zk,fm_pair l]
theorem relaid_spec {t:SetTable}{es:Array (Int×Value)}{wanted m:Nat} (hw:SetTable.sizeAbove wanted - 1=m) (hm:Mask m) (light:es.size * 5 < m * 3) :
  ∃ t' order,t.relaid (es.map (·.1)) wanted=some (t',order)/\(order.filterMap (es[·]?)).toList.Perm es.toList/\Tab t' (order.filterMap (es[·]?)):=by
 obtain ⟨ow,e,L⟩:=lay_clean (hashes:=es.map (·.1)) hm (by rw [Array.size_map];omega)
 have lh:(es.map (·.1)).toList.length=es.size:=by rw [Array.length_toList,Array.size_map]
 have hh:∀ (k:Nat) (x:Int×Value),es[k]?=some x->(es.map (·.1)).toList[k]?=some x.1:=λk x hx=>by rw [Array.getElem?_toList,Array.getElem?_map,hx];rfl
 let lv:=(List.range (m + 1)).filterMap λj=>(ow.getD j none).map (j,·)
 have e2:t.relaid (es.map (·.1)) wanted=some ({ mask:=m,place:=(lv.map (·.1)).toArray,dummies:=#[],finger:=t.finger,led:=t.led,moves:=t.movedTo m,plain:=t.plain },(lv.map (·.2)).toArray):=by
  unfold SetTable.relaid SetTable.laid
  rw [hw,e]
  rfl
 have f1:lv.map (·.1)=(List.range (m + 1)).filter λj=>(ow.getD j none).isSome:=fm_pair _
 have f2:∀ p∈lv,ow[p.1]?=some (some p.2)/\p.1<=m:=λp hp=>by
  obtain ⟨j,hj,q⟩:=yV.mp hp
  have hj:j < m + 1:=zY.mp hj
  have hs:j < ow.size:=by rw [L.sz];exact hj
  rw [show ow.getD j none=ow[j] from by simp [Array.getD,hs]] at q
  cases eo:ow[j] with
  | none=>rw [eo] at q;cases q
  | some k=>rw [eo] at q;cases q;exact ⟨by rw [Array.getElem?_eq_getElem hs,eo],by show j<=m;omega⟩
 have f3:∀ j k,ow[j]?=some (some k)->(j,k)∈lv:=λj k h=>by
  obtain ⟨hs,eo⟩:=Array.getElem?_eq_some_iff.mp h
  refine yV.mpr ⟨j,zY.mpr (by rw [L.sz] at hs;exact hs),?_⟩
  rw [show ow.getD j none=ow[j] from by simp [Array.getD,hs],eo];rfl
 have so1:(lv.map (·.1)).Pairwise (· < ·):=by rw [f1];exact List.pairwise_lt_range.filter _
 have so2:lv.Pairwise λa b=>a.1 < b.1:=zz.mp so1
 have nd:(lv.map (·.2)).Nodup:=by
  refine zz.mpr (so2.imp_of_mem λ{a b} ha hb h z=>?_)
  have:=L.one _ _ _ (f2 a ha).1 (by rw [z];exact (f2 b hb).1)
  omega
 have kl:∀ p∈lv,p.2 < es.size:=λp hp=>by have:=L.low _ _ (f2 p hp).1;rw [lh] at this;exact this
 have pm:(lv.map (·.2)).Perm (List.range es.size):=perm_of nd List.nodup_range λk=>by
  constructor
  ·intro h
   obtain ⟨p,hp,rfl⟩:=zI.mp h
   exact zY.mpr (kl p hp)
  ·intro h
   have hk:k < es.size:=zY.mp h
   obtain ⟨n,a,_⟩:=L.each k es[k].1 (hh k _ (Array.getElem?_eq_getElem hk))
   exact zI.mpr ⟨_,f3 _ _ a,rfl⟩
 let g:Nat->Int×Value:=λk=>(es[k]?).getD (0,Value.none)
 have gk:∀ k,k < es.size->es[k]?=some (g k):=λk hk=>by show es[k]?=some ((es[k]?).getD _);rw [Array.getElem?_eq_getElem hk];rfl
 have e3:((lv.map (·.2)).toArray.filterMap (es[·]?)).toList=lv.map λp=>g p.2:=by
  rw [Array.toList_filterMap,List.filterMap_map]
  exact fm_some λp hp=>gk p.2 (kl p hp)
 have e4:es.toList=(List.range es.size).map g:=by
  have:=filterMap_getElem?_range es
  rw [fm_some (g:=g) λk hk=>gk k (zY.mp hk)] at this
  exact this.symm
 refine ⟨_,_,e2,?_,?_⟩
 ·rw [e3,e4,show (λp:Nat×Nat=>g p.2)=g ∘ (·.2) from rfl,<- zn]
  exact pm.map g
 ·have sz:((lv.map (·.2)).toArray.filterMap (es[·]?)).size=lv.length:=by rw [<-Array.length_toList,e3,zA]
  have ll:lv.length=es.size:=by have:=pm.length_eq;rw [zA,yt] at this;exact this
  refine ⟨hm,rfl,by simpa using so1,by rw [sz];simp,λj hj=>?_,by rw [sz,ll];exact light,λi hi=>?_⟩
  ·have hj:j∈lv.map (·.1):=by simpa using hj
   obtain ⟨p,hp,rfl⟩:=zI.mp hj
   exact (f2 p hp).2
  ·have ge:((lv.map (·.2)).toArray.filterMap (es[·]?))[i]?=some ((lv.map (·.2)).toArray.filterMap (es[·]?))[i]:=Array.getElem?_eq_getElem hi
   generalize ((lv.map (·.2)).toArray.filterMap (es[·]?))[i]=x at ge ⊢
   rw [<-Array.getElem?_toList,e3,zR] at ge
   cases ep:lv[i]? with
   | none=>rw [ep] at ge;cases ge
   | some p=>
    rw [ep] at ge
    have ge:g p.2=x:=Option.some.inj ge
    have hp:=zC ep
    have hx:=gk p.2 (kl p hp)
    rw [ge] at hx
    obtain ⟨n,a1,a2⟩:=L.each p.2 x.1 (hh p.2 x hx)
    have ej:=L.one _ _ _ a1 (f2 p hp).1
    refine ⟨n,?_,λn' hn=>?_⟩
    ·show ((lv.map (·.1)).toArray)[i]?=some (at' m x.1 n)
     rw [List.getElem?_toArray,zR,ep,ej];rfl
    ·show at' m x.1 n'∈((lv.map (·.1)).toArray).toList
     obtain ⟨k,hk⟩:=(occ_iff (by rw [L.sz];exact yN.mpr (at_le n'))).mp (a2 n' hn)
     simpa using ⟨k,f3 _ _ hk⟩
end SmSet
namespace SmSet
open PySem
section
variable {prog:Program}{w:World}{K:Type} [DecidableEq K] {knd:HeapKind prog w K}{A:Around}{E:Value->Shared->Prop}{s:Shared}{a:Addr}
def Hashy (knd:HeapKind prog w K):Prop:=∀ (A:Around) (s:Shared) (k:K) (b:Addr),knd.is s.heap k b->∀ (E:Value->Shared->Prop) (Q:Bool->Shared->Prop),(∀ v,Q v s)->wpAny (model prog w) A (hashByValue 8 (.ref b)) Q E s
def SetObj (es:Array (Int×Value)) (ep:Nat) (t:SetTable):Obj:={ cls:=.type "set", data:=.set es ep t }
theorem store {es es':Array (Int×Value)}{ep:Nat}{t t':SetTable}{Q:Unit->Shared->Prop} (ho:s.heap.get? a=some (SetObj es ep t)) (hz:es'.size<=sizeLine)
  (h:∀ h',Heap.SameBut a s.heap h'->h'.get? a=some (SetObj es' (ep + 1) t')->Q () { s with heap:=h' }):wpAny (model prog w) A (storeSet a es' t') Q E s:=by
 refine wpAny_storeSet_of ho rfl (h _ (Heap.SameBut.update s.heap a (Obj.putSet es' t')) ?_) hz
 have:=Heap.get?_update_self (Obj.putSet es' t') ho (by rw [putSet_of es' t' rfl];rfl)
 rw [putSet_of es' t' rfl] at this;exact this
theorem grown_mask {n m:Nat} (hm:Mask m) (lt:(n - 1) * 5 < m * 3) (n1:1<=n) (full:n * 5 ≥ m * 3) (few:n<=4000):Mask (SetTable.sizeAbove (SetTable.grown n) - 1)/\n * 5 < (SetTable.sizeAbove (SetTable.grown n) - 1) * 3/\SetTable.sizeAbove (SetTable.grown n)<=8192:=by
 rcases hm with rfl | rfl | rfl | rfl | rfl | rfl
 ·have:n=5:=by omega
  subst this
  exact ⟨.inr (.inl (by decide +kernel)),by decide +kernel,by decide +kernel⟩
 ·have:n=19:=by omega
  subst this
  exact ⟨.inr (.inr (.inl (by decide +kernel))),by decide +kernel,by decide +kernel⟩
 ·have:n=77:=by omega
  subst this
  exact ⟨.inr (.inr (.inr (.inl (by decide +kernel)))),by decide +kernel,by decide +kernel⟩
 ·have:n=307:=by omega
  subst this
  exact ⟨.inr (.inr (.inr (.inr (.inl (by decide +kernel))))),by decide +kernel,by decide +kernel⟩
 ·have:n=1229:=by omega
  subst this
  exact ⟨.inr (.inr (.inr (.inr (.inr (by decide +kernel))))),by decide +kernel,by decide +kernel⟩
 ·omega
theorem add {es:Array (Int×Value)}{ep:Nat}{t:SetTable}{ks:Nat->K}{kx:K}{c:Addr}{Q:Bool->Shared->Prop} (hr:knd.room A) (S:SetT knd s.heap a es ep t ks) (hx:knd.is s.heap kx c) (cl:Calm knd A s) (hb:Hashy knd) (few:es.size < 4000)
  (qt:(∃ i,i < es.size/\ks i=kx)->Q false s)
  (qf:∀ (h':Heap) (es':Array (Int×Value)) (ep':Nat) (t':SetTable),(∀ i,i < es.size->ks i≠kx)->Heap.SameBut a s.heap h'->h'.get? a=some (SetObj es' ep' t')->Tab t' es'->es'.toList.Perm (es.toList++[(knd.hash kx,.ref c)])->Q true { s with heap:=h' }) :
  wpAny (model prog w) A (setAddHashed a (.ref c) (knd.hash kx)) Q E s:=by
 obtain ⟨N,n1,n2,n3⟩:=S.tab.first (knd.hash kx)
 have line:10000<=sizeLine:=by rw [sizeLine_eq];decide
 unfold setAddHashed setAddHashedIn
 refine wpAny_holding (wpAny_bind (wpAny_setState_of S.obj rfl S.tab.fits ?_))
 dsimp only
 rw [show byScan (.ref c) es=false from rfl]
 simp only [zV,if_false]
 refine wpAny_bind ?_
 unfold setSearch
 have lim:10 * (t.mask + 13) < 100000:=by
  rcases S.tab.mask with h | h | h | h | h | h <;> rw [h] <;> decide
 refine search hr S.obj rfl S.tab S.keys hx cl (λr h f=>?_) n2 n3 n1 (λnf=>?_) 100000 0 none (by omega) (zT _) rfl (λn' h=>absurd h (zd _))
 ·exact wpAny_pure (qt f)
 ·dsimp only
  refine wpAny_bind (wpAny_setState_of S.obj rfl S.tab.fits ?_)
  dsimp only
  have m7:7<=t.mask:=by rcases S.tab.mask with h | h | h | h | h | h <;> omega
  have lt:=S.tab.light
  have e200:SetTable.tooFull=λt=>decide (t.fill * 5 ≥ t.mask * 3):=rfl
  have tail:∀ tt,(∃ pl,tt={ (t.put (at' t.mask (knd.hash kx) N)).1 with plain:=pl })->wpAny (model prog w) A (do
    storeSet a (SetTable.insertAt es (t.put (at' t.mask (knd.hash kx) N)).2 (knd.hash kx,Value.ref c)) tt
    if (!false && tt.tooFull)=true then do
     setRelay a (SetTable.grown (es.size + 1))
     pure true
    else pure true) Q E s:=by
   rintro tt ⟨pl,rfl⟩
   obtain ⟨pt,pd,pm,ps⟩:=S.tab.put (x:=Value.ref c) n2 n3 pl
   have pp:=SetTable.insertAt_perm es (t.put (at' t.mask (knd.hash kx) N)).2 (knd.hash kx,Value.ref c)
   rw [Array.toList_push] at pp
   have sz:(SetTable.insertAt es (t.put (at' t.mask (knd.hash kx) N)).2 (knd.hash kx,Value.ref c)).size=es.size + 1:=by
    have:=pp.length_eq
    rw [Array.length_toList,zP,Array.length_toList,ze] at this;exact this
   generalize (t.put (at' t.mask (knd.hash kx) N)).1=T1 at pt pd pm ps ⊢
   generalize SetTable.insertAt es (t.put (at' t.mask (knd.hash kx) N)).2 (knd.hash kx,Value.ref c)=es1 at pt pp sz ⊢
   have fit:({ T1 with plain:=pl }:SetTable).fits es1.size=true:=by
    unfold SetTable.fits SetTable.fill
    dsimp only
    rw [ps,pd,sz,pm]
    simp
    omega
   refine wpAny_bind (store S.obj (by omega) λh' sb go=>?_)
   have full:({ T1 with plain:=pl }:SetTable).tooFull=decide ((es.size + 1) * 5 ≥ t.mask * 3):=by
    unfold SetTable.tooFull SetTable.fill
    dsimp only
    rw [ps,pd,pm];rfl
   rw [full]
   by_cases c:(es.size + 1) * 5 ≥ t.mask * 3
   ·rw [decide_eq_true c]
    simp only [Bool.not_false,Bool.and_self,if_true]
    obtain ⟨gm,gl,gz⟩:=grown_mask S.tab.mask (by rw [Nat.add_sub_cancel];exact lt) (by omega) c (by omega)
    obtain ⟨t2,order,er,pr,T2⟩:=relaid_spec (t:={ T1 with plain:=pl }) (es:=es1) rfl gm (by rw [sz];exact gl)
    refine wpAny_bind ?_
    unfold setRelay
    refine wpAny_bind (wpAny_setState_of (s:={ s with heap:=h' }) go rfl fit ?_)
    dsimp only
    rw [if_neg (by omega)]
    refine wpAny_bind ?_
    rw [er]
    show wpAny (model prog w) A (if ((order.filterMap (es1[·]?)).size != es1.size)=true then _ else _) _ _ _
    have s2:(order.filterMap (es1[·]?)).size=es1.size:=by have:=pr.length_eq;rw [Array.length_toList,Array.length_toList] at this;exact this
    rw [if_neg (by rw [s2];simp)]
    refine wpAny_pure ?_
    dsimp only
    refine store (s:={ s with heap:=h' }) go (by rw [s2];omega) λh2 sb2 go2=>?_
    exact wpAny_pure (qf h2 _ _ _ nf (sb.trans sb2) go2 T2 (pr.trans pp))
   ·rw [decide_eq_false c]
    simp only [Bool.not_false,Bool.and_false,zV,if_false]
    exact wpAny_pure (qf h' _ _ _ nf sb go (pt (by omega)) pp)
  split
  ·refine wpAny_bind (hb _ _ _ _ hx _ _ λv=>tail _ ?_)
   cases v with
   | true=>exact ⟨(t.put (at' t.mask (knd.hash kx) N)).1.plain,rfl⟩
   | false=>exact ⟨false,rfl⟩
  ·refine wpAny_bind (wpAny_pure (tail _ ⟨(t.put (at' t.mask (knd.hash kx) N)).1.plain,rfl⟩))
end
end SmSet
namespace SmSet
open PySem
section
variable {prog:Program}{w:World}{K:Type} [DecidableEq K] {knd:HeapKind prog w K}{A:Around}{E:Value->Shared->Prop}{s:Shared}{a:Addr}
theorem callAdd {es:Array (Int×Value)}{ep:Nat}{t:SetTable}{ks:Nat->K}{kx:K}{c:Addr}{Q:Value->Shared->Prop} (hr:knd.room A.in1) (S:SetT knd s.heap a es ep t ks) (hx:knd.is s.heap kx c) (cl:∀ B (s':Shared),s'.heap=s.heap->Calm knd B s') (hb:Hashy knd) (few:es.size < 4000)
  (qt:(∃ i,i < es.size/\ks i=kx)->Q .none { s with toks:=s.toks + knd.draws kx })
  (qf:∀ (h':Heap) (es':Array (Int×Value)) (ep':Nat) (t':SetTable),(∀ i,i < es.size->ks i≠kx)->Heap.SameBut a s.heap h'->h'.get? a=some (SetObj es' ep' t')->Tab t' es'->es'.toList.Perm (es.toList++[(knd.hash kx,.ref c)])->Q .none { s with heap:=h',toks:=s.toks + knd.draws kx }) :
  wpAny (model prog w) A (call (.builtin "set.add") [.ref a,.ref c]) Q E s:=by
 refine wpAny_call_entry F.slot_set_add (set_typeIs S) F.entry_set_add ?_ (F.args_set_add_2 _ _)
 unfold Builtin.«set.add» Builtin.Frozenset.oneOther
 simp only [List.isEmpty_nil,bind_assoc]
 unfold Builtin.Frozenset.addrOf setAdd
 refine wpAny_bind (wpAny_pure ?_)
 try dsimp only
 refine wpAny_bind (wpAny_pure ?_)
 try dsimp only
 refine wpAny_bind ?_
 refine wpAny_holding ?_
 refine wpAny_bind (knd.pyHash hr hx ?_)
 refine add (s:={ s with toks:=s.toks + knd.draws kx }) hr ⟨S.obj,S.tab,S.keys⟩ hx (cl _ _ rfl) hb few (λf=>?_) (λh' es' ep' t' nf sb go T' pm=>?_)
 ·show wpAny _ _ (ret Value.none) _ _ _
  exact wpAny_pure ⟨_,rfl,qt f⟩
 ·show wpAny _ _ (ret Value.none) _ _ _
  exact wpAny_pure ⟨_,rfl,qf h' es' ep' t' nf sb go T' pm⟩
end
section
variable {prog:Program}{w:World}{K:Type} [DecidableEq K] {knd:KeyKind prog w K}
theorem plain_stm {v:Value} (h:carriedByValue v=true) (n:Nat):ofAClassStatement n v=pure false:=by
 cases v with
 | ref a=>cases h
 | _=>cases n <;> rfl
theorem tup_calm {A:Around}{s:Shared}:Calm (tupleKind knd) A s:=by
 intro k b hk E Q q
 have hT:s.TypeIs (.ref b) "tuple" := IsTupleKey.typeIs hk
 obtain ⟨o,items,n,ho,hc,hd,hi⟩:=hk
 unfold ofAClassStatement
 refine wpAny_bind (wpAny_typeOf hT ?_)
 dsimp only
 rw [if_pos (by decide)]
 refine wpAny_bind (wpAny_pure ?_)
 simp only [Bool.not_true,zV,if_false]
 refine wpAny_bind (wpAny_seqItems ho hd ?_)
 dsimp only
 refine wpAny_bind ?_
 rw [<-Array.forIn_toList]
 refine wpAny_forIn_list _ (λrest r s'=>r.1=none/\s'=s/\∀ v∈rest,carriedByValue v=true) _ ?_ ?_ _ _ ⟨rfl,rfl,hi.byValue⟩
 ·rintro v rest r s' ⟨hr,rfl,hall⟩
  rw [plain_stm (hall v yD)]
  refine wpAny_bind (wpAny_pure ?_)
  simp only [zV,if_false]
  exact wpAny_pure ⟨rfl,rfl,λu hu=>hall u (zj _ hu)⟩
 ·rintro ⟨r1,r2⟩ s' ⟨hr,rfl,_⟩
  simp only at hr
  subst hr
  exact wpAny_pure q
theorem plain_hash {v:Value} (h:carriedByValue v=true) (n:Nat):∃ c,hashByValue n v=pure c:=by
 cases v with
 | ref a=>cases h
 | _=>cases n <;> exact ⟨_,rfl⟩
theorem tup_hashy:Hashy (tupleKind knd):=by
 intro A s k b hk E Q q
 have hT:s.TypeIs (.ref b) "tuple" := IsTupleKey.typeIs hk
 obtain ⟨o,items,n,ho,hc,hd,hi⟩:=hk
 unfold hashByValue
 refine wpAny_bind (wpAny_specialOf hT F.slot_tuple_hash.lookup ?_)
 dsimp only
 refine wpAny_bind (wpAny_seqItems ho hd ?_)
 dsimp only [Option.getD]
 refine wpAny_bind ?_
 rw [<-Array.forIn_toList]
 refine wpAny_forIn_list _ (λrest r s'=>r.1=none/\s'=s/\∀ v∈rest,carriedByValue v=true) _ ?_ ?_ _ _ ⟨rfl,rfl,hi.byValue⟩
 ·rintro v rest r s' ⟨hr,rfl,hall⟩
  obtain ⟨c,hc'⟩:=plain_hash (hall v yD) 7
  rw [hc']
  refine wpAny_bind (wpAny_pure ?_)
  cases c with
  | true=>
   simp only [Bool.not_true,zV,if_false]
   exact wpAny_pure ⟨rfl,rfl,λu hu=>hall u (zj _ hu)⟩
  | false=>
   simp only [Bool.not_false,if_true]
   exact wpAny_pure (wpAny_pure (q _))
 ·rintro ⟨r1,r2⟩ s' ⟨hr,rfl,_⟩
  simp only at hr
  subst hr
  exact wpAny_pure (q _)
end
end SmSet
namespace L2
open PySem PySem.Spec PyProof.Rows SmSet
def setO (P:Program) (w:World) (a:Addr) (xs:List (Addr×List Int)):HO:=.ext λh=>∃ es ep t,h.get? a=some (SetObj es ep t)/\Tab t es/\es.toList.Perm (xs.map λx=>(tupleKeyHash (mixKind P w) (x.2.map Sum.inl),Value.ref x.1))
section
variable {X:Cx}{pins:List (Addr×Obj)}{σ:St}{H:Hp}{s:Shared}{a:Addr}
theorem setO_ok {P:Program}{w:World}{H:Hp}{h:Heap}{xs:List (Addr×List Int)}{es:Array (Int×Value)}{ep:Nat}{t:SetTable} (ho:h.get? a=some (SetObj es ep t)) (T:Tab t es) (pm:es.toList.Perm (xs.map λx=>(tupleKeyHash (mixKind P w) (x.2.map Sum.inl),Value.ref x.1))) :
  ObjOk P w H h a (setO P w a xs):=⟨⟨es,ep,t,ho,T,pm⟩,⟨_,ho⟩,λh1 h2 ⟨es,ep,t,ho,T,pm⟩ k=>⟨es,ep,t,k _ ho,T,pm⟩⟩
theorem ints_key (ks:List Int):ks.map V.int=(ks.map Sum.inl).map kV:=by rw [zn];rfl
theorem setO_is (I:Inv X pins σ H s) {xs:List (Addr×List Int)} (h:H a=some (setO X.prog X.w a xs)) (hk:∀ e∈xs,H e.1=some (.tup (e.2.map V.int))) :
  ∃ es ep t ks,SetT (tupleKind (mixKind X.prog X.w)) s.heap a es ep t ks/\es.toList.Perm (xs.map λx=>(tupleKeyHash (mixKind X.prog X.w) (x.2.map Sum.inl),Value.ref x.1)) /\
   (∀ k:List Int,(∃ i,i < es.size/\ks i=k.map Sum.inl)↔k∈xs.map (·.2)):=by
 obtain ⟨⟨es,ep,t,ho,T,pm⟩,_⟩:=I.hok a _ h
 have pick:∀ i,∃ x:Addr×List Int,i < es.size->x∈xs/\es[i]?=some (tupleKeyHash (mixKind X.prog X.w) (x.2.map Sum.inl),Value.ref x.1):=λi=>by
  by_cases hi:i < es.size
  ·have:=pm.mem_iff.mp (show es[i]∈es.toList from by simp)
   obtain ⟨x,hx,e⟩:=zI.mp this
   exact ⟨x,λ_=>⟨hx,by rw [Array.getElem?_eq_getElem hi,<- e]⟩⟩
  ·exact ⟨(0,[]),λz=>absurd z hi⟩
 refine ⟨es,ep,t,λi=>((pick i).choose).2.map Sum.inl,⟨ho,T,λi hi=>?_⟩,pm,λk=>⟨?_,λhk'=>?_⟩⟩
 ·obtain ⟨h1,h2⟩:=(pick i).choose_spec hi
  exact ⟨_,Option.some.inj ((Array.getElem?_eq_getElem hi).symm.trans h2),key_of I.hok (by rw [hk _ h1,ints_key])⟩
 ·rintro ⟨i,hi,e⟩
  obtain ⟨h1,h2⟩:=(pick i).choose_spec hi
  have:((pick i).choose).2=k:=List.map_inj_right (λx y z=>Sum.inl.inj z) |>.mp e
  exact zI.mpr ⟨_,h1,this⟩
 ·obtain ⟨x,hx,rfl⟩:=zI.mp hk'
  have:=pm.mem_iff.mpr (zI.mpr ⟨x,hx,rfl⟩)
  obtain ⟨i,hi,e⟩:=yi this
  have hi':i < es.size:=by simpa using hi
  refine ⟨i,hi',?_⟩
  obtain ⟨h1,h2⟩:=(pick i).choose_spec hi'
  have e':es[i]?=some (tupleKeyHash (mixKind X.prog X.w) (x.2.map Sum.inl),Value.ref x.1):=by rw [<-Array.getElem?_toList,zU hi,e]
  rw [h2] at e'
  have ea:((pick i).choose).1=x.1:=by injection e' with e';injection e' with _ e';injection e'
  have t1:=hk _ h1
  have t2:=hk _ hx
  rw [ea,t2] at t1
  injection t1 with t1
  injection t1 with t1
  have:x.2=((pick i).choose).2:=List.map_inj_right (λx y z=>V.int.inj z) |>.mp t1
  rw [this]
def rSetNew (P:Program) (w:World):List V->Hp->VK->Prop:=λxs H Q=>xs=[]/\∀ p,H p=none->Q (.ref p) (upd H p (setO P w p []))
theorem call_setNew:CallR X (.type "set") (rSetNew X.prog X.w):=by
 intro pins s σ H xs us Q I r h
 obtain ⟨rfl,q⟩:=h
 cases r
 refine call_set_0 λled=>?_
 refine ⟨.ref s.heap.objs.size,_,I.laid (a:=s.heap.objs.size) (o:=setO X.prog X.w s.heap.objs.size []) (t':=s.toks) (λ_ _ q=>Heap.get?_push_of_some _ q) (zD _) ?_,rfl,q _ (I.hok.fresh (zD _))⟩
 exact setO_ok (Heap.get?_push_size _ rfl) ⟨.inl rfl,rfl,.nil,rfl,(λ_ z=>nomatch z),(by show 0 * 5 < 7 * 3;decide),λi hi=>absurd hi (zd _)⟩ .nil
def rInS (P:Program) (w:World):R2:=λx y H Q=>∃ p xs c,∃ k:List Int,x=.ref c/\y=.ref p/\H p=some (setO P w p xs)/\H c=some (.tup (k.map V.int))/\(∀ e∈xs,H e.1=some (.tup (e.2.map V.int)))/\Q (.bl (decide (k∈xs.map (·.2)))) H
theorem op_inS (hu:X.A.units + 64 < cLine):OpR X (compareOp .In) (rInS X.prog X.w):=by
 intro pins s σ H x y v u Q I rx ry h
 obtain ⟨p,xs,c,k,rfl,rfl,hp,hc,hk,q⟩:=h
 cases rx;cases ry
 obtain ⟨es,ep,t,ks,S,pm,mem⟩:=setO_is I hp hk
 refine inSet (knd:=tupleKind (mixKind X.prog X.w)) (kx:=k.map Sum.inl) (show X.A.units + 1 < cLine by omega) S (key_of I.hok (by rw [hc,ints_key])) (λ_ _ _=>tup_calm) (λf=>?_) (λnf=>?_)
 ·rw [decide_eq_true ((mem k).mp f)] at q
  exact ⟨.bl true,H,I.kept (λ_ _ z=>z),rfl,q⟩
 ·rw [decide_eq_false λz=>by obtain ⟨i,hi,e⟩:=(mem k).mpr z;exact nf i hi e] at q
  exact ⟨.bl false,H,I.kept (λ_ _ z=>z),rfl,q⟩
def rAddS (P:Program) (w:World):V->List V->Hp->VK->Prop:=λx vs H Q=>∃ p xs c,∃ k:List Int,x=.ref p/\vs=[.ref c]/\H p=some (setO P w p xs)/\H c=some (.tup (k.map V.int))/\(∀ e∈xs,H e.1=some (.tup (e.2.map V.int)))/\xs.length < 4000 /\
 (k∈xs.map (·.2)->Q .non H)/\(k ∉ xs.map (·.2)->Q .non (upd H p (setO P w p (xs++[(c,k)]))))
theorem mt_addS (hu:X.A.units + 64 < cLine):MtR X "set.add" (rAddS X.prog X.w):=by
 intro pins s σ H x vs v us Q I rx rv h
 obtain ⟨p,xs,c,k,rfl,rfl,hp,hc,hk,few,q1,q2⟩:=h
 cases rx
 obtain ⟨u,rfl,ru⟩:=rv.one
 cases ru
 obtain ⟨es,ep,t,ks,S,pm,mem⟩:=setO_is I hp hk
 have sz:es.size=xs.length:=by have:=pm.length_eq;rw [Array.length_toList,zA] at this;exact this
 refine callAdd (knd:=tupleKind (mixKind X.prog X.w)) (kx:=k.map Sum.inl) (show X.A.units + 1 < cLine by omega) S (key_of I.hok (by rw [hc,ints_key])) (λ_ _ _=>tup_calm) tup_hashy (by omega) (λf=>?_) (λh' es' ep' t' nf sb go T' pm'=>?_)
 ·exact ⟨.non,H,I.kept (λ_ _ z=>z),rfl,q1 ((mem k).mp f)⟩
 ·refine ⟨.non,_,I.write (x:=p) (e:=p) (by rw [hp];trivial) (.inl rfl) (λb o hb z=>(sb.2 b hb).trans z) ⟨_,go⟩ (setO_ok go T' ?_),rfl,q2 λz=>by obtain ⟨i,hi,e⟩:=(mem k).mpr z;exact nf i hi e⟩
  rw [zG]
  exact pm'.trans (pm.append_right _)
def tBMS (P:Program) (w:World) (r:V->List V->Hp->VK->Prop) (to:TE) (t:TA):TE:=fun σ H Q=>to σ H λx H1=>(∃ p xs,x=.ref p/\H1 p=some (setO P w p xs))/\t σ H1 λxs H2=>r x xs H2 Q
theorem pe_bmS {o e:Expr}{es:List Expr}{to:TE}{t:TA}{name:Str}{apos cpos:Pos}{id:String}{r:V->List V->Hp->VK->Prop} (slot:Slot "set" name id) (hty:typeOf (.builtin id)=pure (.type "method_descriptor")) (hm:MtR X id r) (ho:PE X o to) (ha:PA X (e::es) t)
  (hbase:attributeBase o name X.env (eval o X.env)=eval o X.env:=by rfl)
  (hfew:((backTo cpos (starEach (e::es) X.env)).all (λx=>!x.1) && (backToKw cpos (keywordEach [] X.env)).all (λx=>x.1.isSome)
   && decide ((e::es).length + ([]:List Keyword).length + (if ([]:List Keyword).isEmpty then 0 else 1) < 30))=true:=by rfl)
  (hline:(apos.endLine == cpos.line)=true:=by rfl) (hs:starEach (e::es) X.env=(false,eval e X.env)::starEach es X.env:=by rfl) (hplain:(backTo cpos (starEach es X.env)).any (·.1)=false:=by rfl) :
  PE X (.Call (.Attribute o name apos) (e::es) [] cpos) (tBMS X.prog X.w r to t):=by
 intro pins s σ H Q I h
 refine wpAny_Call_method_late hbase hfew hline rfl (thn (ho pins s σ H _ I h) λv s1 ⟨x,H1,I1,r1,⟨p,xs,ex,hp⟩,q1⟩=>?_)
 subst ex
 cases r1
 obtain ⟨⟨es',ep,tt,hob,_⟩,_⟩:=I1.hok p _ hp
 refine ⟨"set", id,F.plainAttrs_set,slot,hty,⟨_,hob,rfl⟩,λa e=>by cases e;exact ⟨_,hob,rfl⟩,?_⟩
 have hA:=ha cpos pins s1 σ H1 _ I1 q1
 rw [hs] at hA ⊢
 refine Calls.callWith_builtin (by show (false || (backTo cpos (starEach es X.env)).any (·.1))=false;rw [hplain] <;> rfl) (Calls.evalArgs_plain ?_)
 exact thn hA λus s2 ⟨vs,H2,I2,r2,q2⟩=>hm pins s2 σ H2 (.ref p) vs (.ref p) us Q I2 rfl r2 q2
end
end L2
namespace L2
open PySem PySem.Spec PyProof.Rows PySem.W
theorem lam_run {P:Program}{w:World}{K:PySem.W.Frag}{mg:Str->Option Value}{base:Heap}{k:Nat}{f c':Addr}{name qual:Str}{params:Arguments}{body:Expr}{scope:Scope}{pm ctv:Value}{N ps:List Str}
  {A:Around}{outer:List Env}{s:Shared}{H:Hp}{us:List Value}{vs:List V}{Q:VK} (S:FnScope N ps scope) (hr:Room (k + 1) A) (e0:Env0 P w K mg base A outer s H)
  (ho:s.heap.get? f=some (kla_obj name qual params body scope [] pm c' ctv)) (hcd:s.heap.CodeRec (.ref c') qual) (hb:bindArgs (kla_fn name qual params body scope [] pm (.ref c') ctv) ⟨us,[]⟩=pure (ps.zip us)) (hl:vs.length=ps.length) (r:Vals vs us)
  (hbody:∃ t,PE (cxOf CX0 P w K mg base N qual scope f (.ref c') A outer s H E0).nox body t/\t (start N vs) H Q) :
  codeAny (model P w) A (.call (.ref f) ⟨us,[]⟩) (CR CX0 outer P w H s Q E0) s:=by
 have lim:s.heap.NoLimit:=e0.mod.nolimit.keeps λb o e=>(e0.bs b o e).1
 have hkind:∀ y∈ps.zip us,scope.names.lookup y.1=some .local\/(scope.names.lookup y.1=some .cell/\((cellsFrom (s.heap.objs.size + 1) scope.names []).lookup y.1).isSome=true):=λ⟨n,v⟩ hy=>by
  rcases S.par n (List.of_mem_zip hy).1 with q | q
  ·exact .inl q
  ·exact .inr ⟨q,PySem.W.cellsFrom_some _ _ _ (.inl q)⟩
 refine kla_callFunE hr.depth ho rfl S.co S.gen rfl hcd ?_
 rw [hb]
 refine wpAny_pure ?_
 refine wpAny_newFunctionEnv_cells S.kind hkind λenv he s1 x=>?_
 subst he
 refine ⟨lim.keeps x.toInCall.keep,kla_codeExpr ?_⟩
 obtain ⟨t,ht,hq⟩:=hbody
 have I:Inv (cxOf CX0 P w K mg base N qual scope f (.ref c') A outer s H E0) [] (start N vs) H s1:=inv_start S hr.hd e0 hl r x
 refine wpAny_mono (ht.nox [] s1 (start N vs) H _ I hq) (λu s' hs=>?_) λe s' hs=>hs
 obtain ⟨v,H',J,rv,q⟩:=hs
 exact ⟨v,H',J.os,J.bare,J.base,J.hok,rv,q⟩
end L2
namespace L2
open PySem PySem.Spec PyProof.Rows PySem.W
def codeO (c:Addr) (qual:Str):HO:=.ext λh=>h.CodeRec (.ref c) qual
def MT (P:Addr) (pos:Pos) (qual:Str) (H:Hp):Prop:=H P=some (.tbl #[])\/∃ c,H P=some (.tbl #[rawInt pos.line,rawInt pos.col,.ref c])/\H c=some (codeO c qual)
def BmAt (mg:Str->Option Value) (base:Heap):Prop:=∃ bm o,mg "__builtins__" = some (.ref bm)/\bm≠builtinsNs/\bm≠mainGlobals/\base.get? bm=some o/\o.cls=.type "module" /\ o.dict=some builtinsNs/\o.data=.plain
section
variable {X:Cx}{pins:List (Addr×Obj)}{σ:St}{H:Hp}{s:Shared}
theorem Inv.fsLt (I:Inv X pins σ H s):∀ b∈X.fs,b < s.heap.objs.size:=λb hb=>by
 obtain ⟨_,o,ho,_⟩:=I.ok.funs.mem hb
 exact zO (Heap.lt_size ho) I.sz
theorem codeO_ok {P:Program}{w:World}{H:Hp}{h:Heap}{c:Addr}{qual:Str} (r:h.CodeRec (.ref c) qual):ObjOk P w H h c (codeO c qual):=by
 obtain ⟨c2,oc,vs,t,e,ho,hd,hv⟩:=id r
 cases e
 exact ⟨r,⟨_,ho⟩,λh1 h2 ⟨c2,oc,vs,t,e,ho,hd,hv⟩ k=>by cases e;exact ⟨c,oc,vs,t,rfl,k _ ho,hd,hv⟩⟩
theorem lam_eval {P c:Addr}{pos:Pos}{params:Arguments}{body:Expr}{scope:Scope}{Q:Value->Shared->Prop} (I:Inv X pins σ H s) (mt:MT P pos (X.env.qual ++ "<lambda>") H) (hcode:X.env.code=.ref c) (hd:codeHdIn X.K c P=true) (bm:BmAt X.mg X.base)
  (hdef:defaultsOf params X.env=([],[])) (hcl:closureFor scope X.env=pure [])
  (h:∀ f c' ctv pm H' s',Inv X ((f,kla_obj "<lambda>" (X.env.qual ++ "<lambda>") params body scope [] pm c' ctv)::pins) σ H' s'->H' c'=some (codeO c' (X.env.qual ++ "<lambda>"))->Sm.But P H H'->MT P pos (X.env.qual ++ "<lambda>") H'->Q (.ref f) s') :
  wpAny (model X.prog X.w) X.A (eval (.Lambda params body scope pos) X.env) Q X.xe s:=by
 refine kla_eval hdef ?_
 have glob:s.heap.Ns mainGlobals X.mg:=I.mod.glob.keeps I.bk
 have C:CodeHd s.heap c P:=codeHd_of_K I.kIn hd
 have tr:∃ o,H P=some o:=by rcases mt with e | ⟨_,e,_⟩ <;> exact ⟨_,e⟩
 have inB:∀ b o,X.base.get? b=some o->b≠P:=λb o e z=>by
  have:=(I.bs b o e).2
  obtain ⟨u,hu⟩:=tr
  rw [z,hu] at this;cases this
 have hgP:mainGlobals≠P:=by
  obtain ⟨o,_,_,e,_⟩:=I.mod.glob
  exact inB _ _ e
 have hB:s.heap.BuiltinsAt X.mg P:=by
  obtain ⟨b,o,e1,e2,e3,e4,e5,e6,e7⟩:=bm
  exact ⟨b,o,e1,e2,e3,inB _ _ e4,I.bk _ _ e4,e5,e6,e7⟩
 have pin:∀ {h':Heap}{H':Hp}{ob:Obj}{tk:Nat},Inv X pins σ H' { s with heap:=h'.push ob,toks:=tk }->s.heap.objs.size<=h'.objs.size->H' h'.objs.size=none->(∀ v,ob.data≠.cell v)->ob.isFreed=false->Inv X ((h'.objs.size,ob)::pins) σ H' { s with heap:=h'.push ob,toks:=tk }:=λ{h' H' ob tk} J hs hn nc nf=>
  J.pins_of λp hp=>by
   rcases zF.mp hp with rfl | hp
   ·exact ⟨Heap.get?_push_size _ nf,hn,yF (zO I.lt hs),λz=>z8 _ (zO (I.fsLt _ z) hs),nc⟩
   ·exact J.pin p (zL _ hp)
 rcases mt with mt | ⟨c1,mt,hc1⟩
 ·have hP:s.heap.get? P=some (tabObj #[]):=I.hok P _ mt
  refine kla_makeFunction hcl I.ok.glob glob hcode C hP trivial rfl hgP hB λc' ctv h' tk hx hge hlt rec hP'=>?_
  have fr:H c'=none:=I.hok.fresh hge
  have ncP:c'≠P:=λz=>by rw [z,mt] at fr;cases fr
  have rec':(h'.push (kla_obj "<lambda>" (X.env.qual ++ "<lambda>") params body scope [] ((X.mg "__name__").getD .none) c' ctv)).CodeRec (.ref c') (X.env.qual ++ "<lambda>"):=by
   obtain ⟨c2,oc,vs,t,e,ho,hd,hv⟩:=rec
   exact ⟨c2,oc,vs,t,e,Heap.get?_push_of_some _ ho,hd,hv⟩
  have kp:∀ b o,b≠P->s.heap.get? b=some o->(h'.push (kla_obj "<lambda>" (X.env.qual ++ "<lambda>") params body scope [] ((X.mg "__name__").getD .none) c' ctv)).get? b=some o:=λb o hb e=>Heap.get?_push_of_some _ (hx b o hb e)
  have hP2:=Heap.get?_push_of_some (kla_obj "<lambda>" (X.env.qual ++ "<lambda>") params body scope [] ((X.mg "__name__").getD .none) c' ctv) hP'
  have at_:∀ b,b≠P->b≠c'->upd (upd H P (.tbl #[rawInt pos.line,rawInt pos.col,.ref c'])) c' (codeO c' (X.env.qual ++ "<lambda>")) b=H b:=λb h1 h2=>by rw [xO h2,xO h1]
  have neT:∀ b u,H b=some u->u≠.tbl #[]->b≠P:=λb u e n z=>by rw [z,mt] at e;cases e;exact n rfl
  have neC:∀ b u,H b=some u->b≠c':=λb u e z=>by rw [z,fr] at e;cases e
  have lt:∀ b o,s.heap.get? b=some o->b≠c':=λb o e=>zQ (zO (Heap.lt_size e) hge)
  have aP:upd (upd H P (.tbl #[rawInt pos.line,rawInt pos.col,.ref c'])) c' (codeO c' (X.env.qual ++ "<lambda>")) P=some (.tbl #[rawInt pos.line,rawInt pos.col,.ref c']):=by rw [xO ncP.symm,xI]
  have J:Inv X pins σ (upd (upd H P (.tbl #[rawInt pos.line,rawInt pos.col,.ref c'])) c' (codeO c' (X.env.qual ++ "<lambda>"))) { s with heap:=h'.push (kla_obj "<lambda>" (X.env.qual ++ "<lambda>") params body scope [] ((X.mg "__name__").getD .none) c' ctv),toks:=tk }:=by
   refine I.un ⟨λb o e n _ _=>kp b o (λz=>by rw [z,mt] at n;cases n) e,λb o e n _ _=>⟨o.slots,kp b o (λz=>by rw [z,mt] at n;cases n) e⟩,λb o e n _=>?_,λb o e _=>?_,λb xs e=>?_,λb o u e=>?_,λb ps e=>?_⟩ λb u e=>?_
   ·rw [at_ b (λz=>by rw [z,mt] at n;cases n) (lt b o e)];exact n
   ·by_cases z:b=P
    ·exact ⟨_,by rw [z];exact hP2⟩
    ·exact ⟨o,kp b o z e⟩
   ·rw [at_ b (neT b _ e (by intro z;cases z)) (neC b _ e)];exact e
   ·rw [at_ b (neT b _ e (by intro z;cases z)) (neC b _ e)];exact e
   ·by_cases z:b=P
    ·rw [z,mt] at e;cases e
     exact ⟨_,by rw [z,aP,Array.empty_append]⟩
    ·exact ⟨#[],by rw [at_ b z (neC b _ e),e,Array.append_empty]⟩
   ·by_cases z:b=c'
    ·subst z;rw [xI] at e;cases e
     exact codeO_ok rec'
    ·by_cases z2:b=P
     ·rw [z2,aP] at e;cases e
      rw [z2]
      exact hP2
     ·rw [at_ b z2 z] at e
      refine (I.hok b u e).stay (λb' v hb q=>kp b' v (λy=>?_) q) (λb' q=>by rw [at_ b' (neT b' _ q (by intro z;cases z)) (neC b' _ q)];exact q) λb' xs q=>by rw [at_ b' (neT b' _ q (by intro z;cases z)) (neC b' _ q)];exact q
      rcases hb with hb | hb
      ·exact z2 (hb.symm.trans y)
      ·rw [y,mt] at hb;cases hb
  have nf:upd (upd H P (.tbl #[rawInt pos.line,rawInt pos.col,.ref c'])) c' (codeO c' (X.env.qual ++ "<lambda>")) h'.objs.size=none:=by
   rw [at_ h'.objs.size (yF (Heap.lt_size hP')) (yF hlt)]
   exact I.hok.fresh (by omega)
  refine h _ c' ctv ((X.mg "__name__").getD .none) _ _ (pin J (by omega) nf (by intro v z;cases z) rfl) xI (λb u hb e=>?_) (.inr ⟨c',aP,xI⟩)
  rw [at_ b hb (neC b _ e)];exact e
 ·have hP:s.heap.get? P=some (tabObj #[rawInt pos.line,rawInt pos.col,.ref c1]):=I.hok P _ mt
  refine kla_makeFunctionHit (cv:=.ref c1) hcl I.ok.glob glob hcode C hP ⟨⟩ ?_ hB λctv h' tk kp hs=>?_
  ·have:=codeAmong_snoc (pos:=pos) (c:=Value.ref c1) [] trivial rfl
   exact this
  ·have J:Inv X pins σ H { s with heap:=h'.push (kla_obj "<lambda>" (X.env.qual ++ "<lambda>") params body scope [] ((X.mg "__name__").getD .none) c1 ctv),toks:=tk }:=I.kept λb o e=>Heap.get?_push_of_some _ (kp b o e)
   refine h _ c1 ctv ((X.mg "__name__").getD .none) H _ (pin J hs (I.hok.fresh hs) (by intro v z;cases z) rfl) hc1 (Sm.But.refl P H) (.inr ⟨c1,mt,hc1⟩)
end
end L2
namespace L2
open PySem PySem.Spec PyProof.Rows PySem.W SmSort
section
variable {X:Cx}{pins:List (Addr×Obj)}{σ:St}{H:Hp}{s:Shared}
theorem Inv.adopt {h':Heap}{D:Addr}{xs:List V}{its:List Value}{n t':Nat} (I:Inv X pins σ H s) (k:∀ b o,b≠D->s.heap.get? b=some o->h'.get? b=some o) (hn:H D=none) (hs:X.s₀.heap.objs.size<=D) (hL:D≠X.env.locals)
  (h2:∀ x c,X.env.cells.lookup x=some c->c≠D) (h3:∀ p∈X.pn++pins,p.1≠D) (ho:h'.get? D=some { cls:=.type "list", data:=.seq its.toArray n }) (hv:Vals xs its) (hz:xs.length<=sizeLine) :
  Inv X pins σ (upd H D (.lst xs)) { s with heap:=h',toks:=t' }:=by
 have nD:∀ b u,H b=some u->b≠D:=λb u e z=>by rw [z,hn] at e;cases e
 refine I.step (g':=s.gens) (d':=s.drawn) (ch:=[D]) (λb hb=>?_) (λb o _ _ hc e _=>k b o (λz=>hc (by simp [z])) e) (λb o _ _ hc e _=>⟨o.slots,k b o (λz=>hc (by simp [z])) e⟩)
  (λb o hc e n=>by rw [xO (λz=>hc (by simp [z]))];exact n) (λb o hc e=>⟨o,k b o (λz=>hc (by simp [z])) e⟩) (λb ys e=>by rw [xO (nD b _ e)];exact e) (λb o u e=>by rw [xO (nD b _ e)];exact e)
  (λb ps e=>⟨#[],by rw [xO (nD b _ e),e];simp⟩) (λm hm=>?_) (λb u e=>?_) I.bare
 ·have e:b=D:=by simpa using hb
  subst e
  exact ⟨.inr hs,hL,h2,h3⟩
 ·obtain ⟨o,es,ep,ho',r⟩:=hm
  exact ⟨o,es,ep,k _ o (Ne.symm hL) ho',r⟩
 ·by_cases hb:b=D
  ·subst hb;rw [xI] at e;cases e
   exact ⟨hz,its,n,hv,ho⟩
  ·rw [xO hb] at e
   refine (I.hok b u e).stay (λc v hc q=>k c v ?_ q) (λc q=>by rw [xO (nD c _ q)];exact q) λc ys q=>by rw [xO (nD c _ q)];exact q
   rcases hc with z | z
   ·rw [z];exact hb
   ·exact nD c _ z
theorem Inv.cellLt (I:Inv X pins σ H s) {x:Str}{c:Addr} (h:X.env.cells.lookup x=some c):c < s.heap.objs.size:=by
 obtain ⟨v,o,ho,_⟩:=I.cell x c h
 exact Heap.lt_size ho
theorem zip_snds {a b:List Value} (h:b.length<=a.length):(a.toArray.zip b.toArray).map (·.2)=b.toArray:=by
 apply Array.toList_inj.mp
 rw [Array.toList_map,ksk_zip]
 exact List.map_snd_zip h
structure Keyed' (X:Cx) (pins:List (Addr×Obj)) (σ:St) (H:Hp) (kS:Addr) (kf:List Int->List Int) (ps:List (Addr×List Int)) (i:Nat) (s':Shared):Prop where
 ex:∃ H',∃ ks:List (Addr×List Int),Inv X pins σ H' s'/\H' kS=some (.lst (ks.map λk=>V.ref k.1))/\(∀ b u,H b=some u->H' b=some u)/\(∀ k∈ks,H' k.1=some (.tup (k.2.map V.int)))/\ks.map (·.2)=(ps.take i).map λa=>kf a.2
theorem sort_tree {f:Value}{D:Addr}{h:Heap}{kf:List Int->List Int}{ps:List (Addr×List Int)}{A:Around}{P:PySem.Fin->Shared->Prop}{E:Value->Shared->Prop} {t0:Nat} (I:Inv X pins σ H s) (kp:∀ b o,s.heap.get? b=some o->h.get? b=some o) (hDs:s.heap.objs.size<=D) (hDh:D < h.objs.size)
  (hD:h.get? D=some (seqObj "list" (ps.map λa=>Value.ref a.1).toArray 0)) (h64:ps.length < 64) (rows:∀ a∈ps,H a.1=some (.tup (a.2.map V.int))) (kne:∀ a∈ps,kf a.2≠[])
  (turn:∀ (pins':List (Addr×Obj)) (a:Addr) (r:List Int) (s':Shared) (H':Hp),(∀ p∈pins,p∈pins')->(a,r)∈ps->Inv X pins' σ H' s'->(∀ b u,H b=some u->H' b=some u) ->
   wpAny (model X.prog X.w) A (call f [.ref a]) (EP X pins' σ λv H''=>∃ t,v=.ref t/\Same H' H''/\H'' t=some (.tup ((kf r).map V.int))) (λ_ _=>False) s')
  (q:∀ qs H2 s2,Inv X pins σ (upd H2 D (.lst (qs.map λa=>V.ref a.1))) s2->H2 D=none->(∀ b u,H b=some u->H2 b=some u)->List.Perm qs ps->qs.Pairwise (λa b=>lx (kf b.2) (kf a.2)=false)->P (.done (.ret .none)) s2) :
  wpAny (model X.prog X.w) A (ksk_tree D f false) P E { s with heap:=h,toks:=t0 }:=by
 have line:100<=sizeLine:=by rw [sizeLine_eq];decide
 unfold ksk_tree
 refine wpAny_bind (listItems_at (s:={ s with heap:=h,toks:=t0 }) hD rfl ?_)
 refine wpAny_bind (listUpdate_at (s:={ s with heap:=h,toks:=t0 }) hD rfl ?_ (by rw [zN,zA];omega) (zT _))
 obtain ⟨e1,ho1⟩:∃ e1,(h.update D (Obj.mapSeq λ_=>(#[]:Array Value))).get? D=some (seqObj "list" #[] e1):=⟨_,get?_update_seq hD λ_=>#[]⟩
 refine wpAny_bind (seqEpoch_at ho1 rfl ?_)
 refine wpAny_bind (wpAny_newTuple ?_ (by show (ps.map λa=>Value.ref a.1).length<=_;rw [zA];omega))
 refine wpAny_bind (wpAny_newList ?_ (zT _))
 refine wpAny_holding ?_
 have sz2:((h.update D (Obj.mapSeq λ_=>(#[]:Array Value))).push (seqObj "tuple" (ps.map λa=>Value.ref a.1).toArray 0)).objs.size=h.objs.size + 1:=by rw [size_push',Heap.size_update]
 show wpAny _ _ (ksk_rest D f false (ps.map λa=>Value.ref a.1).toArray e1 (.ref ((h.update D (Obj.mapSeq λ_=>(#[]:Array Value))).push (seqObj "tuple" (ps.map λa=>Value.ref a.1).toArray 0)).objs.size)) _ _ _
 rw [sz2]
 have kS1:D < h.objs.size + 1:=yQ hDh
 have kp3:∀ b o,s.heap.get? b=some o->(((h.update D (Obj.mapSeq λ_=>(#[]:Array Value))).push (seqObj "tuple" (ps.map λa=>Value.ref a.1).toArray 0)).push (seqObj "list" #[] 0)).get? b=some o:=λb o e=>by
  refine Heap.get?_push_of_some _ (Heap.get?_push_of_some _ ?_)
  rw [Heap.get?_update_ne _ _ _ _ (zQ (zO (Heap.lt_size e) hDs))]
  exact kp b o e
 have atK:=Heap.get?_push_size ((h.update D (Obj.mapSeq λ_=>(#[]:Array Value))).push (seqObj "tuple" (ps.map λa=>Value.ref a.1).toArray 0)) (o:=seqObj "list" #[] 0) rfl
 rw [sz2] at atK
 have atD:=Heap.get?_push_of_some (seqObj "list" #[] 0) (Heap.get?_push_of_some (seqObj "tuple" (ps.map λa=>Value.ref a.1).toArray 0) ho1)
 have szS:s.heap.objs.size<=h.objs.size + 1:=z6 hDs (xB (yQ hDh))
 have I3:Inv X pins σ (upd H (h.objs.size + 1) (.lst [])) { s with heap:=((h.update D (Obj.mapSeq λ_=>(#[]:Array Value))).push (seqObj "tuple" (ps.map λa=>Value.ref a.1).toArray 0)).push (seqObj "list" #[] 0),toks:=t0 }:=
  I.laid kp3 szS (show ObjOk X.prog X.w _ _ _ (.lst []) from ⟨zT _,[],0,.nil,atK⟩)
 have fD:H D=none:=I.hok.fresh hDs
 have I4:=I3.pins_of (pins':=(D,seqObj "list" #[] e1)::pins) λp hp=>by
  rcases zF.mp hp with rfl | hp
  ·exact ⟨atD,by rw [xO (zQ kS1)];exact fD,yF (zO I.lt hDs),λz=>z8 _ (zO (I.fsLt _ z) hDs),by intro v z;cases z⟩
  ·exact I3.pin p (zL _ hp)
 generalize ((h.update D (Obj.mapSeq λ_=>(#[]:Array Value))).push (seqObj "tuple" (ps.map λa=>Value.ref a.1).toArray 0)).push (seqObj "list" #[] 0)=h3 at I4 ⊢
 have fK:H (h.objs.size + 1)=none:=I.hok.fresh szS
 generalize hkS:h.objs.size + 1=kS at *
 unfold ksk_rest
 refine wpAny_bind (wpAny_rule ?_)
 rw [List.forIn_toArray]
 refine wpAny_bind (ksk_fold (λi s'=>Keyed' X ((D,seqObj "list" #[] e1)::pins) σ H kS kf ps i s') (ps.map λa=>Value.ref a.1) 0 _ ⟨_,[],I4,xI,λb u e=>by rw [xO (xJ e fK)];exact e,(λ_ z=>nomatch z),rfl⟩ ?step ?done)
 case step=>
  rintro j x s' hx ⟨H',ks,J,hk,ext,hks,ek⟩
  rw [xE] at ek
  rw [zR] at hx
  cases ea:ps[j]? with
  | none=>rw [ea] at hx;cases hx
  | some a=>
   rw [ea] at hx
   have hx:Value.ref a.1=x:=Option.some.inj hx
   subst hx
   refine wpAny_bind (wpAny_attempt (wpAny_mono (turn _ a.1 a.2 s' H' (λp hp=>zj _ hp) (zC ea) J ext) (λv s'' he=>?_) λ_ _ hF=>hF.elim))
   obtain ⟨v',H'',J2,rv,t,rfl,sm,ht⟩:=he
   cases rv
   have hk2:=sm _ _ hk
   obtain ⟨z,its,n,r,hl,e⟩:=J2.lstM hk2
   have lk:ks.length<=j:=by have:=congrArg List.length ek;rw [zA,zA,zZ] at this;omega
   have jl:j < ps.length:=(zB.mp ea).1
   have li:its.length=ks.length:=by rw [<-hl,zA]
   dsimp only
   refine wpAny_bind (listUpdate_at e rfl ?_ (by rw [zN];omega) (by rw [Array.size_push,zN];omega))
   have ne:∀ b u,H b=some u->b≠kS:=λb u e=>xJ e fK
   have J3:Inv X ((D,seqObj "list" #[] e1)::pins) σ (upd H'' kS (.lst ((ks++[(t,kf a.2)]).map λk:Addr×List Int=>V.ref k.1))) { s'' with heap:=s''.heap.update kS (Obj.mapSeq (·.push (Value.ref t))),toks:=s''.toks }:=
    J2.lset (its':=its++[Value.ref t]) hk2 e (by simp) (by rw [zG];exact r.append (.cons rfl .nil)) (by rw [zA,zP,ze];omega)
   refine wpAny_pure ⟨rfl,_,ks++[(t,kf a.2)],J3,xI,λb u e=>by rw [xO (ne b u e)];exact sm _ _ (ext b u e),λk hk'=>?_,?_⟩
   ·rcases zS.mp hk' with h' | h'
    ·have:=sm _ _ (hks k h')
     rw [xO (wa this hk2 (by intro z;cases z))];exact this
    ·cases zH.mp h'
     rw [xO (wa ht hk2 (by intro z;cases z))];exact ht
   ·rw [xE,zG,ek,List.take_add_one,ea,zG];rfl
 case done=>
  rintro s' ⟨H',ks,J,hk,ext,hks,ek⟩
  rw [xE,zA,zf] at ek
  obtain ⟨z,its,n,r,hl,e⟩:=J.lstM hk
  refine wpAny_bind (listItems_at e rfl ?_)
  have ei:=vals_refs r
  subst ei
  have lks:ks.length=ps.length:=by have:=congrArg List.length ek;rw [zA,zA] at this;exact this
  have pinD:=J.pin (D,seqObj "list" #[] e1) (zL _ (.head _))
  have s0D:X.s₀.heap.objs.size<=D:=z6 I.sz hDs
  have kSD:kS≠D:=yF kS1
  -- the end
  have tail:∀ (st:SortSt) (qs:List (Addr×List Int)),(arrOf st).map (·.2)=(qs.map λa=>Value.ref a.1).toArray->failedOf st=none->List.Perm qs ps->qs.Pairwise (λa b=>lx (kf b.2) (kf a.2)=false)->wpAny (model X.prog X.w) A (ksk_tail D false e1 (.ref kS) st) P E s':=λst qs har hf pm so=>by
   have lq:qs.length < 64:=by rw [pm.length_eq];exact h64
   unfold ksk_tail
   dsimp only
   rw [har,hf]
   refine wpAny_bind (listUpdate_at e rfl ?_ (by rw [zN,zA];omega) (zT _))
   refine wpAny_bind (wpAny_letGo ?_)
   have s1:=Heap.SameBut.update s'.heap kS (Obj.mapSeq λ_=>(#[]:Array Value))
   have aD:(s'.heap.update kS (Obj.mapSeq λ_=>(#[]:Array Value))).get? D=some (seqObj "list" #[] e1):=(s1.2 D kSD.symm).trans pinD.1
   refine wpAny_bind (seqEpoch_at aD rfl ?_)
   refine wpAny_bind (listUpdate_at aD rfl ?_ (zT _) (by show (qs.map λa=>Value.ref a.1).toArray.size<=_;rw [zN,zA];omega))
   simp only [bne_self_eq_false,zV,if_false]
   have J2:=J.lset (its':=[]) (f:=λ_=>#[]) (t':=s'.toks) hk e (by simp) (.nil:Vals [] []) (zT _)
   have J3:Inv X pins σ (upd H' kS (.lst [])) { s' with heap:=s'.heap.update kS (Obj.mapSeq λ_=>(#[]:Array Value)) }:=J2.pins_of λp hp=>J2.pin p (zL _ (.tail _ hp))
   obtain ⟨c2,hc2⟩:∃ c2,((s'.heap.update kS (Obj.mapSeq λ_=>(#[]:Array Value))).update D (Obj.mapSeq λ_=>(qs.map λa=>Value.ref a.1).toArray)).get? D=some (seqObj "list" (qs.map λa=>Value.ref a.1).toArray c2):=⟨_,get?_update_seq aD _⟩
   have hnD:(upd H' kS (.lst [])) D=none:=by rw [xO kSD.symm];exact pinD.2.1
   have J4:Inv X pins σ (upd (upd H' kS (.lst [])) D (.lst (qs.map λa=>V.ref a.1))) { s' with heap:=(s'.heap.update kS (Obj.mapSeq λ_=>(#[]:Array Value))).update D (Obj.mapSeq λ_=>(qs.map λa=>Value.ref a.1).toArray),toks:=s'.toks }:=
    J3.adopt (λb o hb q=>(Heap.get?_update_other _ _ (Ne.symm hb)).trans q) hnD s0D (yF (zO I.lt hDs)) (λx c hc=>zQ (zO (I.cellLt hc) hDs)) (λp hp=>zQ (zO (Heap.lt_size (I.pin p hp).1) hDs)) hc2 (vals_of_refs qs) (by rw [zA];omega)
   refine wpAny_pure (q qs _ _ J4 hnD (λb u e=>?_) pm so)
   rw [xO (xJ e fK)];exact ext b u e
  unfold ksk_end
  dsimp only
  rw [if_neg (by decide:¬ false=true)]
  have szi:(ps.map λa=>Value.ref a.1).toArray.size=ps.length:=by rw [zN,zA]
  by_cases h2:ps.length < 2
  ·have h2':(ps.map λa=>Value.ref a.1).toArray.size < 2:=by rw [szi];exact h2
   rw [if_pos h2',if_pos h2']
   refine wpAny_bind (wpAny_pure ?_)
   rw [StateT.run_pure]
   refine wpAny_bind (wpAny_pure ?_)
   dsimp only
   refine tail _ ps ?_ rfl (List.Perm.refl _) ?_
   ·show ((ks.map λa=>Value.ref a.1).toArray.zip (ps.map λa=>Value.ref a.1).toArray).map (·.2)=_
    exact zip_snds (by rw [zA,zA,lks];exact zD _)
   ·match ps,h2 with
    | [],_=>exact .nil
    | [_],_=>exact zv _ _
  ·have h2':¬ (ps.map λa=>Value.ref a.1).toArray.size < 2:=by rw [szi];exact h2
   rw [if_neg h2',if_neg h2']
   have rowAt:∀ a∈ks,RowAt s'.heap a.1 a.2/\a.2≠[]:=λa ha=>by
    obtain ⟨_,its,rv,o,e,c,n,d⟩:=J.hok a.1 _ (hks a ha)
    refine ⟨⟨o,_,n,e,c,d,rv⟩,?_⟩
    have:a.2∈ks.map (·.2):=zI.mpr ⟨a,ha,rfl⟩
    rw [ek] at this
    obtain ⟨b,hb,eb⟩:=zI.mp this
    rw [<-eb];exact kne b hb
   obtain ⟨fs,kt,lf,hf⟩:=kat_tups rowAt
   refine wpAny_bind (kat_kind (T:=.type "int") kt (by omega) (λv hv=>?_) (by decide) ?_)
   ·obtain ⟨i,t,rfl⟩:=hf v hv
    exact Looks.now
   have n1:1<=(ps.map λa=>Value.ref a.1).length:=by rw [zA];omega
   have hkl:(ks.map λa=>Value.ref a.1).length=(ps.map λa=>Value.ref a.1).length:=by rw [zA,zA];exact lks
   refine wpAny_bind (wpAny_mono (kat_run (Q:=λst' s''=>s''=s'/\∃ p:Array Nat,arrOf st'=p.map (kas_item ((ks.map λa=>Value.ref a.1).toArray.zip (ps.map λa=>Value.ref a.1).toArray))/\failedOf st'=none/\Pm ps.length p/\Up (λi=>rk (ks.map (·.2)) ((ks.map (·.2)).getD i [])) p ps.length) (G:=λp s''=>s''=s'/\Pm ps.length p/\Up (λi=>rk (ks.map (·.2)) ((ks.map (·.2)).getD i [])) p ps.length) hkl (by rw [zA];omega) (by rw [zA];exact h64) (λp st' s'' a1 a2 a3 a4=>⟨a4.1,p,a2,a3,a4.2⟩) ?_) ?_ λ_ _ e=>e)
   ·rw [zA]
    refine KOK.wp (c:=cf λi=>rk (ks.map (·.2)) ((ks.map (·.2)).getD i [])) (λi j C hi hj hC=>?_) (λpp hp=>⟨rfl,hp⟩) _ (sort_ok (f:=λi=>rk (ks.map (·.2)) ((ks.map (·.2)).getD i [])) (by omega))
    have hi':i < ks.length:=by omega
    have hj':j < ks.length:=by omega
    obtain ⟨⟨o,items,n,ho,hc,hd,hv⟩,hn⟩:=rowAt ks[i] (zq hi')
    obtain ⟨⟨o',items',n',ho',hc',hd',hv'⟩,hn'⟩:=rowAt ks[j] (zq hj')
    unfold kas_ask
    have ei:(ks.map λa=>Value.ref a.1).getD i Value.none=.ref ks[i].1:=by simp [hi']
    have ej:(ks.map λa=>Value.ref a.1).getD j Value.none=.ref ks[j].1:=by simp [hj']
    rw [ei,ej]
    refine kat_lt ho hd ho' hd' (vals_lex hv hv' (by simp) ?_)
    have e:cf (λi=>rk (ks.map (·.2)) ((ks.map (·.2)).getD i [])) i j=lx ks[i].2 ks[j].2:=by
     unfold cf
     have e1:(ks.map (·.2)).getD i []=ks[i].2:=by simp [hi']
     have e2:(ks.map (·.2)).getD j []=ks[j].2:=by simp [hj']
     simp only [e1,e2]
     exact rk_lt (zI.mpr ⟨ks[i],zq hi',rfl⟩)
    rw [e] at hC
    exact hC
   ·rintro ⟨⟨⟩,st'⟩ s'' ⟨rfl,p,har,hfl,pm,up⟩
    dsimp only
    have pl:p.toList.Perm (List.range ps.length):=by
     have:=pm.toList
     simpa using this
    have perm:(p.toList.map λi=>ps.getD i (0,[])).Perm ps:=by
     have:=pl.map λi=>ps.getD i (0,[])
     rwa [range_map] at this
    refine tail st' (p.toList.map λi=>ps.getD i (0,[])) ?_ hfl perm ?_
    ·rw [kat_snds hkl har,zn]
     congr 1
     refine yL λi hi=>?_
     have hi':i < ps.length:=zY.mp (pl.mem_iff.mp hi)
     simp [hi']
    ·rw [zW]
     intro i j hi hj hij
     simp only [zA,Array.length_toList] at hi hj
     simp only [List.getElem_map,Array.getElem_toList]
     have hn:p.size=ps.length:=pm.size
     have key:=up i j (xB hij) (by omega)
     have a1:p[i] < ps.length:=zY.mp (pl.mem_iff.mp (by simp))
     have a2:p[j] < ps.length:=zY.mp (pl.mem_iff.mp (by simp))
     unfold g SmSort.at' at key
     simp only [hi,hj,getElem?_pos,Option.getD_some] at key
     have e0:∀ k (hk:k < ps.length),(ks.map (·.2)).getD k []=kf ps[k].2:=λk hk=>by rw [ek];simp [hk]
     have e1:=e0 p[i] a1
     have e2:=e0 p[j] a2
     rw [e1,e2] at key
     have e3:ps.getD p[i] (0,[])=ps[p[i]]:=by simp [a1]
     have e4:ps.getD p[j] (0,[])=ps[p[j]]:=by simp [a2]
     rw [e3,e4]
     have:=rk_lt (rs:=ks.map (·.2)) (a:=kf ps[p[j]].2) (b:=kf ps[p[i]].2) (by rw [ek];exact zI.mpr ⟨_,zq a2,rfl⟩)
     rw [<-this]
     simp only [decide_eq_false_iff_not]
     omega
end
end L2
namespace L2
open PySem PySem.Spec PyProof.Rows PySem.W SmSort PySem.Calls
def tSortK (P:Addr) (lpos:Pos) (qual:Str) (ok:List Int->Prop) (kf:List Int->List Int) (te:TE):TE:=fun σ H Q=>te σ H λx H1=>∃ p,∃ ps:List (Addr×List Int),[x]=[V.ref p]/\H1 p=some (.lst (ps.map λa=>V.ref a.1))/\ps.length < 64/\MT P lpos qual H1/\(∀ a∈ps,H1 a.1=some (.tup (a.2.map V.int))/\ok a.2) /\
 ∀ l (qs:List (Addr×List Int)) H2,H1 l=none->Sm.But P H1 H2->MT P lpos qual H2->H2 l=some (.lst (qs.map λa:Addr×List Int=>V.ref a.1))->List.Perm qs ps->qs.Pairwise (λa b:Addr×List Int=>lx (kf b.2) (kf a.2)=false)->Q (.ref l) H2
section
variable {X:Cx}{e body:Expr}{te:TE}{np kp lpos pos:Pos}{params:Arguments}{scope:Scope}{P c:Addr}{N:List Str}{ok:List Int->Prop}{kf:List Int->List Int}{pn:Str}
theorem pe_sortKey (hg:Gl X "sorted") (hm:X.mg "sorted" = none) (hcode:X.env.code=.ref c) (hcd:codeHdIn X.K c P=true) (bm:BmAt X.mg X.base) (hdef:defaultsOf params X.env=([],[])) (hcl:closureFor scope X.env=pure []) (hr:Room 3 X.A)
  (S:FnScope N [pn] scope) (hbind:∀ pm c' ctv u,bindArgs (kla_fn "<lambda>" (X.env.qual ++ "<lambda>") params body scope [] pm (.ref c') ctv) ⟨[u],[]⟩=pure (List.zip [pn] [u])) (kne:∀ r,ok r->kf r≠[])
  (hbody:∀ f c' A s H,∃ t,PE (cxOf CX0 X.prog X.w X.K X.mg X.base N (X.env.qual ++ "<lambda>") scope f (.ref c') A X.stack s H E0).nox body t/\∀ a r,H a=some (.tup (r.map V.int))->ok r->t (start N [.ref a]) H (λv H''=>∃ t,v=.ref t/\Same H H''/\H'' t=some (.tup ((kf r).map V.int))))
  (he:PE X e te) (ns:notStar e=true) :
  PE X (.Call (.Name "sorted" np) [e] [⟨some "key", .Lambda params body scope lpos,kp⟩] pos) (tSortK P lpos (X.env.qual ++ "<lambda>") ok kf te):=by
 intro pins s σ H Q I h
 have ha:PA X [e] (tCons te tNil):=xG (xH he xS ns)
 have line:100<=sizeLine:=by rw [sizeLine_eq];decide
 refine wpAny_Call_Name_kw (ld_blt I hg hm PyProof.Rows.boot_sorted ?_ (by decide) (by decide))
 refine callWith_kw (thn (ha pos pins s σ H (λvs H1=>∃ p,∃ ps:List (Addr×List Int),vs=[V.ref p]/\H1 p=some (.lst (ps.map λa=>V.ref a.1))/\ps.length < 64/\MT P lpos (X.env.qual ++ "<lambda>") H1/\(∀ a∈ps,H1 a.1=some (.tup (a.2.map V.int))/\ok a.2) /\
  ∀ l (qs:List (Addr×List Int)) H2,H1 l=none->Sm.But P H1 H2->MT P lpos (X.env.qual ++ "<lambda>") H2->H2 l=some (.lst (qs.map λa:Addr×List Int=>V.ref a.1))->List.Perm qs ps->qs.Pairwise (λa b:Addr×List Int=>lx (kf b.2) (kf a.2)=false)->Q (.ref l) H2) I h)
  λus s1 ⟨vs,H1,I1,r1,q1⟩=>kws_cons ?_) (by rw [star_cons ns];rfl) (by rw [star_cons ns];rfl)
 obtain ⟨p,ps,rfl,hp,h64,mt,rows,q⟩:=q1
 obtain ⟨u,rfl,ru⟩:=vals1 r1
 cases ru
 refine lam_eval I1 mt hcode hcd bm hdef hcl λf c' ctv pm H' s' J hc' bt mt'=>kws_nil ?_
 have neP:∀ b u,H1 b=some u->(∀ ys,u≠.tbl ys)->b≠P:=λb u e n z=>by
  rcases mt with m | ⟨_,m,_⟩ <;> (rw [z,m] at e;cases e;exact n _ rfl)
 have hp':=bt _ _ (neP _ _ hp (by intro ys z;cases z)) hp
 have rows':∀ a∈ps,H' a.1=some (.tup (a.2.map V.int)):=λa ha=>bt _ _ (neP _ _ (rows a ha).1 (by intro ys z;cases z)) (rows a ha).1
 obtain ⟨z,its,n,r,hl,hpe⟩:=J.lstM hp'
 have ei:=vals_refs r
 subst ei
 refine call_function_entry_kw kind_sorted plain_sorted entry_sorted (ksk_s1 _ _) ?_
 unfold Builtin.«sorted»
 refine wpAny_bind (m:=checkCount "sorted" 1 1 _) (wpAny_pure ?_)
 refine wpAny_bind (collect_list (vs:=(ps.map λa=>Value.ref a.1)) ⟨_,hpe,rfl,_,rfl⟩ ?_ (by rw [zA];omega))
 refine wpAny_bind (wpAny_newList ?_ (by rw [zA];omega))
 have hsz:((s'.heap.push (seqObj "list" #[] 0)).update s'.heap.objs.size (Obj.mapSeq (·++(ps.map λa=>Value.ref a.1).toArray))).objs.size=s'.heap.objs.size + 1:=by
  rw [Heap.size_update,size_push']
 have hoL:(((s'.heap.push (seqObj "list" #[] 0)).update s'.heap.objs.size (Obj.mapSeq (·++(ps.map λa=>Value.ref a.1).toArray))).push (seqObj "list" (ps.map λa=>Value.ref a.1).toArray 0)).get? (s'.heap.objs.size + 1)=some (seqObj "list" (ps.map λa=>Value.ref a.1).toArray 0):=by
  rw [<-hsz];exact Heap.get?_push_size _ rfl
 have keep:∀ b o,s'.heap.get? b=some o->(((s'.heap.push (seqObj "list" #[] 0)).update s'.heap.objs.size (Obj.mapSeq (·++(ps.map λa=>Value.ref a.1).toArray))).push (seqObj "list" (ps.map λa=>Value.ref a.1).toArray 0)).get? b=some o:=λb o q=>by
  have hlt:b < s'.heap.objs.size:=Heap.lt_size q
  rw [Heap.get?_push_ne _ _ _ (by rw [hsz];exact zQ (yQ hlt)),Heap.get?_update_ne _ _ _ _ (zQ hlt),Heap.get?_push_ne _ _ _ (zQ hlt)]
  exact q
 show wpAny _ _ _ _ _ { s' with heap:=((s'.heap.push (seqObj "list" #[] 0)).update s'.heap.objs.size (Obj.mapSeq (·++(ps.map λa=>Value.ref a.1).toArray))).push (seqObj "list" (ps.map λa=>Value.ref a.1).toArray 0) }
 rw [hsz]
 refine wpAny_bind (wpAny_holding (wpAny_call_entry_kw slot_list_sort ⟨_,hoL,rfl⟩ entry_list_sort ?body (ksk_l1 _ _)))
 have hmem:(f,kla_obj "<lambda>" (X.env.qual ++ "<lambda>") params body scope [] pm c' ctv)∈(f,kla_obj "<lambda>" (X.env.qual ++ "<lambda>") params body scope [] pm c' ctv)::pins:=.head _
 show wpAny (model X.prog X.w) X.A.in1.in1 (Builtin.«list.sort» ⟨[.ref (s'.heap.objs.size + 1)],[(Str.ofString "key", .ref f)]⟩) _ _ _
 rw [ksk_t1]
 refine sort_tree (kf:=kf) (ps:=ps) J keep (yw _) (by rw [Heap.size_push,hsz];exact Nat.lt_succ_self _) hoL h64 rows' (λa ha=>kne _ (rows a ha).2) (λpins' a rr s2 H2 sub ha J2 ext=>?_) λqs H2 s2 J2 hn ext pm' so=>?_
 ·have hf:=J2.pin _ (zL _ (sub _ hmem))
  have hcr:s2.heap.CodeRec (.ref c') (X.env.qual ++ "<lambda>"):=(J2.hok c' _ (ext _ _ hc')).1
  obtain ⟨t,ht,hq⟩:=hbody f c' X.A.in1.in1 s2 H2
  refine wpAny_call (codeAny_mono (lam_run (k:=0) S hr.in1.in1 J2.env0.in1.in1 hf.1 hcr (hbind pm c' ctv (.ref a)) (vs:=[V.ref a]) rfl (.cons rfl .nil) ⟨t,ht,hq a rr (ext _ _ (rows' _ ha)) (rows _ ha).2⟩) λr s3 hr3=>?_)
  cases r with
  | error e=>exact hr3.elim
  | ok fl=>
   cases fl with
   | ret u=>exact J2.after hr3
   | next=>exact False.elim hr3
   | brk=>exact False.elim hr3
   | cont=>exact False.elim hr3
 ·refine ⟨_,rfl,wpAny_pure ⟨_,rfl,?_⟩⟩
  have fr:H' (s'.heap.objs.size + 1)=none:=J.hok.fresh (yw _)
  have ext':∀ b u,H' b=some u->upd H2 (s'.heap.objs.size + 1) (.lst (qs.map λa=>V.ref a.1)) b=some u:=λb u e=>by rw [xO (xJ e fr)];exact ext b u e
  refine ⟨.ref (s'.heap.objs.size + 1),_,J2.pins_of λp hp=>J2.pin p (zL _ (.tail _ hp)),rfl,q _ qs _ ?_ (λb u n e=>ext' b u (bt b u n e)) ?_ xI pm' so⟩
  ·cases e:H1 (s'.heap.objs.size + 1) with
   | none=>rfl
   | some u=>
    by_cases z:s'.heap.objs.size + 1=P
    ·rcases mt' with m | ⟨_,m,_⟩ <;> (rw [<-z,fr] at m;cases m)
    ·rw [bt _ _ z e] at fr;cases fr
  ·rcases mt' with m | ⟨c1,m,m2⟩
   ·exact .inl (ext' _ _ m)
   ·exact .inr ⟨c1,ext' _ _ m,ext' _ _ m2⟩
theorem Fun.okC {P:Program}{w:World}{K:PySem.W.Frag}{mg:Str->Option Value}{base:Heap}{x qual:Str}{st:Stmt}{f c:Addr}{fd:FuncData}{N ps:List Str}{k:Nat}{sp:Sp} (F:Fun K x qual st f fd) (hc:fd.code=.ref c) (S:FnScope N ps (defScope st)) (len:∀ vs H Q E,sp vs H Q E->vs.length=ps.length)
  (hbody:∀ (A:Around) (outer:List Env) (s:Shared) (H:Hp) (vs:List V) (Q:VK) (E:XK),Room k (A.deeper (envOfC qual (defScope st) s.heap.objs.size f (.ref c)))->sp vs H Q E ->
   ∃ t,PSs (cxOf CX0 P w K mg base N qual (defScope st) f (.ref c) A outer s H E).nox (defBody st) t/\t { nx:=λ_ H'=>Q .non H',rt:=Q } (start N vs) H):FnOk P w K mg base CX0 (k + 1) f fd ps sp:=by
 obtain ⟨oc,od,kV,doc,pm,an,cdv,ct,osl,rfl,lk,hcd⟩:=F.ex
 have hc:cdv=.ref c:=hc
 subst hc
 refine fn_of lk hcd S len λA outer s H vs Q E hr hsp=>?_
 obtain ⟨t,h,q⟩:=hbody A outer s H vs Q E hr hsp
 exact ⟨t,h.nox,q⟩
end
end L2
namespace L2
open PySem PySem.Spec PyProof.Rows PySem.W
theorem noTab_of {K:PySem.W.Frag}{h:Heap}{P:Addr} (X:K.In h) (hP:h.get? P=some (tabObj #[])) (nt:noTabs K=true):K.lookup P=none:=by
 cases e:K.lookup P with
 | none=>rfl
 | some o=>
  have h1:=X P o e
  rw [hP] at h1;cases h1
  have h2:=yk.mp nt (P,_) (mem_of_lookupK e)
  exact absurd (show false=true from h2) zM
theorem law_callT {P:Program}{w:World}{K:PySem.W.Frag}{mg mb:Str->Option Value}{CX:CXT}{k:Nat}{fa a c T:Addr}{fd:FuncData}{x:Str}{sp:Sp}{s₁:Shared}{vs:List Value}{ns:List Int}
  (KX:K.In s₁.heap) (hns:s₁.heap.Ns mainGlobals mg) (hb:s₁.heap.Ns builtinsNs mb) (hbb:∀ x:Str,x ≠ "__name__" -> mb x=bootBuiltins x) (hlim:s₁.heap.NoLimit) (hg:s₁.gens=#[])
  (hT:s₁.heap.get? T=some (tabObj #[])) (hC:codeHdIn K c T=true) (nt:noTabs K=true) (hbm:∃ bm ob,mg "__builtins__" = some (.ref bm)/\bm≠builtinsNs/\s₁.heap.get? bm=some ob/\ob.cls=.type "module" /\ ob.dict=some builtinsNs/\ob.data=.plain)
  (ha:s₁.heap.get? a=some { cls:=.type "list", data:=.seq vs.toArray }) (hi:IntsAre vs ns) (hl:ns.length<=sizeLine) (hr:Room k callerA)
  (F:∀ base:Heap,K.In base->base.Ns mainGlobals mg->BmAt mg base->FnOk P w K mg base CX k fa fd [x] sp) (hbind:∀ (s:Shared) (u:Value),BindsTo s fd ⟨[u],[]⟩ [(x,u)])
  (hsp:∀ H:Hp,H T=some (.tbl #[])->SqL K H a (ns.map V.int)->sp [.ref a] H (λv _=>v=.bl true) λ_ _ _=>False)
  (hCX:∀ H e s',CX [] H s₁ (λ_ _ _=>False) e s'->False) :
  codeAny (model P w) callerA (.call (.ref fa) ⟨[.ref a],[]⟩) (λr s'=>r=.ok (.ret (.bool true))/\OldK s₁.heap s'.heap/\s'.os=s₁.os/\AllBare s'.gens) s₁:=by
 have rv:=vals_ints hi
 have lenV:=hi.length
 have naT:a≠T:=λz=>by rw [z,hT] at ha;cases ha
 have lkT:=noTab_of KX hT nt
 have isT:=((codeHd_of_K KX hC).tab hT).isCodeTable
 have core:∀ H:Hp,(∀ b,H b=none\/(b=a/\∃ o xs,H b=some (.frz o (.lst xs)))\/(b=T/\H b=some (.tbl #[])))->H T=some (.tbl #[])->SqL K H a (ns.map V.int)->HOk P w H s₁.heap->(H a≠none->K.lookup a=none) ->
   codeAny (model P w) callerA (.call (.ref fa) ⟨[.ref a],[]⟩) (λr s'=>r=.ok (.ret (.bool true))/\OldK s₁.heap s'.heap/\s'.os=s₁.os/\AllBare s'.gens) s₁:=by
  intro H hO hTH hS hok hK
  have base_of:∀ {b:Addr}{o:Obj},s₁.heap.get? b=some o->H b=none->(hidT s₁.heap H).get? b=some o:=λe n=>hidT_get e n
  have noH:∀ {b:Addr}{o:Obj},s₁.heap.get? b=some o->(∀ i n,o.data≠.seq i n)->(∀ f,o.data≠.fields f)->H b=none:=λ{b o} e d1 d2=>by
   rcases hO b with q | ⟨rfl,_⟩ | ⟨rfl,_⟩
   ·exact q
   ·rw [ha] at e;cases e;exact absurd rfl (d1 _ _)
   ·rw [hT] at e;cases e;exact absurd rfl (d2 _)
  have nsK:∀ {b:Addr}{m:Str->Option Value},s₁.heap.Ns b m->(hidT s₁.heap H).Ns b m:=λ{b m} ⟨o,es,ep,e,d,r⟩=>⟨o,es,ep,base_of e (noH e (λi n z=>by rw [d] at z;cases z) λf z=>by rw [d] at z;cases z),d,r⟩
  have hKb:K.In (hidT s₁.heap H):=λb o e=>base_of (KX b o e) (by
   rcases hO b with q | ⟨rfl,_,_,q⟩ | ⟨rfl,q⟩
   ·exact q
   ·rw [hK (by rw [q];simp)] at e;cases e
   ·rw [lkT] at e;cases e)
  have hM:Mod K mg (hidT s₁.heap H):=⟨hKb,nsK hns,⟨mb,nsK hb,hbb⟩,let ⟨mc,h1,h2⟩:=hlim;⟨mc,nsK h1,h2⟩⟩
  have hB:BmAt mg (hidT s₁.heap H):=by
   obtain ⟨bm,ob,b1,b2,b3,b4,b5,b6⟩:=hbm
   refine ⟨bm,ob,b1,b2,λz=>?_,base_of b3 (noH b3 (λi n z=>by rw [b6] at z;cases z) λf z=>by rw [b6] at z;cases z),b4,b5,b6⟩
   obtain ⟨o,es,ep,e,d,_⟩:=hns
   rw [z,e] at b3;cases b3;rw [b6] at d;cases d
  have e0:Env0 P w K mg (hidT s₁.heap H) callerA [] s₁ H:=⟨rfl,hM,λb o e=>of_hidT e,Nat.le_of_eq (hidT_size _ _),trivial,λb hb=>absurd (show b∈([]:List Addr) from hb) (by simp),hok,.of_eq hg⟩
  refine codeAny_mono ((F _ hKb (nsK hns) hB).run callerA [] s₁ H ⟨[.ref a],[]⟩ [.ref a] [.ref a] _ _ hr e0 (hbind s₁ (.ref a)) (.cons rfl .nil) (hsp H hTH hS)) λr s' h=>?_
  cases r with
  | error e=>exact (hCX H e s' h).elim
  | ok fl=>
   cases fl with
   | next=>exact False.elim h
   | brk=>exact False.elim h
   | cont=>exact False.elim h
   | ret u=>
    obtain ⟨v,H',os,bare,un,hok',r',q⟩:=h
    have q':v=.bl true:=q
    subst q'
    obtain rfl:u=Value.bool true:=r'
    have all:∀ b o,s₁.heap.get? b=some o->s'.heap.get? b=some o\/(b=T/\∃ ps,s'.heap.get? T=some (tabObj ps)):=λb o e=>by
     rcases hO b with q | ⟨_,ob,xs,z⟩ | ⟨rfl,z⟩
     ·exact .inl (un.keep b o e q (by intro z;exact absurd (show b∈([]:List Addr) from z) (by simp)) (by simp))
     ·have z2:=un.frzs b ob _ z
      obtain ⟨e1,_⟩:=hok b _ z
      obtain ⟨e2,_⟩:=hok' b _ z2
      rw [e] at e1;cases e1
      exact .inl e2
     ·obtain ⟨more,z2⟩:=un.tbls b _ z
      have e2:s'.heap.get? b=some _:=hok' b _ z2
      exact .inr ⟨rfl,_,e2⟩
    refine ⟨rfl,⟨λb o e=>?_,λb o e=>?_⟩,os,bare⟩
    ·rcases all b o e with q | ⟨rfl,ps,q⟩
     ·exact .inl q
     ·rw [hT] at e;cases e
      exact .inr (.inl ⟨isT,rfl,#[],ps,rfl,by rw [Array.empty_append];exact q⟩)
    ·rcases all b o e with q | ⟨rfl,ps,q⟩
     ·exact ⟨_,q⟩
     ·exact ⟨_,q⟩
 cases hk:K.lookup a with
 | some o=>
  have e:=KX a o hk
  rw [ha] at e
  cases e
  refine core (λb=>if b=T then some (.tbl #[]) else none) (λb=>?_) (if_pos rfl) (.inr ⟨_,vs.toArray,_,hk,rfl,rfl,rfl,by rw [zN,lenV];exact hl,by simpa using rv⟩) (λb u z=>?_) λz=>absurd (if_neg naT) z
  ·by_cases hb:b=T
   ·exact .inr (.inr ⟨hb,if_pos hb⟩)
   ·exact .inl (if_neg hb)
  ·by_cases hb:b=T
   ·have z':=(if_pos hb).symm.trans z
    cases z'
    subst hb
    exact hT
   ·have z':=(if_neg hb).symm.trans z
    cases z'
 | none=>
  have at1:(λb=>if b=T then some (HO.tbl #[]) else if b=a then some (.frz { cls:=.type "list", data:=.seq vs.toArray } (.lst (ns.map V.int))) else none) a=some (.frz { cls:=.type "list", data:=.seq vs.toArray } (.lst (ns.map V.int))):=(if_neg naT).trans (if_pos rfl)
  refine core (λb=>if b=T then some (.tbl #[]) else if b=a then some (.frz { cls:=.type "list", data:=.seq vs.toArray } (.lst (ns.map V.int))) else none) (λb=>?_) (if_pos rfl) (.inl (.inr ⟨{ cls:=.type "list", data:=.seq vs.toArray },at1⟩)) (λb u z=>?_) λ_=>hk
  ·by_cases hb:b=T
   ·exact .inr (.inr ⟨hb,if_pos hb⟩)
   ·by_cases hb':b=a
    ·exact .inr (.inl ⟨hb',_,_,(if_neg hb).trans (if_pos hb')⟩)
    ·exact .inl ((if_neg hb).trans (if_neg hb'))
  ·by_cases hb:b=T
   ·have z':=(if_pos hb).symm.trans z
    cases z'
    subst hb
    exact hT
   ·by_cases hb':b=a
    ·have z':=((if_neg hb).trans (if_pos hb')).symm.trans z
     cases z'
     subst hb'
     exact ⟨ha,by rw [zA];exact hl,vs,_,rv,ha⟩
    ·have z':=((if_neg hb).trans (if_neg hb')).symm.trans z
     cases z'
theorem walk_ofT {l:PySem.W.OpenLaw}{n k:Nat}{q:Program}{loose:List Str}{XP:(Str->Option Value)->Heap->Prop}{YP:World->Heap->Prop}{d:DefRec}{K:Params->PySem.W.Frag}{CX:World->CXT}{sp:World->Sp}{x:Str}{T:Addr}
  (hn:l.most=some n) (hn2:n<=sizeLine) (hdf:d.params.defaults=[]) (hr:Room k callerA)
  (hY:∀ (w:World) (h:Heap),YP w h->(K w.params).In h/\h.get? T=some (tabObj #[])) (nt:∀ w:World,noTabs (K w.params)=true)
  (F:∀ (w:World) (mg:Str->Option Value) (fa:Addr) (h:Heap),(K w.params).In h->h.Ns mainGlobals mg->mg d.name=some (.ref fa) ->
   ∃ fd:FuncData,(∃ c,codeHdIn (K w.params) c T=true)/\(∀ (s:Shared) (u:Value),BindsTo s fd ⟨[u],[]⟩ [(x,u)]) /\
    ∀ base:Heap,(K w.params).In base->base.Ns mainGlobals mg->BmAt mg base->FnOk l.prog w (K w.params) mg base (CX w) k fa fd [x] (sp w))
  (hsp:∀ (w:World) (H:Hp) (a:Addr) (ns:List Int),ns.length<=n->H T=some (.tbl #[])->SqL (K w.params) H a (ns.map V.int)->sp w [.ref a] H (λv _=>v=.bl true) λ_ _ _=>False)
  (hCX:∀ (w:World) (H:Hp) (s:Shared) (e:Value) (s':Shared),CX w [] H s (λ_ _ _=>False) e s'->False) :
  PySem.W.WalkO q loose XP YP l.row.toRowW d [] (λf vs=>PySem.call f vs):=by
 refine Att.attach_call hn hdf λw s₀ s₁ mg mb fa o pm cd doc a vs ns G Y ho hd hcd hmg hobj hints hlen hg=>?_
 obtain ⟨KX,tX⟩:=hY w _ Y
 obtain ⟨fd,⟨c,hC⟩,hb,hF⟩:=F w mg fa _ KX G.T.g hmg
 exact law_callT KX G.T.g G.T.b G.T.builtins G.T.nolimit hg tX hC (nt w) G.T.bmain hobj hints (z6 hlen hn2) hr hF hb (λH hO hS=>hsp w H a ns hlen hO hS) λH e s'=>hCX w H s₁ e s'
end L2
namespace Sm
open PySem L2 SmSort
theorem ixt {K:PySem.W.Frag}{H:Hp}{a:Addr}{xs:List V}{i:Int}{v:V}{Q:V->Prop} (h:H a=some (.tup xs)) (hi:atI xs i=some v) (q:Q v):∃ p xs' i' v',V.ref a=.ref p/\V.int i=.int i'/\SqT K H p xs'/\atI xs' i'=some v'/\Q v':=⟨a,xs,i,v,rfl,rfl,SqT.of h,hi,q⟩
theorem ixl {K:PySem.W.Frag}{H:Hp}{a:Addr}{xs:List V}{i:Int}{v:V}{Q:V->Prop} (h:H a=some (.lst xs)) (hi:atI xs i=some v) (q:Q v):∃ p xs' i' v',V.ref a=.ref p/\V.int i=.int i'/\SqL K H p xs'/\atI xs' i'=some v'/\Q v':=⟨a,xs,i,v,rfl,rfl,SqL.of h,hi,q⟩
theorem us1 {fd:FuncData}{ps:List Str}{us:List Value} (h:us.length=1) (q:∀ a,bindArgs fd ⟨[a],[]⟩=pure (ps.zip [a])):bindArgs fd ⟨us,[]⟩=pure (ps.zip us):=match us,h with | [a],_=>q a
theorem us2 {fd:FuncData}{ps:List Str}{us:List Value} (h:us.length=2) (q:∀ a b,bindArgs fd ⟨[a,b],[]⟩=pure (ps.zip [a,b])):bindArgs fd ⟨us,[]⟩=pure (ps.zip us):=match us,h with | [a,b],_=>q a b
theorem us3 {fd:FuncData}{ps:List Str}{us:List Value} (h:us.length=3) (q:∀ a b c,bindArgs fd ⟨[a,b,c],[]⟩=pure (ps.zip [a,b,c])):bindArgs fd ⟨us,[]⟩=pure (ps.zip us):=match us,h with | [a,b,c],_=>q a b c
theorem us4 {fd:FuncData}{ps:List Str}{us:List Value} (h:us.length=4) (q:∀ a b c d,bindArgs fd ⟨[a,b,c,d],[]⟩=pure (ps.zip [a,b,c,d])):bindArgs fd ⟨us,[]⟩=pure (ps.zip us):=match us,h with | [a,b,c,d],_=>q a b c d
theorem us5 {fd:FuncData}{ps:List Str}{us:List Value} (h:us.length=5) (q:∀ a b c d e,bindArgs fd ⟨[a,b,c,d,e],[]⟩=pure (ps.zip [a,b,c,d,e])):bindArgs fd ⟨us,[]⟩=pure (ps.zip us):=match us,h with | [a,b,c,d,e],_=>q a b c d e
theorem ex5 {α0 α1 α2 α3 α4:Type}{P:α0->α1->α2->α3->α4->Prop} (x0:α0) (x1:α1) (x2:α2) (x3:α3) (x4:α4) (h:P x0 x1 x2 x3 x4):∃ y0:α0,∃ y1:α1,∃ y2:α2,∃ y3:α3,∃ y4:α4,P y0 y1 y2 y3 y4:=⟨x0,x1,x2,x3,x4,h⟩
theorem ex6 {α0 α1 α2 α3 α4 α5:Type}{P:α0->α1->α2->α3->α4->α5->Prop} (x0:α0) (x1:α1) (x2:α2) (x3:α3) (x4:α4) (x5:α5) (h:P x0 x1 x2 x3 x4 x5):∃ y0:α0,∃ y1:α1,∃ y2:α2,∃ y3:α3,∃ y4:α4,∃ y5:α5,P y0 y1 y2 y3 y4 y5:=⟨x0,x1,x2,x3,x4,x5,h⟩
theorem ex7 {α0 α1 α2 α3 α4 α5 α6:Type}{P:α0->α1->α2->α3->α4->α5->α6->Prop} (x0:α0) (x1:α1) (x2:α2) (x3:α3) (x4:α4) (x5:α5) (x6:α6) (h:P x0 x1 x2 x3 x4 x5 x6):∃ y0:α0,∃ y1:α1,∃ y2:α2,∃ y3:α3,∃ y4:α4,∃ y5:α5,∃ y6:α6,P y0 y1 y2 y3 y4 y5 y6:=⟨x0,x1,x2,x3,x4,x5,x6,h⟩
theorem ex8 {α0 α1 α2 α3 α4 α5 α6 α7:Type}{P:α0->α1->α2->α3->α4->α5->α6->α7->Prop} (x0:α0) (x1:α1) (x2:α2) (x3:α3) (x4:α4) (x5:α5) (x6:α6) (x7:α7) (h:P x0 x1 x2 x3 x4 x5 x6 x7):∃ y0:α0,∃ y1:α1,∃ y2:α2,∃ y3:α3,∃ y4:α4,∃ y5:α5,∃ y6:α6,∃ y7:α7,P y0 y1 y2 y3 y4 y5 y6 y7:=⟨x0,x1,x2,x3,x4,x5,x6,x7,h⟩
theorem ex9 {α0 α1 α2 α3 α4 α5 α6 α7 α8:Type}{P:α0->α1->α2->α3->α4->α5->α6->α7->α8->Prop} (x0:α0) (x1:α1) (x2:α2) (x3:α3) (x4:α4) (x5:α5) (x6:α6) (x7:α7) (x8:α8) (h:P x0 x1 x2 x3 x4 x5 x6 x7 x8):∃ y0:α0,∃ y1:α1,∃ y2:α2,∃ y3:α3,∃ y4:α4,∃ y5:α5,∃ y6:α6,∃ y7:α7,∃ y8:α8,P y0 y1 y2 y3 y4 y5 y6 y7 y8:=⟨x0,x1,x2,x3,x4,x5,x6,x7,x8,h⟩
theorem ex16 {α0 α1 α2 α3 α4 α5 α6 α7 α8 α9 α10 α11 α12 α13 α14 α15:Type}{P:α0->α1->α2->α3->α4->α5->α6->α7->α8->α9->α10->α11->α12->α13->α14->α15->Prop} (x0:α0) (x1:α1) (x2:α2) (x3:α3) (x4:α4) (x5:α5) (x6:α6) (x7:α7) (x8:α8) (x9:α9) (x10:α10) (x11:α11) (x12:α12) (x13:α13) (x14:α14) (x15:α15) (h:P x0 x1 x2 x3 x4 x5 x6 x7 x8 x9 x10 x11 x12 x13 x14 x15):∃ y0:α0,∃ y1:α1,∃ y2:α2,∃ y3:α3,∃ y4:α4,∃ y5:α5,∃ y6:α6,∃ y7:α7,∃ y8:α8,∃ y9:α9,∃ y10:α10,∃ y11:α11,∃ y12:α12,∃ y13:α13,∃ y14:α14,∃ y15:α15,P y0 y1 y2 y3 y4 y5 y6 y7 y8 y9 y10 y11 y12 y13 y14 y15:=⟨x0,x1,x2,x3,x4,x5,x6,x7,x8,x9,x10,x11,x12,x13,x14,x15,h⟩
theorem un2 {K:PySem.W.Frag}{H:Hp}{a:Addr} {v0 v1:V}{Q:V->V->Prop} (h:H a=some (.tup [v0,v1])) (q:Q v0 v1):∃ a' xs,V.ref a=.ref a'/\SqT K H a' xs/\xs.length=2/\∃ w0 r0,xs=w0::r0/\∃ w1 r1,r0=w1::r1/\r1=[]/\Q w0 w1:=⟨a,_,rfl,SqT.of h,rfl,_,_,rfl,_,_,rfl,rfl,q⟩
theorem un3 {K:PySem.W.Frag}{H:Hp}{a:Addr} {v0 v1 v2:V}{Q:V->V->V->Prop} (h:H a=some (.tup [v0,v1,v2])) (q:Q v0 v1 v2):∃ a' xs,V.ref a=.ref a'/\SqT K H a' xs/\xs.length=3/\∃ w0 r0,xs=w0::r0/\∃ w1 r1,r0=w1::r1/\∃ w2 r2,r1=w2::r2/\r2=[]/\Q w0 w1 w2:=⟨a,_,rfl,SqT.of h,rfl,_,_,rfl,_,_,rfl,_,_,rfl,rfl,q⟩
theorem un4 {K:PySem.W.Frag}{H:Hp}{a:Addr} {v0 v1 v2 v3:V}{Q:V->V->V->V->Prop} (h:H a=some (.tup [v0,v1,v2,v3])) (q:Q v0 v1 v2 v3):∃ a' xs,V.ref a=.ref a'/\SqT K H a' xs/\xs.length=4/\∃ w0 r0,xs=w0::r0/\∃ w1 r1,r0=w1::r1/\∃ w2 r2,r1=w2::r2/\∃ w3 r3,r2=w3::r3/\r3=[]/\Q w0 w1 w2 w3:=⟨a,_,rfl,SqT.of h,rfl,_,_,rfl,_,_,rfl,_,_,rfl,_,_,rfl,rfl,q⟩
theorem zr {α:Sort _}{A Q:α->Prop}{x:α} (a:A x) (q:Q x):∃ y,A y/\Q y:=⟨x,a,q⟩
theorem zr1 {α β:Sort _}{A Q:α->β->Prop}{x:α}{y:β} (a:A x y) (q:Q x y):∃ x y,A x y/\Q x y:=⟨x,y,a,q⟩
theorem zr2 {α β:Sort _}{A B Q:α->β->Prop}{x:α}{y:β} (a:A x y) (b:B x y) (q:Q x y):∃ x y,A x y/\B x y/\Q x y:=⟨x,y,a,b,q⟩
end Sm
namespace Sm
open PySem L2 SmSort
def lamQ:Str:=(("made_book" : Str) ++ ".<locals>.") ++ "<lambda>"
def spLawT (K:PySem.W.Frag) (T:Addr) (lp:Pos):Sp:=λvs H Q _=>∃ (a:Addr) (ns:List Int),vs=[.ref a]/\SqL K H a (ns.map V.int)/\ns.length<=63/\MT T lp lamQ H/\∀ H',Q (.bl true) H'
def M4.norm (r:M4):M4:=⟨min r.lo r.hi,max r.lo r.hi,r.t,r.m⟩
def M4.ints (r:M4):List Int:=[r.lo,r.hi,r.t,r.m]
structure Raw (w:Int) (ms:List M4):Prop where
 few:ms.length<=60
 each:∀ r∈ms,0<=r.lo/\r.lo < w/\0<=r.hi/\r.hi < w/\r.lo≠r.hi/\1<=r.t/\r.t<=1000000000/\1<=r.m/\r.m<=99
 pw:ms.Pairwise λa b=>a.t=b.t->apart a b
theorem apart.symm {a b:M4} (h:apart a b):apart b a:=⟨h.1.symm,h.2.2.1.symm,h.2.1.symm,h.2.2.2.symm⟩
theorem apart.norm {a b:M4} (h:apart a b):apart a.norm b.norm:=by
 obtain ⟨h1,h2,h3,h4⟩:=h
 unfold apart M4.norm
 dsimp only
 refine ⟨?_,?_,?_,?_⟩ <;> omega
theorem Raw.loose {w:Int}{ms:List M4} (g:Raw w ms):Loose w (ms.map M4.norm):=by
 refine ⟨by rw [zA];exact g.few,λr hr=>?_,zz.mpr (g.pw.imp λh e=>(h e).norm)⟩
 obtain ⟨x,hx,rfl⟩:=zI.mp hr
 obtain ⟨h1,h2,h3,h4,h5,h6,h7,h8,h9⟩:=g.each x hx
 unfold M4.norm
 dsimp only
 exact ⟨by omega,by omega,by omega,h6,h7,h8,h9⟩
theorem Good.eq {w w':Int}{ms ns:List M4} (g:Good w ms) (h:Good w' ns) (p:ms.Perm ns):ms=ns:=by
 refine List.Perm.eq_of_pairwise (le:=λa b=>a.t < b.t\/(a.t=b.t/\a.lo < b.lo/\apart a b)) (λa b _ _ x y=>?_) g.order h.order p
 rcases x with x | x <;> rcases y with y | y <;> omega
def keyF (l:List Int):List Int:=[l.getD 2 0,l.getD 0 0]
theorem keyF_ne (l:List Int) (_:l.length=4):keyF l≠[]:=by intro h;cases h
theorem lx2 {a b c d:Int} (h:lx [a,b] [c,d]=false):c < a\/(c=a/\d<=b):=by
 by_cases e:a=c
 ·subst e
  by_cases e2:b=d
  ·subst e2;exact .inr ⟨rfl,zX _⟩
  ·simp [lx,e2] at h
   exact .inr ⟨rfl,h⟩
 ·simp [lx,e] at h
  omega
theorem keyed_back {fs:List (Addr×M4)}{qs:List (Addr×List Int)} (p:qs.Perm (fs.map λa=>(a.1,a.2.ints))) (s:qs.Pairwise λa b=>lx (keyF b.2) (keyF a.2)=false) :
  ∃ rs:List (Addr×M4),rs.Perm fs/\(rs.Pairwise λa b=>a.2.t < b.2.t\/(a.2.t=b.2.t/\a.2.lo<=b.2.lo))/\qs=rs.map λa=>(a.1,a.2.ints):=by
 have back:∀ x∈qs,((x.1,(⟨x.2.getD 0 0,x.2.getD 1 0,x.2.getD 2 0,x.2.getD 3 0⟩:M4).ints):Addr×List Int)=x:=λx hx=>by
  obtain ⟨y,hy,rfl⟩:=zI.mp (p.mem_iff.mp hx)
  rfl
 have e:qs=(qs.map λx:Addr×List Int=>((x.1,(⟨x.2.getD 0 0,x.2.getD 1 0,x.2.getD 2 0,x.2.getD 3 0⟩:M4)):Addr×M4)).map λa=>(a.1,a.2.ints):=by
  rw [zn]
  conv=>lhs;rw [<-List.map_id qs]
  exact yL λx hx=>(back x hx).symm
 refine ⟨qs.map λx:Addr×List Int=>((x.1,(⟨x.2.getD 0 0,x.2.getD 1 0,x.2.getD 2 0,x.2.getD 3 0⟩:M4)):Addr×M4),?_,?_,e⟩
 ·have:=p.map λx:Addr×List Int=>((x.1,(⟨x.2.getD 0 0,x.2.getD 1 0,x.2.getD 2 0,x.2.getD 3 0⟩:M4)):Addr×M4)
  rw [zn] at this
  refine this.trans ?_
  have e2:(fs.map ((λx:Addr×List Int=>((x.1,(⟨x.2.getD 0 0,x.2.getD 1 0,x.2.getD 2 0,x.2.getD 3 0⟩:M4)):Addr×M4)) ∘ λa:Addr×M4=>(a.1,a.2.ints)))=fs:=by
   conv=>rhs;rw [<-List.map_id fs]
   exact yL λ_ _=>rfl
  rw [e2]
 ·refine zz.mpr (s.imp λ{a b} h=>?_)
  dsimp only
  exact lx2 h
theorem Loose.good2 {w:Int}{fs qs:List (Addr×M4)} (g:Loose w (fs.map (·.2))) (p:qs.Perm fs) (s:qs.Pairwise λa b=>a.2.t < b.2.t\/(a.2.t=b.2.t/\a.2.lo<=b.2.lo)):Good w (qs.map (·.2)):=by
 have pm:=p.map (·.2)
 refine ⟨by rw [pm.length_eq];exact g.few,λr hr=>g.each r (pm.mem_iff.mp hr),?_⟩
 have ap:(qs.map (·.2)).Pairwise λa b=>a.t=b.t->apart a b:=(List.Perm.pairwise_iff (λ{x y} h e=>(h e.symm).symm) pm).mpr g.pw
 refine zz.mpr ((s.and (zz.mp ap)).imp ?_)
 rintro a b ⟨h | ⟨h1,h2⟩,k⟩
 ·exact .inl h
 ·have:=k h1
  exact .inr ⟨h1,by have:=this.1;omega,this⟩
def spAreRooms:Sp:=λvs H Q _=>∃ p rooms,vs=[.ref p]/\H p=some (.lst (List.map V.int rooms))/\1<=rooms.length/\rooms.length<=12/\(∀ r∈rooms,(0:Int)<=r/\r<=99)/\∀ H',Same H H'->Q (.bl true) H'
def spIsMeet:Sp:=λvs H Q _=>∃ w t,∃ r:M4,vs=[.int w,.ref t]/\H t=some (.tup r.vs)/\(0<=r.lo/\r.lo < w/\0<=r.hi/\r.hi < w/\r.lo≠r.hi/\1<=r.t/\r.t<=1000000000/\1<=r.m/\r.m<=99)/\Q (.bl true) H
def spTwice:Sp:=λvs H Q _=>∃ l fs w,vs=[.ref l]/\ListAt H l fs/\Raw w (fs.map (·.2))/\∀ H',Same H H'->Q (.bl false) H'
def spLsrF:Sp:=λvs H Q _=>∃ t,∃ r:M4,vs=[.ref t]/\H t=some (.tup r.vs)/\∀ t' H',Same H H'->H' t'=some (.tup r.norm.vs)->Q (.ref t') H'
def spMade (T:Addr) (lp:Pos):Sp:=λvs H Q _=>∃ pr pm rooms fs,vs=[.ref pr,.ref pm]/\H pr=some (.lst (List.map V.int rooms))/\1<=rooms.length/\rooms.length<=12/\(∀ r∈rooms,(0:Int)<=r/\r<=99)/\ListAt H pm fs/\Raw rooms.length (fs.map (·.2))/\MT T lp lamQ H /\
 ∀ b tr tm ps H',But T H H'->MT T lp lamQ H'->BookAt H' b rooms tr tm ps->Good rooms.length (ps.map (·.2))->(ps.map (·.2)).Perm (fs.map λa=>a.2.norm)->Q (.ref b) H'
end Sm
namespace L2
open PySem
theorem MT.same {P:Addr}{pos:Pos}{qual:Str}{H H':Hp} (m:MT P pos qual H) (s:Same H H'):MT P pos qual H':=by
 rcases m with m | ⟨c,m,m2⟩
 ·exact .inl (s _ _ m)
 ·exact .inr ⟨c,s _ _ m,s _ _ m2⟩
end L2
namespace Sm
open PySem L2 SmSort
theorem lam_key {K:PySem.W.Frag}{H:Hp}{a:Addr}{r:List Int} (h:H a=some (.tup (r.map V.int))) (ho:r.length=4) :
  ∃ x,SqT K H a x/\∃ y,atI x 2=some y/\∃ x,SqT K H a x/\∃ z,atI x 0=some z/\2<=sizeLine/\∀ p:Addr,H p=none->Same H (upd H p (HO.tup [y,z]))/\upd H p (HO.tup [y,z]) p=some (HO.tup (List.map V.int (keyF r))):=
 match r,ho with
 | [_,_,_,_],_=>⟨_,SqT.of h,_,rfl,_,SqT.of h,_,rfl,by rw [sizeLine_eq];decide,λp hp=>⟨xK hp,xI⟩⟩
end Sm
namespace L2
open PySem
theorem MT.go {P p:Addr}{pos:Pos}{qual:Str}{H H':Hp} (m:MT P pos qual H) (pu:Sm.Purse H p) (g:Sm.Go p H H'):MT P pos qual H':=by
 obtain ⟨x,y,z,e⟩:=pu
 rcases m with m | ⟨c,m,m2⟩
 ·exact .inl (g.1 _ _ (wa m e (by intro z;cases z)) m)
 ·exact .inr ⟨c,g.1 _ _ (wa m e (by intro z;cases z)) m,g.1 _ _ (wa m2 e (by intro z;cases z)) m2⟩
end L2
namespace Sm
open PySem L2 SmSort
theorem MT.tups' {T:Addr}{lp:Pos}{q:Str}{H H':Hp} (m:MT T lp q H) (b:But T H H'):Tups H H':=λx u e=>b x _ (λz=>by
 rcases m with m | ⟨_,m,_⟩ <;> (rw [z,m] at e;cases e)) e
theorem MT.keep {T:Addr}{lp:Pos}{q:Str}{H H':Hp} (m:MT T lp q H) (b:But T H H') {x:Addr}{u:HO} (e:H x=some u) (n:∀ ys,u≠.tbl ys):H' x=some u:=b x u (λz=>by
 rcases m with m | ⟨_,m,_⟩ <;> (rw [z,m] at e;cases e;exact n _ rfl)) e
theorem MT.seq {T:Addr}{lp:Pos}{q:Str}{K:PySem.W.Frag}{H H':Hp}{a:Addr}{xs:List V} (m:MT T lp q H) (b:But T H H') (h:SqL K H a xs):SqL K H' a xs:=by
 rcases h with (h | ⟨o,h⟩) | h
 ·exact .inl (.inl (MT.keep m b h (by intro ys z;cases z)))
 ·exact .inl (.inr ⟨o,MT.keep m b h (by intro ys z;cases z)⟩)
 ·exact .inr h
end Sm
namespace Sm
open PySem L2 SmSort
theorem lone_at {k:Nat}{x:Int}:lone k x k=some x:=by unfold lone;rw [if_pos rfl]
end Sm
namespace Sm
open PySem L2 SmSort
theorem least_fold {f:Fn}:∀ {ws:List W3}{st:Fn},(∀ x∈ws,below (f x.g) x.t=true->upto (f x.o) x.t=true)->(∀ i y,st i=some y->upto (f i) y=true)->∀ i y,ws.foldl fstep st i=some y->upto (f i) y=true
 | [],_,_,h,i,y,e=>h i y e
 | x::ws,st,hc,h,i,y,e=>by
  refine least_fold (st:=fstep st x) (λz hz=>hc z (.tail _ hz)) (λj u hj=>?_) i y e
  unfold fstep at hj
  split at hj
  ·rename_i c
   by_cases ej:j=x.o
   ·subst ej
    rw [xk] at hj;cases hj
    obtain ⟨v,ev,lv⟩:=below_iff.mp c.2
    obtain ⟨u,eu,lu⟩:=upto_iff.mp (h _ _ ev)
    exact hc x (.head _) (below_iff.mpr ⟨u,eu,by omega⟩)
   ·rw [xt ej] at hj;exact h j u hj
  ·exact h j u hj
theorem closed_of {n s:Nat}{a:Int}{ms:List M4} (g:Good n ms) {x:W3} (hx:x∈ways2 ms) (h:below (fwd ms (lone s a) x.g) x.t=true):upto (fwd ms (lone s a) x.o) x.t=true:=by
 have:=yk.mp (early_closed (s:=s) (x:=a) g) x hx
 simpa [h] using this
theorem fold_some {i:Nat}{y:Int}:∀ {ws:List W3}{st:Fn},st i=some y->ws.foldl fstep st i=some y
 | [],_,h=>h
 | x::ws,st,h=>fold_some (ws:=ws) (st:=fstep st x) (wO h)
theorem fwd_self (ms:List M4) (s:Nat) (a:Int):fwd ms (lone s a) s=some a:=fold_some lone_at
theorem fold_time {f:Fn}{T:Int}:∀ {ws:List W3}{st:Fn},(∀ x∈ws,x.t<=T)->∀ {i:Nat}{y:Int},ws.foldl fstep st i=some y->st i=some y\/y<=T
 | [],_,_,_,_,e=>.inl e
 | x::ws,st,h,i,y,e=>by
  rcases fold_time (f:=f) (λz hz=>h z (.tail _ hz)) (st:=fstep st x) e with e1 | e1
  ·unfold fstep at e1
   split at e1
   ·by_cases ej:i=x.o
    ·subst ej;rw [xk] at e1;cases e1
     exact .inr (h x (.head _))
    ·rw [xt ej] at e1;exact .inl e1
   ·exact .inl e1
  ·exact .inr e1
theorem two_t {m:M4}{x:W3} (h:x∈two m):x.t=m.t:=by
 unfold two at h
 rcases zF.mp h with rfl | h
 ·rfl
 ·cases zH.mp h;rfl
theorem ways2_t {ms:List M4}{T:Int} (h:∀ m∈ms,m.t<=T):∀ x∈ways2 ms,x.t<=T:=λx hx=>by
 obtain ⟨m,hm,hx⟩:=yl.mp hx
 rw [two_t hx];exact h m hm
end Sm
namespace Sm
open PySem L2 SmSort
theorem BookAt.eqv {K:PySem.W.Frag}{H:Hp}{b tr tm b' tr' tm':Addr}{rooms:List Int}{ps qs:List (Addr×M4)} (h:BookAt H b rooms tr tm ps) (h':BookAt H b' rooms tr' tm' qs) (e:ps.map (·.2)=qs.map (·.2)):Eqv K H 3 (.ref b) (.ref b') true:=by
 have le:ps.length=qs.length:=by have:=congrArg List.length e;rwa [zA,zA] at this
 refine .inr (.inr ⟨b,b',_,_,λ_=>true,rfl,rfl,.inr ⟨SqT.of h.book,SqT.of h'.book⟩,λ_=>rfl,by simp,λi x y hx hy=>?_⟩)
 match i with
 | 0=>
  cases hx;cases hy
  have:=Eqv.rows (K:=K) (n:=1) (f:=V.int) (λ_=>rfl) eqV_int (.inr ⟨h.rooms,h'.rooms⟩)
  rwa [decide_eq_true rfl] at this
 | 1=>
  cases hx;cases hy
  refine .inr (.inr ⟨tm,tm',_,_,λ_=>true,rfl,rfl,.inr ⟨SqT.of h.meets,SqT.of h'.meets⟩,λ_=>rfl,by simp [le],λj x y hx hy=>?_⟩)
  obtain ⟨r,hr,rfl⟩:=xl hx
  obtain ⟨r',hr',rfl⟩:=xl hy
  have er:r.2=r'.2:=by
   have:=congrArg (·[j]?) e
   simp only [zR,hr,hr',yb,Option.some.injEq] at this
   exact this
  have h1:H r.1=some (.tup (r.2.ints.map V.int)):=h.rows _ (zC hr)
  have h2:H r'.1=some (.tup (r.2.ints.map V.int)):=by rw [er];exact h'.rows _ (zC hr')
  have:=Eqv.rows (K:=K) (n:=0) (f:=V.int) (λ_=>rfl) eqV_int (.inr ⟨h1,h2⟩)
  rwa [decide_eq_true rfl] at this
 | i + 2=>cases hx
end Sm
namespace Sm
open PySem L2 SmSort
theorem rEqv_book {K:PySem.W.Frag}{H:Hp}{b tr tm b' tr' tm':Addr}{rooms:List Int}{ps qs:List (Addr×M4)}{Q:VK}{neg:Bool} (h:BookAt H b rooms tr tm ps) (h':BookAt H b' rooms tr' tm' qs) (e:ps.map (·.2)=qs.map (·.2)) (q:Q (.bl (if neg=true then !true else true)) H):rEqv K neg (.ref b) (.ref b') H Q:=by
 rcases BookAt.eqv (K:=K) h h' e with ⟨e,_,hb⟩ | ⟨hf,_⟩ | ⟨a',c',xs',ys',f,e,ea,hs,hb,hl,hel⟩
 ·cases e
  exact ⟨0,b,b,_,_,λ_=>true,true,by decide,rfl,rfl,.inr ⟨SqT.of h.book,SqT.of h.book⟩,by simp,λi x y hx hy=>(by
   rw [hx] at hy;cases hy
   match i with
   | 0=>cases hx;exact .inl ⟨rfl,⟨_,rfl⟩,rfl⟩
   | 1=>cases hx;exact .inl ⟨rfl,⟨_,rfl⟩,rfl⟩
   | i + 2=>cases hx),q⟩
 ·cases hf
 ·exact ⟨2,a',c',xs',ys',f,true,by decide,e,ea,hs,hl,hel,q⟩
end Sm
namespace Sm
open PySem L2 SmSort
section
variable {n:Nat}{ms:List M4}{day:Int}
theorem again_top (d1:1<=day) (hd:∀ m∈ms,1<=m.t/\m.t<=day):∀ R,∀ m∈again ms day 0 R,1<=m.t/\m.t<=(R:Int) * day/\∃ m'∈ms,m.lo=m'.lo/\m.hi=m'.hi/\m.m=m'.m
 | 0,m,h=>by cases h
 | R + 1,m,h=>by
  have e:((R + 1:Nat):Int) * day=(R:Int) * day + day:=by rw [Int.natCast_add,yx];simp
  have r0:0<=(R:Int) * day:=Int.mul_nonneg (by omega) (by omega)
  rcases zS.mp (show m∈again ms day 0 R++ms.map (M4.late ((0 + (R:Int)) * day)) from h) with h | h
  ·obtain ⟨a,b,c⟩:=again_top d1 hd R m h
   exact ⟨a,by omega,c⟩
  ·obtain ⟨m',hm,rfl⟩:=zI.mp h
   have:=hd m' hm
   refine ⟨?_,?_,m',hm,rfl,rfl,rfl⟩
   ·show 1<=m'.t + (0 + (R:Int)) * day;rw [xF];omega
   ·show m'.t + (0 + (R:Int)) * day<=_;rw [xF];omega
theorem again_good (g:Good n ms) (d1:1<=day) (hd:∀ m∈ms,m.t<=day) {R:Nat} (few:R * ms.length<=60) (far:(R:Int) * day<=1000000000):Good n (again ms day 0 R):=by
 have each:∀ m∈ms,1<=m.t/\m.t<=day:=λm hm=>⟨(g.each m hm).2.2.2.1,hd m hm⟩
 refine ⟨by rw [again_len];exact few,λr hr=>?_,?_⟩
 ·obtain ⟨a,b,m',hm,e1,e2,e3⟩:=again_top d1 each R r hr
  obtain ⟨f1,f2,f3,_,_,f4,f5⟩:=g.each m' hm
  rw [e1,e2,e3]
  exact ⟨f1,f2,f3,a,by omega,f4,f5⟩
 ·clear few far
  induction R with
  | zero=>exact .nil
  | succ R ih=>
   show (again ms day 0 R++ms.map (M4.late ((0 + (R:Int)) * day))).Pairwise _
   rw [z4]
   refine ⟨ih,?_,λa ha b hb=>.inl ?_⟩
   ·rw [zz]
    refine g.order.imp λ{a b} h=>?_
    rcases h with h | ⟨h1,h2,h3⟩
    ·exact .inl (by show a.t + _ < b.t + _;omega)
    ·exact .inr ⟨by show a.t + _=b.t + _;omega,h2,h3⟩
   ·obtain ⟨m',hm,rfl⟩:=zI.mp hb
    have:=(again_top d1 each R a ha).2.1
    have:=(each m' hm).1
    show a.t < m'.t + (0 + (R:Int)) * day
    rw [xF];omega
theorem again_get {ms:List M4}{day:Int}{i:Nat}{m:M4} (h:ms[i]?=some m):∀ {R c:Nat},c < R->(again ms day 0 R)[c * ms.length + i]?=some (m.late ((c:Int) * day))
 | 0,_,l=>absurd l (zd _)
 | R + 1,c,l=>by
  have hi:=(zB.mp h).1
  show (again ms day 0 R++ms.map (M4.late ((0 + (R:Int)) * day)))[_]?=_
  rcases ym c R with l' | l'
  ·rw [zp (by rw [again_len];exact zO (Nat.add_lt_add_left hi _) (by rw [<-Nat.succ_mul];exact Nat.mul_le_mul_right _ l'))]
   exact again_get h l'
  ·have:c=R:=by omega
   subst this
   rw [zh (by rw [again_len];omega),again_len,Nat.add_sub_cancel_left,zR,h,xF]
   rfl
theorem again_to {k i:Nat}{x y:Int}{E:Fn} (h:DE ms day k x E) {R:Nat} (e:fwd (again ms day 0 R) (lone k x) i=some y):∃ t,E i=some t/\t<=y:=by
 refine upto_iff.mp (least_fold (f:=E) (λw hw hb=>?_) (λj z hz=>?_) i y e)
 ·obtain ⟨u,hu,c,_,rfl⟩:=again_ways hw
  obtain ⟨z,hz,lz⟩:=below_iff.mp hb
  obtain ⟨e',h1,h2⟩:=h.clos u hu (0 + c) z hz lz
  exact upto_iff.mpr ⟨e',h1,h2⟩
 ·unfold lone at hz
  split at hz
  ·rename_i c;cases hz;rw [c];exact upto_iff.mpr ⟨_,h.self,zX _⟩
  ·cases hz
theorem again_from {k i:Nat}{x t:Int}{E:Fn} (h:DE ms day k x E) (g:Good n ms) (d1:1<=day) (hd:∀ m∈ms,m.t<=day) {R:Nat} (gM:Good n (again ms day 0 R)) (x0:0<=x) (e:E i=some t) (le:t<=(R:Int) * day):upto (fwd (again ms day 0 R) (lone k x) i) t=true:=by
 refine h.ind (P:=λi t=>t<=(R:Int) * day->upto (fwd (again ms day 0 R) (lone k x) i) t=true) (λ_=>upto_iff.mpr ⟨x,fwd_self _ _ _,zX _⟩) (λu hu turn y _ hy ly _ ih le=>?_) i t e le
 have hy0:=h.low _ _ hy
 obtain ⟨_,_,u1,_,_⟩:=wR g hu
 have ud:u.t<=day:=by
  unfold ways2 at hu
  obtain ⟨m,hm,hx⟩:=yl.mp hu
  rw [two_t hx];exact hd m hm
 have t0:0<=turn:=by
  by_cases c:turn < 0
  ·have:=yG (show turn<=-1 by omega) (show 0<=day by omega)
   omega
  ·omega
 obtain ⟨c,rfl⟩:=zb t0
 have cR:c < R:=by
  rcases ym c R with l | l
  ·exact l
  ·have:=yG (show (R:Int)<=(c:Int) by omega) (show 0<=day by omega)
   omega
 have hw:=again_has (first:=0) (day:=day) hu cR
 rw [xF] at hw
 exact closed_of gM hw (below_iff.mpr (by
  obtain ⟨z,hz,lz⟩:=upto_iff.mp (ih (by omega))
  exact ⟨z,hz,by show z < u.t + (c:Int) * day;omega⟩))
theorem again_iff {k i:Nat}{x y:Int}{E:Fn} (h:DE ms day k x E) (g:Good n ms) (d1:1<=day) (hd:∀ m∈ms,m.t<=day) {R:Nat} (gM:Good n (again ms day 0 R)) (x0:0<=x) (xR:x<=(R:Int) * day):fwd (again ms day 0 R) (lone k x) i=some y↔E i=some y/\y<=(R:Int) * day:=by
 have each:∀ m∈ms,1<=m.t/\m.t<=day:=λm hm=>⟨(g.each m hm).2.2.2.1,hd m hm⟩
 have top:∀ z,fwd (again ms day 0 R) (lone k x) i=some z->z<=(R:Int) * day:=λz hz=>by
  rcases fold_time (T:=(R:Int) * day) (f:=λ_=>none) (ways2_t λm hm=>(again_top d1 each R m hm).2.1) hz with c | c
  ·unfold lone at c;split at c
   ·cases c;exact xR
   ·cases c
  ·exact c
 constructor
 ·intro e
  obtain ⟨t,ht,lt⟩:=again_to h e
  have ty:=top y e
  obtain ⟨z,hz,lz⟩:=upto_iff.mp (again_from h g d1 hd gM x0 ht (by omega))
  rw [e] at hz;cases hz
  exact ⟨by rw [ht,show t=y by omega],ty⟩
 ·rintro ⟨e,le⟩
  obtain ⟨z,hz,lz⟩:=upto_iff.mp (again_from h g d1 hd gM x0 e le)
  obtain ⟨t,ht,lt⟩:=again_to h hz
  rw [e] at ht;cases ht
  rw [hz,show z=y by omega]
theorem walkD_le:∀ (cs:List (Int×Int)) (v:Nat) (t:Int) {w:Nat}{e:Int},walkD ms day v t cs=some (w,e)->t<=e
 | [],v,t,w,e,h=>by cases h;exact zX _
 | c::cs,v,t,w,e,h=>by
  unfold walkD at h
  split at h
  ·cases h
  ·split at h
   ·have:=walkD_le cs _ _ h
    omega
   ·cases h
theorem walk_again (g:Good n ms) (d1:1<=day) {R:Nat} (gM:Good n (again ms day 0 R)):∀ (cs:List (Int×Int)) (v:Nat) (t A:Int) {w:Nat}{e:Int},(A=-1\/∃ j:Nat,∃ m,A=j/\(again ms day 0 R)[j]?=some m/\m.t<=t)->walkD ms day v t cs=some (w,e)->e<=(R:Int) * day->walkM (again ms day 0 R) v t A (cs.map λc=>c.2 * (ms.length:Int) + c.1)=some (w,e)
 | [],v,t,A,w,e,_,h,_=>by cases h;rfl
 | c::cs,v,t,A,w,e,hA,h,le=>by
  unfold walkD at h
  split at h
  ·cases h
  rename_i m hm
  split at h
  ·rename_i q
   obtain ⟨c0,c1,c2,c3⟩:=q
   have hi:=(zB.mp hm).1
   obtain ⟨a,ha⟩:=zb c0
   obtain ⟨b,hb⟩:=zb c1
   have la:c.1.toNat=a:=by omega
   rw [la] at hm
   have tl:=walkD_le cs _ _ h
   have mt:=(g.each m (zC hm)).2.2.2.1
   have bR:b < R:=by
    rcases ym b R with l | l
    ·exact l
    ·have:=yG (show (R:Int)<=(b:Int) by omega) (show 0<=day by omega)
     rw [hb] at tl
     omega
   have hM:=again_get (day:=day) hm bR
   have ei:c.2 * (ms.length:Int) + c.1=((b * ms.length + a:Nat):Int):=by rw [ha,hb,Int.natCast_add,Int.natCast_mul]
   have ih:=walk_again g d1 gM cs (if v=m.lo.toNat then m.hi.toNat else m.lo.toNat) (m.t + c.2 * day) (c.2 * (ms.length:Int) + c.1) (.inr ⟨b * ms.length + a,_,ei,hM,by show m.t + (b:Int) * day<=_;rw [hb];exact zX _⟩) h le
   rw [zk]
   conv=>lhs;unfold walkM
   rw [ei,zy,hM]
   dsimp only
   rw [if_pos]
   ·rw [ei,hb] at ih
    exact ih
   ·refine ⟨?_,by omega,c2,by show t < m.t + (b:Int) * day;rw [hb] at c3;exact c3⟩
    rcases hA with rfl | ⟨j,m',rfl,hj,lj⟩
    ·omega
    ·have:=idx_lt (gM.order.imp λ{x y} h=>by rcases h with h | h <;> omega) hj hM (by show m'.t < m.t + (b:Int) * day;rw [hb] at c3;omega)
     omega
  ·cases h
theorem conn_again {R:Nat} (R1:1<=R) {k i:Nat}:Conn (again ms day 0 R) k i↔Conn ms k i:=by
 constructor
 ·intro h S hk cl
  refine h S hk λu hu hs=>?_
  obtain ⟨u',hu',c,_,rfl⟩:=again_ways hu
  exact cl u' hu' hs
 ·intro h S hk cl
  refine h S hk λu hu hs=>?_
  exact cl (u.late ((0 + ((0:Nat):Int)) * day)) (again_has (first:=0) (day:=day) hu R1) hs
theorem late_again {k w:Nat}{R:Nat} (gM:Good n (again ms day 0 R)) {z s:Int} (yes:upto (fwd (again ms day 0 R) (lone k s) w) z=true) (no:upto (fwd (again ms day 0 R) (lone k (s + 1)) w) z=false):bwd (again ms day 0 R) w z k=some s:=by
 rw [comes_eq gM.ord] at yes no
 obtain ⟨b,hb,lb⟩:=from_iff.mp yes
 rw [hb]
 have:¬ s + 1<=b:=λl=>by rw [from_iff.mpr ⟨b,hb,l⟩] at no;cases no
 rw [show b=s by omega]
theorem tOf_shifts {k w:Nat} (g:Good n ms) (hk:k < n) (d1:1<=day) (hd:∀ m∈ms,m.t<=day) {s y:Int} (h:tOf ms day n k w s=some y):∀ c:Nat,tOf ms day n k w (s + (c:Int) * day)=some (y + (c:Int) * day)
 | 0=>by simpa using h
 | c + 1=>by
  have:=tOf_shift g hk d1 hd (tOf_shifts g hk d1 hd h c)
  rw [show s + ((c + 1:Nat):Int) * day=s + (c:Int) * day + day by rw [Int.natCast_add,yx];simp;omega,show y + ((c + 1:Nat):Int) * day=y + (c:Int) * day + day by rw [Int.natCast_add,yx];simp;omega]
  exact this
end
end Sm
namespace Sm
open PySem L2 SmSort
structure Two96 (H:Hp) (t2 b br:Addr) (rooms:List Int) (tr tm:Addr) (ps:List (Addr×M4)) (trr tmr:Addr) (qs:List (Addr×M4)) (day:Int) (R:Nat):Prop where
 at_:H t2=some (.tup [.ref b,.ref br])
 hb:BookAt H b rooms tr tm ps
 hr:BookAt H br rooms trr tmr qs
 gd:Good rooms.length (ps.map (·.2))
 gr:Good rooms.length (qs.map (·.2))
 eq:qs.map (·.2)=again (ps.map (·.2)) day 0 R
 d1:1<=day
 d6:day<=1000000
 hd:∀ m∈ps.map (·.2),m.t<=day
 R12:R<=12
 rm:rooms.length<=12
theorem Two96.same {H H':Hp} {t2 b br:Addr}{rooms:List Int}{tr tm:Addr}{ps:List (Addr×M4)}{trr tmr:Addr}{qs:List (Addr×M4)}{day:Int}{R:Nat} (h:Two96 H t2 b br rooms tr tm ps trr tmr qs day R) (s:Same H H'):Two96 H' t2 b br rooms tr tm ps trr tmr qs day R:=
 ⟨s _ _ h.at_,h.hb.same s,h.hr.same s,h.gd,h.gr,h.eq,h.d1,h.d6,h.hd,h.R12,h.rm⟩
def cutO (o:Option Int) (z:Int):Option Int:=match o with
 | some y=>if y<=z then some y else none
 | none=>none
def spWrit96:Sp:=λvs H Q _=>∃ b,∃ day:Int,∃ R:Nat,∃ rooms tr tm ps,vs=[.ref b,.int day,.int (R:Int)]/\BookAt H b rooms tr tm ps/\R * ps.length<=60/\R<=12/\1<=day/\day<=1000000 /\
 ∀ l (fs:List (Addr×M4)) H',H l=none->Same H H'->ListAt H' l fs->fs.map (·.2)=again (ps.map (·.2)) day 0 R->Q (.ref l) H'
def spAlike96:Sp:=λvs H Q _=>∃ l m,∃ n:Nat,∃ f g:Fn,∃ z:Int,vs=[.ref l,.ref m,.int z]/\H l=some (.lst ((rep n f).map oV))/\H m=some (.lst ((rep n g).map oV))/\n<=12/\(∀ i,i < n->g i=cutO (f i) z)/\∀ H',Same H H'->Q (.bl true) H'
def spWaits96:Sp:=λvs H Q _=>∃ t2 t3,∃ day:Int,∃ k w:Nat,∃ x e:Int,∃ b br rooms tr tm ps trr tmr qs,vs=[.ref t2,.int day,.ref t3,.int e]/\(∃ R,Two96 H t2 b br rooms tr tm ps trr tmr qs day R/\0<=x/\x<=(R:Int) * day/\fwd (again (ps.map (·.2)) day 0 R) (lone k x) w=some e)/\H t3=some (.tup [.int (k:Int),.int x,.int (w:Int)])/\k≠w/\(k < rooms.length/\w < rooms.length)/\∀ H',Same H H'->Q (.bl true) H'
def spRight96:Sp:=λvs H Q _=>∃ t2 t3,∃ day:Int,∃ k w:Nat,∃ x:Int,∃ b br rooms tr tm ps trr tmr qs,∃ R:Nat,vs=[.ref t2,.int day,.int (R:Int),.ref t3]/\(Two96 H t2 b br rooms tr tm ps trr tmr qs day R/\0<=x/\x<=(R:Int) * day/\k < rooms.length/\w < rooms.length)/\H t3=some (.tup [.int (k:Int),.int x,.int (w:Int)])/\∀ H',Same H H'->Q (.bl true) H'
end Sm
namespace Sm
open PySem L2 SmSort
theorem take_filter {s:Int}:∀ {ts:List (Int×Int)},(ts.Pairwise λp q=>p.1 < q.1/\p.2 < q.2)->∃ j,j<=ts.length/\ts.filter (λa=>decide (a.1<=s))=ts.take j/\(∀ i p,i < j->ts[i]?=some p->p.1<=s)/\∀ p,ts[j]?=some p->s < p.1
 | [],_=>⟨0,zD _,rfl,λ_ _ h=>absurd h (zd _),λ_ h=>by cases h⟩
 | a::ts,h=>by
  rw [zg] at h
  obtain ⟨j,l,f,g1,g2⟩:=take_filter h.2
  by_cases c:a.1<=s
  ·refine ⟨j + 1,Nat.succ_le_succ l,by rw [List.filter_cons,if_pos (decide_eq_true c),f];rfl,λi p hi e=>?_,λp e=>g2 p e⟩
   cases i with
   | zero=>cases e;exact c
   | succ i=>exact g1 i p (by omega) e
  ·refine ⟨0,zT _,?_,λ_ _ h=>absurd h (zd _),λp e=>by cases e;omega⟩
   rw [List.filter_cons,if_neg (by simpa using c),List.take_zero,List.filter_eq_nil_iff]
   intro b hb
   have:=(h.1 b hb).1
   simp;omega
theorem waits_math {n k w R:Nat}{ms:List M4}{day x e:Int} (g:Good n ms) (hk:k < n) (kw:k≠w) (d1:1<=day) (hd:∀ m∈ms,m.t<=day) (gM:Good n (again ms day 0 R)) (x0:0<=x) (eR:e<=(R:Int) * day) (he:tOf ms day n k w x=some e) :
  tOf ms day n k w 0≠none/\∃ j p,1<=j/\j<=(toldF (tOf ms day n k w) (anch ms day k)).length/\(toldF (tOf ms day n k w) (anch ms day k)).filter (λa=>decide (a.1<=x - x / day * day))=(toldF (tOf ms day n k w) (anch ms day k)).take j/\(toldF (tOf ms day n k w) (anch ms day k))[j - 1]?=some p/\p.2 + x / day * day=e/\∀ q,(toldF (tOf ms day n k w) (anch ms day k))[j]?=some q->bwd (again ms day 0 R) w e k=some (q.1 - 1 + x / day * day):=by
 have hE:∀ s,DE ms day k s (agF ms day (s / day) (lone k s) n):=λs=>agDE g hk d1 hd
 have some_of:∀ s,tOf ms day n k w s≠none:=λs z=>by
  have:=((hE s).same (hE x) d1 w).mp z
  rw [show agF ms day (x / day) (lone k x) n w=some e from he] at this;cases this
 refine ⟨some_of 0,?_⟩
 have S:=tOf_told g hk kw d1 hd (some_of 0)
 obtain ⟨c,hc⟩:=zb (Int.ediv_nonneg x0 (by omega:0<=day))
 have s0:0<=x - x / day * day:=by have:=yq x (show day≠0 by omega);have:=Int.mul_ediv_add_emod x day;rw [Int.mul_comm] at this;omega
 have s1:x - x / day * day < day:=by have:=yX x (show 0 < day by omega);have:=Int.mul_ediv_add_emod x day;rw [Int.mul_comm] at this;omega
 rw [hc] at s0 s1 ⊢
 generalize hL:toldF (tOf ms day n k w) (anch ms day k)=L at S ⊢
 obtain ⟨j,jl,jf,j1,j2⟩:=take_filter (s:=x - (c:Int) * day) S.inc
 obtain ⟨y,hy⟩:=S.head
 have jp:1<=j:=by
  rcases Nat.eq_zero_or_pos j with z | z
  ·rw [z] at j2
   have:=j2 _ hy
   dsimp only at this
   omega
  ·exact z
 obtain ⟨p,hp⟩:∃ p,L[j - 1]?=some p:=⟨_,zU (by omega)⟩
 have p1:=j1 (j - 1) p (by omega) hp
 have val:∀ s,p.1<=s->s < (match L[j]? with | some q=>q.1 | none=>day)->tOf ms day n k w (s + (c:Int) * day)=some (p.2 + (c:Int) * day):=λs h1 h2=>
  tOf_shifts g hk d1 hd (S.val (j - 1) p hp s h1 (by rw [show j - 1 + 1=j by omega];exact h2)) c
 have ep:p.2 + (c:Int) * day=e:=by
  have:=val (x - (c:Int) * day) p1 (by
   cases hq:L[j]? with
   | none=>exact s1
   | some q=>exact j2 q hq)
  rw [Int.sub_add_cancel,he] at this
  cases this;rfl
 refine ⟨j,p,jp,jl,jf,hp,ep,λq hq=>?_⟩
 have q0:=(S.inn q (zC hq)).1
 have qn:p.1 < q.1/\p.2 < q.2:=zW.mp S.inc (j - 1) j (by omega) (zB.mp hq).1 (by omega) |> λh=>by
  rw [(zB.mp hp).2,(zB.mp hq).2] at h;exact h
 have cd:0<=(c:Int) * day:=Int.mul_nonneg (by omega) (by omega)
 refine late_again gM ?_ ?_
 ·have v:=val (q.1 - 1) (by omega) (by rw [hq];dsimp only;omega)
  rw [ep] at v
  have p0:=(S.inn p (zC hp)).1
  exact again_from (hE _) g d1 hd gM (by omega) v eR
 ·cases u:upto (fwd (again ms day 0 R) (lone k (q.1 - 1 + (c:Int) * day + 1)) w) e with
  | false=>rfl
  | true=>
   exfalso
   obtain ⟨z,hz,lz⟩:=upto_iff.mp u
   obtain ⟨t,ht,lt⟩:=again_to (hE _) hz
   have sq:=(S.val j q hq q.1 (zX _) (by
    cases hr:L[j + 1]? with
    | none=>exact (S.inn q (zC hq)).2
    | some r=>
     have:=zW.mp S.inc j (j + 1) (zB.mp hq).1 (zB.mp hr).1 (by omega)
     rw [(zB.mp hq).2,(zB.mp hr).2] at this
     exact this.1))
   have v:=tOf_shifts g hk d1 hd sq c
   rw [show q.1 - 1 + (c:Int) * day + 1=q.1 + (c:Int) * day by omega] at ht
   rw [show agF ms day ((q.1 + (c:Int) * day) / day) (lone k (q.1 + (c:Int) * day)) n w=_ from v] at ht
   cases ht
   omega
end Sm
namespace Sm
open PySem L2 SmSort
theorem filter_map_take {s:Int}{ts:List (Addr×Int×Int)}{j:Nat} (h:(ts.map (·.2)).filter (λa=>decide (a.1<=s))=(ts.map (·.2)).take j):(ts.filter λa=>decide (a.2.1<=s))=ts.take j:=by
 have yes:∀ a∈ts.take j,a.2.1<=s:=λa ha=>by
  have:a.2∈(ts.map (·.2)).take j:=by rw [<-List.map_take];exact zI.mpr ⟨a,ha,rfl⟩
  rw [<-h] at this
  simpa using (yn.mp this).2
 have no:∀ a∈ts.drop j,¬ a.2.1<=s:=λa ha c=>by
  have e:=h
  rw [<-List.take_append_drop j (ts.map (·.2)),yI,List.filter_eq_self.mpr (λb hb=>?_),List.take_append_drop] at e
  ·have e2:((ts.map (·.2)).drop j).filter (λa=>decide (a.1<=s))=[]:=by
    have:=congrArg List.length e
    rw [zP] at this
    exact List.length_eq_zero_iff.mp (by omega)
   have m:a.2∈(ts.map (·.2)).drop j:=by rw [<-List.map_drop];exact zI.mpr ⟨a,ha,rfl⟩
   have:=List.filter_eq_nil_iff.mp e2 a.2 m
   simp at this
   omega
  ·rw [<-List.map_take] at hb
   obtain ⟨z,hz,rfl⟩:=zI.mp hb
   exact decide_eq_true (yes z hz)
 conv=>lhs;rw [<-List.take_append_drop j ts]
 rw [yI,List.filter_eq_self.mpr (λa ha=>decide_eq_true (yes a ha)),List.filter_eq_nil_iff.mpr (λa ha=>by simpa using no a ha),yc]
end Sm
namespace Sm
open PySem L2 SmSort
theorem atI_end96 {xs:List V}{n:Nat}{x:V} (l:xs.length=n + 1) (h:xs[n]?=some x):atI xs (-1)=some x:=by
 obtain ⟨ys,z,rfl⟩:∃ ys z,xs=ys++[z]:=by
  rcases List.eq_nil_or_concat xs with e | ⟨ys,z,e⟩
  ·rw [e] at l;cases l
  ·exact ⟨ys,z,by simpa using e⟩
 rw [zP] at l
 have:ys.length=n:=by simpa using l
 rw [<-this,zh (zD _)] at h
 simp at h
 rw [<-h]
 exact L2.atI_last ys z
end Sm
namespace Sm
open PySem L2 SmSort
theorem ne_int96 {v:V}{j:Int} (h:v=V.int j):(!decide (v=V.int j))=false:=by rw [decide_eq_true h];rfl
end Sm
namespace Sm
open PySem L2 SmSort
theorem rounds96 (L:Nat) (h:L<=60):∃ R:Nat,(if 60 / (if (L:Int) > 1 then (L:Int) else 1) < 12 then 60 / (if (L:Int) > 1 then (L:Int) else 1) else 12)=(R:Int)/\1<=R/\R<=12/\R * L<=60:=by
 generalize hm:(if (L:Int) > 1 then (L:Int) else 1)=m
 have m1:1<=m/\m<=60/\(L:Int)<=m:=by rw [<-hm];split <;> omega
 obtain ⟨m1,m2,m3⟩:=m1
 have q1:1<=60 / m:=Int.le_ediv_of_mul_le (by omega) (by omega)
 have q2:60 / m * m<=60:=Int.ediv_mul_le 60 (by omega)
 have key:∀ r:Int,1<=r->r<=60 / m->∃ R:Nat,r=(R:Int)/\1<=R/\R * L<=60:=λr r1 r2=>by
  obtain ⟨R,rfl⟩:=zb (show 0<=r by omega)
  refine ⟨R,rfl,by omega,?_⟩
  have a:=Int.mul_le_mul r2 m3 (by omega) (by omega)
  have b:((R * L:Nat):Int)=(R:Int) * (L:Int):=Int.natCast_mul ..
  omega
 by_cases c:60 / m < 12
 ·rw [if_pos c]
  obtain ⟨R,e,r1,r2⟩:=key (60 / m) q1 (zX _)
  exact ⟨R,e,r1,by omega,r2⟩
 ·rw [if_neg c]
  obtain ⟨R,e,r1,r2⟩:=key 12 (by omega) (by omega)
  exact ⟨R,e,r1,by omega,r2⟩
theorem norm_good {w:Int}{ms:List M4} (g:Good w ms):ms.map M4.norm=ms:=by
 conv=>rhs;rw [<-List.map_id ms]
 refine yL λr hr=>?_
 have:=(g.each r hr).2.1
 unfold M4.norm
 obtain ⟨lo,hi,t,m⟩:=r
 dsimp only at this ⊢
 rw [Int.min_eq_left (by omega),Int.max_eq_right (by omega)]
 rfl
theorem raw_rev {w:Int}{ms:List M4} (g:Good w ms):Raw w ms.reverse:=by
 refine ⟨by rw [yg];exact g.few,λr hr=>?_,?_⟩
 ·have:=g.each r (List.mem_reverse.mp hr);omega
 ·rw [List.pairwise_reverse]
  refine g.order.imp λ{a b} h e=>?_
  rcases h with h | h
  ·omega
  ·exact apart.symm h.2.2
theorem ne_ints96 {K:PySem.W.Frag}{H:Hp}{a c:Addr}{ns:List Int}{Q:VK} (ha:H a=some (.lst (ns.map V.int))) (hc:H c=some (.lst (ns.map V.int))) (q:Q (.bl false) H):rEqv K true (.ref a) (.ref c) H Q:=by
 refine ⟨0,a,c,_,_,λ_=>true,true,by decide,rfl,rfl,.inl ⟨SqL.of ha,SqL.of hc⟩,by simp,λi x y hx hy=>?_,q⟩
 rw [hx] at hy;cases hy
 obtain ⟨r,hr,rfl⟩:=xl hx
 exact .inr ⟨rfl,rfl,by rw [eqV_int,decide_eq_true rfl]⟩
end Sm
namespace Sm
open PySem L2
theorem line9:1002<=sizeLine:=by rw [sizeLine_eq];decide
end Sm


namespace Sm
open PySem L2
def top (i:Nat):Stmt:=PySem.Challenge.pw_satchelmeet_k96_whole_days_written_out.main.body.getD i (.Pass ⟨0,0,0,0⟩)
abbrev C6:Stmt:=top 49
abbrev Dx:Stmt:=top 50
abbrev C5:Stmt:=top 52
abbrev Dy:Stmt:=top 53
abbrev wU:Stmt:=top 54
abbrev Dz:Stmt:=top 55
abbrev Ef:Stmt:=top 6
abbrev Du:Stmt:=top 7
abbrev E8:Stmt:=top 8
abbrev Eh:Stmt:=top 9
abbrev E7:Stmt:=top 10
abbrev E9:Stmt:=top 11
abbrev CO:Stmt:=top 18
abbrev C4:Stmt:=top 19
abbrev wH:Stmt:=top 20
abbrev CH:Stmt:=top 21
abbrev CN:Stmt:=top 17
abbrev wT:Stmt:=top 22
abbrev Dv:Stmt:=top 23
abbrev Cq:Stmt:=top 24
abbrev Ic:Stmt:=top 25
abbrev Ed:Stmt:=top 26
abbrev C3:Stmt:=top 27
abbrev C2:Stmt:=top 34
abbrev wI:Stmt:=top 32
abbrev CQ:Stmt:=top 30
abbrev CS:Stmt:=top 31
abbrev wb:Stmt:=top 33
abbrev Dw:Stmt:=top 36
abbrev Eg:Stmt:=top 38
abbrev Fa:Stmt:=top 39
abbrev Cs:Stmt:=top 43
abbrev Cb:Stmt:=top 41
abbrev Ei:Stmt:=top 42
abbrev Ee:Stmt:=top 45
abbrev EU:Stmt:=top 47
abbrev Ct:Stmt:=top 56
abbrev Ej:Stmt:=top 57
abbrev CI:Stmt:=top 58
abbrev wY:Stmt:=top 59
abbrev wB:Stmt:=top 60
abbrev CB:Stmt:=top 61
abbrev Jm:Stmt:=top 62
def lamPos:Pos:=⟨38,49,38,77⟩
set_option genInjectivity false
set_option genSizeOf false
structure Ad where
 AX:Addr
 BK:FuncData
 A9:Addr
 B2:FuncData
 AV:Addr
 BI:FuncData
 Ba:Addr
 B3:FuncData
 Aw:Addr
 AO:FuncData
 Bb:Addr
 B4:FuncData
 Bt:Addr
 Ch:FuncData
 A5:Addr
 BY:FuncData
 B6:Addr
 CD:FuncData
 Bv:Addr
 Cj:FuncData
 B5:Addr
 CC:FuncData
 B7:Addr
 CF:FuncData
 A8:Addr
 B1:FuncData
 AT:Addr
 BG:FuncData
 Af:Addr
 Ao:FuncData
 AB:Addr
 A1:FuncData
 A4:Addr
 A3:FuncData
 Ah:Addr
 At:FuncData
 A6:Addr
 BZ:FuncData
 AG:Addr
 Bh:FuncData
 DM:Addr
 Fk:FuncData
 Bp:Addr
 Cd:FuncData
 Br:Addr
 Cf:FuncData
 Bq:Addr
 Ce:FuncData
 Ag:Addr
 Ap:FuncData
 AH:Addr
 Bi:FuncData
 AI:Addr
 Bj:FuncData
 AU:Addr
 BH:FuncData
 A7:Addr
 B0:FuncData
 Bu:Addr
 Ci:FuncData
 B8:Addr
 CG:FuncData
 Au:Addr
 AM:FuncData
 As:Addr
 AJ:FuncData
 Bw:Addr
 Ck:FuncData
 Bs:Addr
 Cg:FuncData
 CP:Addr
 DO:FuncData
 Av:Addr
 AN:FuncData
 Bx:Addr
 Cl:FuncData
 AC:Addr
 A2:FuncData
 Al:Addr
 Az:FuncData
 Ak:Addr
 Ay:FuncData
 AW:Addr
 BJ:FuncData
 E4:Addr
 GP:FuncData
 tC:Addr
 tP:Addr
structure Tx (K:PySem.W.Frag) (mg:Str->Option Value) (a:Ad) (a_LAST_TIME:Tok) (a_MOST_WALKERS:Tok) (a_MOST_ROOM:Tok) (a_MOST_MEETINGS:Tok) (a_MOST_MANY:Tok) (a_LONGEST_DAY:Tok):Prop where
 Bg:Fun K "_law_purse" "_law_purse" C6 a.AX a.BK
 E3:Binds K a.BK ["_law_script", "_law_k"] []
 EY:mg "_law_purse" = some (.ref a.AX)
 E1:zJ K (.ref a.AX)=true
 BD:Fun K "_law_take" "_law_take" Dx a.A9 a.B2
 Ae:Binds K a.B2 ["_law_purse_here", "_law_many"] []
 Ab:mg "_law_take" = some (.ref a.A9)
 Ac:zJ K (.ref a.A9)=true
 Be:Fun K "_law_rooms" "_law_rooms" C5 a.AV a.BI
 G5:Binds K a.BI ["_law_purse_here", "_law_walkers"] []
 GY:mg "_law_rooms" = some (.ref a.AV)
 G1:zJ K (.ref a.AV)=true
 BE:Fun K "_law_step" "_law_step" Dy a.Ba a.B3
 HL:Binds K a.B3 ["_law_purse_here"] []
 Hq:mg "_law_step" = some (.ref a.Ba)
 Hu:zJ K (.ref a.Ba)=true
 AF:Fun K "_law_meetings" "_law_meetings" wU a.Aw a.AO
 FP:Binds K a.AO ["_law_purse_here", "_law_walkers", "_law_most"] []
 FL:mg "_law_meetings" = some (.ref a.Aw)
 FN:zJ K (.ref a.Aw)=true
 BF:Fun K "_law_book" "_law_book" Dz a.Bb a.B4
 HM:Binds K a.B4 ["_law_purse_here", "_law_most_walkers", "_law_most_meetings"] []
 Hr:mg "_law_book" = some (.ref a.Bb)
 Hv:zJ K (.ref a.Bb)=true
 BS:Fun K "is_whole" "is_whole" Ef a.Bt a.Ch
 IB:Binds K a.Ch ["thing"] []
 Il:mg "is_whole" = some (.ref a.Bt)
 Iv:zJ K (.ref a.Bt)=true
 Bz:Fun K "is_within" "is_within" Du a.A5 a.BY
 AS:Binds K a.BY ["thing", "least", "most"] []
 AQ:mg "is_within" = some (.ref a.A5)
 AR:zJ K (.ref a.A5)=true
 Cn:Fun K "is_time" "is_time" E8 a.B6 a.CD
 GO:Binds K a.CD ["thing"] []
 GM:mg "is_time" = some (.ref a.B6)
 GN:zJ K (.ref a.B6)=true
 BV:Fun K "is_below" "is_below" Eh a.Bv a.Cj
 Gf:Binds K a.Cj ["number", "bound"] []
 F5:mg "is_below" = some (.ref a.Bv)
 Ga:zJ K (.ref a.Bv)=true
 Cm:Fun K "is_upto" "is_upto" E7 a.B5 a.CC
 Jb:Binds K a.CC ["number", "bound"] []
 IV:mg "is_upto" = some (.ref a.B5)
 IZ:zJ K (.ref a.B5)=true
 Co:Fun K "is_from" "is_from" E9 a.B7 a.CF
 Jc:Binds K a.CF ["number", "bound"] []
 IW:mg "is_from" = some (.ref a.B7)
 I0:zJ K (.ref a.B7)=true
 BC:Fun K "are_rooms" "are_rooms" CO a.A8 a.B1
 Hy:Binds K a.B1 ["thing"] []
 Ho:mg "are_rooms" = some (.ref a.A8)
 Ht:zJ K (.ref a.A8)=true
 Bc:Fun K "is_meeting" "is_meeting" C4 a.AT a.BG
 G3:Binds K a.BG ["walkers", "thing"] []
 GX:mg "is_meeting" = some (.ref a.AT)
 G0:zJ K (.ref a.AT)=true
 Ai:Fun K "meets_twice_at_once" "meets_twice_at_once" wH a.Af a.Ao
 Dm:Binds K a.Ao ["meetings"] []
 Dj:mg "meets_twice_at_once" = some (.ref a.Af)
 Dk:zJ K (.ref a.Af)=true
 AK:Fun K "lesser_first" "lesser_first" CH a.AB a.A1
 Ge:Binds K a.A1 ["meeting"] []
 F4:mg "lesser_first" = some (.ref a.AB)
 F9:zJ K (.ref a.AB)=true
 By:Fun K "made_book" "made_book" CN a.A4 a.A3
 Hw:Binds K a.A3 ["rooms", "meetings"] []
 Hn:mg "made_book" = some (.ref a.A4)
 Hs:zJ K (.ref a.A4)=true
 Am:Fun K "is_meeting_number" "is_meeting_number" wT a.Ah a.At
 DT:Binds K a.At ["book", "thing"] []
 DR:mg "is_meeting_number" = some (.ref a.Ah)
 DS:zJ K (.ref a.Ah)=true
 BA:Fun K "is_walker" "is_walker" Dv a.A6 a.BZ
 FE:Binds K a.BZ ["book", "thing"] []
 FA:mg "is_walker" = some (.ref a.A6)
 FC:zJ K (.ref a.A6)=true
 AY:Fun K "meetings_of" "meetings_of" Cq a.AG a.Bh
 GA:Binds K a.Bh ["book", "walker"] []
 Gw:mg "meetings_of" = some (.ref a.AG)
 Gy:zJ K (.ref a.AG)=true
 EK:Fun K "ways" "ways" Ic a.DM a.Fk
 Iy:Binds K a.Fk ["book"] []
 Ii:mg "ways" = some (.ref a.DM)
 Ip:zJ K (.ref a.DM)=true
 BO:Fun K "other_at" "other_at" Ed a.Bp a.Cd
 Iz:Binds K a.Cd ["book", "number", "walker"] []
 Ij:mg "other_at" = some (.ref a.Bp)
 Iq:zJ K (.ref a.Bp)=true
 BQ:Fun K "lone_row" "lone_row" C3 a.Br a.Cf
 Er:Binds K a.Cf ["book", "walker", "number"] []
 Ek:mg "lone_row" = some (.ref a.Br)
 En:zJ K (.ref a.Br)=true
 BP:Fun K "need_day" "need_day" C2 a.Bq a.Ce
 Gd:Binds K a.Ce ["book", "day"] []
 F3:mg "need_day" = some (.ref a.Bq)
 F8:zJ K (.ref a.Bq)=true
 Aj:Fun K "first_givings_again" "first_givings_again" wI a.Ag a.Ap
 Bm:Binds K a.Ap ["book", "day", "sender", "since"] []
 Bk:mg "first_givings_again" = some (.ref a.Ag)
 Bl:zJ K (.ref a.Ag)=true
 AZ:Fun K "again_times" "again_times" CQ a.AH a.Bi
 Ec:Binds K a.Bi ["book", "day", "sender", "since"] []
 Ea:mg "again_times" = some (.ref a.AH)
 Eb:zJ K (.ref a.AH)=true
 A0:Fun K "again_chain" "again_chain" CS a.AI a.Bj
 GB:Binds K a.Bj ["book", "day", "sender", "since", "wish"] []
 Gx:mg "again_chain" = some (.ref a.AI)
 Gz:zJ K (.ref a.AI)=true
 Bd:Fun K "hangs_with" "hangs_with" wb a.AU a.BH
 E2:Binds K a.BH ["book", "walker"] []
 EX:mg "hangs_with" = some (.ref a.AU)
 EZ:zJ K (.ref a.AU)=true
 BB:Fun K "is_letter" "is_letter" Dw a.A7 a.B0
 FF:Binds K a.B0 ["book", "thing"] []
 FB:mg "is_letter" = some (.ref a.A7)
 FD:zJ K (.ref a.A7)=true
 BU:Fun K "is_chain" "is_chain" Eg a.Bu a.Ci
 IC:Binds K a.Ci ["book", "letter", "thing"] []
 Im:mg "is_chain" = some (.ref a.Bu)
 Iw:zJ K (.ref a.Bu)=true
 Cp:Fun K "arrival" "arrival" Fa a.B8 a.CG
 Jd:Binds K a.CG ["book", "letter", "chain"] []
 IY:mg "arrival" = some (.ref a.B8)
 Ja:zJ K (.ref a.B8)=true
 AD:Fun K "first_givings" "first_givings" Cs a.Au a.AM
 Di:Binds K a.AM ["book", "sender", "since"] []
 Dg:mg "first_givings" = some (.ref a.Au)
 Dh:zJ K (.ref a.Au)=true
 AA:Fun K "earliest_times" "earliest_times" Cb a.As a.AJ
 Ff:Binds K a.AJ ["book", "sender", "since"] []
 Fd:mg "earliest_times" = some (.ref a.As)
 Fe:zJ K (.ref a.As)=true
 BW:Fun K "earliest" "earliest" Ei a.Bw a.Ck
 Gg:Binds K a.Ck ["book", "letter"] []
 F6:mg "earliest" = some (.ref a.Bw)
 Gb:zJ K (.ref a.Bw)=true
 BR:Fun K "leavings" "leavings" Ee a.Bs a.Cg
 IA:Binds K a.Cg ["book", "wish", "last"] []
 Ik:mg "leavings" = some (.ref a.Bs)
 Ir:zJ K (.ref a.Bs)=true
 Dd:Fun K "waits" "waits" EU a.CP a.DO
 Jq:Binds K a.DO ["book", "day", "walker", "other"] []
 Jo:mg "waits" = some (.ref a.CP)
 Jp:zJ K (.ref a.CP)=true
 AE:Fun K "_law_squeezed" "_law_squeezed" Ct a.Av a.AN
 FO:Binds K a.AN ["_law_purse_here", "_law_book_here"] []
 FK:mg "_law_squeezed" = some (.ref a.Av)
 FM:zJ K (.ref a.Av)=true
 BX:Fun K "_law_day" "_law_day" Ej a.Bx a.Cl
 ID:Binds K a.Cl ["_law_purse_here", "_law_book_here"] []
 Io:mg "_law_day" = some (.ref a.Bx)
 Ix:zJ K (.ref a.Bx)=true
 AL:Fun K "_law_written" "_law_written" CI a.AC a.A2
 Gh:Binds K a.A2 ["_law_book_here", "_law_day_here", "_law_rounds"] []
 F7:mg "_law_written" = some (.ref a.AC)
 Gc:zJ K (.ref a.AC)=true
 Ar:Fun K "_law_times_alike" "_law_times_alike" wY a.Al a.Az
 Et:Binds K a.Az ["_law_again", "_law_once", "_law_end"] []
 Em:mg "_law_times_alike" = some (.ref a.Al)
 Ep:zJ K (.ref a.Al)=true
 Aq:Fun K "_law_waits_right" "_law_waits_right" wB a.Ak a.Ay
 Es:Binds K a.Ay ["_law_two_books", "_law_day_here", "_law_asked", "_law_when"] []
 El:mg "_law_waits_right" = some (.ref a.Ak)
 Eo:zJ K (.ref a.Ak)=true
 Bf:Fun K "_law_right" "_law_right" CB a.AW a.BJ
 G6:Binds K a.BJ ["_law_two_books", "_law_day_here", "_law_rounds", "_law_asked"] []
 GZ:mg "_law_right" = some (.ref a.AW)
 G2:zJ K (.ref a.AW)=true
 FH:Fun K "law" "law" Jm a.E4 a.GP
 Jy:Binds K a.GP ["_law_script"] []
 Jx:mg "law" = some (.ref a.E4)
 k_law:zJ K (.ref a.E4)=true
 b_all:mg "all" = none
 b_any:mg "any" = none
 b_bool:mg "bool" = none
 b_enumerate:mg "enumerate" = none
 b_int:mg "int" = none
 b_isinstance:mg "isinstance" = none
 b_len:mg "len" = none
 b_list:mg "list" = none
 b_max:mg "max" = none
 b_min:mg "min" = none
 b_range:mg "range" = none
 b_set:mg "set" = none
 b_sorted:mg "sorted" = none
 b_tuple:mg "tuple" = none
 b_zip:mg "zip" = none
 t_hd:PySem.W.codeHdIn K a.tC a.tP=true
 t_cd:a.A3.code=.ref a.tC
 c_LAST_TIME:mg "LAST_TIME" = some (.int 1000000000 a_LAST_TIME)
 c_MOST_WALKERS:mg "MOST_WALKERS" = some (.int 12 a_MOST_WALKERS)
 c_MOST_ROOM:mg "MOST_ROOM" = some (.int 99 a_MOST_ROOM)
 c_MOST_MEETINGS:mg "MOST_MEETINGS" = some (.int 60 a_MOST_MEETINGS)
 c_MOST_MANY:mg "MOST_MANY" = some (.int 99 a_MOST_MANY)
 c_LONGEST_DAY:mg "LONGEST_DAY" = some (.int 1000000 a_LONGEST_DAY)
section
variable {P:Program}{w:World}{K:PySem.W.Frag}{mg:Str->Option Value}{base:Heap}{a:Ad}{t_LAST_TIME:Tok}{t_MOST_WALKERS:Tok}{t_MOST_ROOM:Tok}{t_MOST_MEETINGS:Tok}{t_MOST_MANY:Tok}{t_LONGEST_DAY:Tok}
theorem D7:FnScope ["_law_script", "_law_k", "_law_cell", "_law_left"] ["_law_script", "_law_k"] (defScope C6):=⟨rfl,rfl,rfl,by decide +kernel,rfl,by decide +kernel,by decide +kernel⟩
theorem Gv (T:Tx K mg a t_LAST_TIME t_MOST_WALKERS t_MOST_ROOM t_MOST_MEETINGS t_MOST_MANY t_LONGEST_DAY) (B:BmAt mg base):FnOk P w K mg base CX0 1 a.AX a.BK ["_law_script", "_law_k"] (spPurse K):=by
 refine T.Bg.ok D7 (λvs H Q E h=>?_) (λcdv A outer s H vs Q E hr h=>?_)
 ·obtain ⟨a,ns,k,rfl,_⟩:=h;rfl
 ·have nd:=D7.nd
  have hu:=hr.units
  obtain ⟨sa,ns,k,rfl,hS,hk,q⟩:=h
  refine ⟨_,(@xQ _ _ _ (@xU _ _ _ _ _ _ (xT (i:=2) nd rfl (by first | exact Or.inl rfl | exact Or.inr rfl) xL) (@xU _ _ _ _ _ _ (@xj _ _ _ _ _ _ _ _ (@xc _ _ _ _ _ _ _ _ op_lt (pv 1) (xW (xX rfl) (by rfl) T.b_len PySem.boot_len (@xG _ _ _ (@xH _ _ _ _ _ (pv 0) xS rfl))) (nomark _)) (@xQ _ _ _ (@xb _ _ _ (xT (i:=2) nd rfl (by first | exact Or.inl rfl | exact Or.inr rfl) (@xf _ _ _ _ _ _ _ (xi rfl) (pv 0) (pv 1) (λ_ _=>rfl))))) xY) (@xU _ _ _ _ _ _ (xT (i:=3) nd rfl (by first | exact Or.inl rfl | exact Or.inr rfl) xL) (@xU _ _ _ _ _ _ (@xj _ _ _ _ _ _ _ _ (@xc _ _ _ _ _ _ _ _ op_lt (pv 2) xL (nomark _)) (@xQ _ _ _ (@xb _ _ _ (xT (i:=3) nd rfl (by first | exact Or.inl rfl | exact Or.inr rfl) (@xZ _ _ _ _ _ _ _ _ op_sub (@pe_un _ _ _ _ _ _ un_neg xL) (pv 2))))) xY) (@xU _ _ _ _ _ _ (@xj _ _ _ _ _ _ _ _ (@xc _ _ _ _ _ _ _ _ op_ge (pv 2) (@xZ _ _ _ _ _ _ _ _ op_pow xL xL) (nomark _)) (@xQ _ _ _ (@xb _ _ _ (xT (i:=3) nd rfl (by first | exact Or.inl rfl | exact Or.inr rfl) (pv 2)))) xY) (@xb _ _ _ (@xV _ _ _ _ (@wG _ _ _ _ (@xG _ _ _ (@xH _ _ _ _ _ (pv 3) (@xH _ _ _ _ _ (@xZ _ _ _ _ _ _ _ _ op_mod (@xZ _ _ _ _ _ _ _ _ xq (@xZ _ _ _ _ _ _ _ _ xq (@xZ _ _ _ _ _ _ _ _ wW (pv 2) xL) (@xZ _ _ _ _ _ _ _ _ wW (pv 1) xL)) xL) xL) (@xH _ _ _ _ _ xL xS rfl) rfl) rfl))))))))))),?_⟩
  have c18:CPow 10 18:=⟨by decide,by decide,by decide⟩
  have s3:3<=sizeLine:=by rw [sizeLine_eq];decide
  have fin:∀ (x y:Int) p,H p=none->Q (.ref p) (upd H p (.lst [.int x,.int y,.int 0])):=λx y p hp=>q p _ hp ⟨x,y,0,xI⟩ (xK hp)
  have c69:∀ x:Int,CMul x 69:=λx=>.inr ⟨by decide,by decide⟩
  have c405:∀ x:Int,CMul x 40503:=λx=>.inr ⟨by decide,by decide⟩
  refine (zr rfl (zr rfl ⟨sa,zr rfl ⟨.inl hS,zr2 rfl rfl (zr rfl (iteN (fun σ H1=>∃ c:Int,σ=[some (.ref sa),some (.int k),some (.int c),none]/\H=H1) ?_ (λc k0=>?_) (λc=>⟨0,rfl,rfl⟩)))⟩⟩))
  ·rintro σ H1 ⟨c,rfl,rfl⟩
   refine (zr rfl (zr2 rfl rfl (zr rfl (iteN (fun σ H1=>∃ d:Int,σ=[some (.ref sa),some (.int k),some (.int c),some (.int d)]/\H=H1) ?_ (λz k0=>?_) (λz=>⟨0,rfl,rfl⟩)))))
   ·rintro σ H1 ⟨d,rfl,rfl⟩
    refine (zr rfl (zr2 rfl rfl ⟨c18,zr2 rfl rfl (zr rfl (iteN (fun σ H1=>∃ d:Int,σ=[some (.ref sa),some (.int k),some (.int c),some (.int d)]/\H=H1) ?_ (λz k0=>(zr rfl (k0 _ _ ⟨c,rfl,rfl⟩))) (λz=>⟨d,rfl,rfl⟩)))⟩))
    rintro σ H1 ⟨d,rfl,rfl⟩
    exact (zr rfl (zr rfl (zr2 rfl rfl ⟨c69 _,zr rfl (zr2 rfl rfl ⟨c405 _,zr2 rfl rfl (zr2 rfl rfl (zr2 rfl rfl ⟨(by show (0:Int) < 2147483647;decide),s3,fin _ _⟩))⟩)⟩)))
   ·exact (zr rfl (zr rfl (zr2 rfl rfl (k0 _ _ (zr rfl rfl)))))
  ·have hk2:k < ns.length:=by
    have:=of_decide_eq_true c
    rw [zA] at this;omega
   exact (zr rfl (zr rfl ⟨sa,_,zr2 rfl rfl ⟨hS,xr (v:=V.int ns[k]) (by simp [hk2]),k0 _ _ (zr rfl rfl)⟩⟩))
theorem ER:FnScope ["_law_purse_here", "_law_many", "_law_digit", "_law_mixed"] ["_law_purse_here", "_law_many"] (defScope Dx):=⟨rfl,rfl,rfl,by decide +kernel,rfl,by decide +kernel,by decide +kernel⟩
theorem wC (T:Tx K mg a t_LAST_TIME t_MOST_WALKERS t_MOST_ROOM t_MOST_MEETINGS t_MOST_MANY t_LONGEST_DAY) (B:BmAt mg base):FnOk P w K mg base CX0 1 a.A9 a.B2 ["_law_purse_here", "_law_many"] (spTake):=by
 refine T.BD.ok ER (λvs H Q E h=>?_) (λcdv A outer s H vs Q E hr h=>?_)
 ·obtain ⟨p,n,rfl,_⟩:=h;rfl
 ·have nd:=ER.nd
  have hu:=hr.units
  obtain ⟨p,n,rfl,n0,n1,⟨x,y,z,hp⟩,q⟩:=h
  refine ⟨_,(@xQ _ _ _ (@xU _ _ _ _ _ _ (@xj _ _ _ _ _ _ _ _ (@xc _ _ _ _ _ _ _ _ op_gt (@xf _ _ _ _ _ _ _ (xi rfl) (pv 0) xL (λ_ _=>rfl)) xL (nomark _)) (@xQ _ _ _ (@xU _ _ _ _ _ _ (xT (i:=2) nd rfl (by first | exact Or.inl rfl | exact Or.inr rfl) (@xZ _ _ _ _ _ _ _ _ op_mod (@xf _ _ _ _ _ _ _ (xi rfl) (pv 0) xL (λ_ _=>rfl)) (pv 1))) (@xU _ _ _ _ _ _ (xv (@xZ _ _ _ _ _ _ _ _ op_fdivB (@xf _ _ _ _ _ _ _ (xi rfl) (pv 0) xL (λ_ _=>rfl)) (pv 1)) (pg_sub (pv 0) xL set_list)) (@xb _ _ _ (@xV _ _ _ _ (pv 2)))))) xY) (@xU _ _ _ _ _ _ (ps_augS (pv 0) xL (get_list rfl) xL ip_add set_list) (@xU _ _ _ _ _ _ (xT (i:=3) nd rfl (by first | exact Or.inl rfl | exact Or.inr rfl) (@xZ _ _ _ _ _ _ _ _ op_mod (@xZ _ _ _ _ _ _ _ _ wW (@xZ _ _ _ _ _ _ _ _ xq (@xf _ _ _ _ _ _ _ (xi rfl) (pv 0) xL (λ_ _=>rfl)) (@xZ _ _ _ _ _ _ _ _ wW (@xf _ _ _ _ _ _ _ (xi rfl) (pv 0) xL (λ_ _=>rfl)) xL)) xL) xL)) (@xU _ _ _ _ _ _ (xT (i:=3) nd rfl (by first | exact Or.inl rfl | exact Or.inr rfl) (@xZ _ _ _ _ _ _ _ _ op_mod (@xZ _ _ _ _ _ _ _ _ xq (@xZ _ _ _ _ _ _ _ _ xq (@xZ _ _ _ _ _ _ _ _ wW (pv 3) (pv 3)) (@xZ _ _ _ _ _ _ _ _ wW (@xf _ _ _ _ _ _ _ (xi rfl) (pv 0) xL (λ_ _=>rfl)) xL)) (@xf _ _ _ _ _ _ _ (xi rfl) (pv 0) xL (λ_ _=>rfl))) xL)) (@xb _ _ _ (@xV _ _ _ _ (@xZ _ _ _ _ _ _ _ _ op_mod (@xZ _ _ _ _ _ _ _ _ op_fdivB (@xZ _ _ _ _ _ _ _ _ op_mod (@xZ _ _ _ _ _ _ _ _ wW (pv 3) xL) xL) xL) (pv 1))))))))),?_⟩
  have hS:SqL K H p _:=SqL.of hp
  have cm:∀ x c:Int,-(2 ^ 64) < c->c < 2 ^ 64->CMul x c:=λx c h h'=>.inr ⟨h,h'⟩
  refine (zr rfl ⟨p,_,zr2 rfl rfl ⟨hS,rfl,zr2 rfl rfl (zr rfl (iteD (λh1=>?_) λh1=>?_))⟩⟩)
  ·refine (zr rfl ⟨p,_,zr2 rfl rfl ⟨hS,rfl,zr rfl (zr2 rfl rfl ⟨n0,?_⟩)⟩⟩)
   refine (zr rfl ⟨p,_,zr2 rfl rfl ⟨hS,rfl,zr rfl (zr2 rfl rfl ⟨⟨n0,n1⟩,zr rfl ⟨p,_,_,0,rfl,rfl,hp,rfl,?_⟩⟩)⟩⟩)
   exact (zr rfl (q _ _ (yq _ (by omega)) (yX _ n0) ⟨But.set,_,_,_,xI⟩))
  ·refine (zr rfl ⟨p,_,zr2 rfl rfl ⟨hS,rfl,zr2 rfl rfl ⟨p,_,_,2,rfl,rfl,hp,rfl,?_⟩⟩⟩)
   have h2:(upd H p (HO.lst ([V.int x,V.int y,V.int z].set 2 (.int (z + 1))))) p=some (.lst [V.int x,V.int y,V.int (z + 1)]):=xI
   have b2:But p H (upd H p (HO.lst ([V.int x,V.int y,V.int z].set 2 (.int (z + 1))))):=But.set
   generalize upd H p (HO.lst ([V.int x,V.int y,V.int z].set 2 (.int (z + 1))))=H2 at h2 b2 ⊢
   have hS2:SqL K H2 p _:=SqL.of h2
   have big:(2147483647:Int) < 2 ^ 64:=by decide
   have low:-(2:Int) ^ 64 < 0:=by decide
   have pos:(0:Int) < 2147483647:=by decide
   refine (zr rfl ⟨p,_,zr2 rfl rfl ⟨hS2,rfl,zr rfl ⟨p,_,zr2 rfl rfl ⟨hS2,rfl,zr2 rfl rfl ⟨cm _ _ (by decide) (by decide),zr2 rfl rfl (zr2 rfl rfl ⟨cm _ _ (by decide) (by decide),zr2 rfl rfl ⟨(by show (0:Int) < 2147483647;decide),?_⟩⟩)⟩⟩⟩⟩⟩)
   have m0:=yq ((y + (z + 1) * 362437) * 48271) (show (2147483647:Int)≠0 by decide)
   have m1:=yX ((y + (z + 1) * 362437) * 48271) pos
   refine (zr rfl (zr rfl (zr2 rfl rfl ⟨.inl ⟨Int.lt_of_lt_of_le low m0,Int.lt_trans m1 big⟩,zr rfl ⟨p,_,zr2 rfl rfl ⟨hS2,rfl,zr2 rfl rfl ⟨cm _ _ (by decide) (by decide),zr2 rfl rfl (zr rfl ⟨p,_,zr2 rfl rfl ⟨hS2,rfl,zr2 rfl rfl (zr2 rfl rfl ⟨(by show (0:Int) < 2147483629;decide),?_⟩)⟩⟩)⟩⟩⟩⟩)))
   refine (zr rfl (zr2 rfl rfl ⟨cm _ _ (by decide) (by decide),zr2 rfl rfl ⟨(by show (0:Int) < 2147483563;decide),zr2 rfl rfl ⟨⟨by decide,by decide⟩,zr rfl (zr2 rfl rfl ⟨n0,?_⟩)⟩⟩⟩))
   exact q _ _ (yq _ (by omega)) (yX _ n0) ⟨b2,_,_,_,h2⟩
theorem DY:FnScope ["_law_purse_here", "_law_walkers", "_law_rooms_here", "_law_walker", "_law_room"] ["_law_purse_here", "_law_walkers"] (defScope C5):=⟨rfl,rfl,rfl,by decide +kernel,rfl,by decide +kernel,by decide +kernel⟩
theorem Gs (T:Tx K mg a t_LAST_TIME t_MOST_WALKERS t_MOST_ROOM t_MOST_MEETINGS t_MOST_MANY t_LONGEST_DAY) (B:BmAt mg base):FnOk P w K mg base CX0 2 a.AV a.BI ["_law_purse_here", "_law_walkers"] (spRooms):=by
 have Aa:=@wC P w _ _ base _ _ _ _ _ _ _ T B
 refine T.Be.ok DY (λvs H Q E h=>?_) (λcdv A outer s H vs Q E hr h=>?_)
 ·obtain ⟨p,n,rfl,_⟩:=h;rfl
 ·have nd:=DY.nd
  have hu:=hr.units
  obtain ⟨p,n,rfl,hn,hp,q⟩:=h
  refine ⟨_,(@xQ _ _ _ (@xU _ _ _ _ _ _ (xT (i:=2) nd rfl (by first | exact Or.inl rfl | exact Or.inr rfl) (@wG _ _ _ _ wX)) (@xU _ _ _ _ _ _ (wJ PassesOwn.never rfl (pi_range1 rfl T.b_range (@xG _ _ _ (@xH _ _ _ _ _ (pv 1) xS rfl))) (xN (i:=3) nd rfl (by first | exact Or.inl rfl | exact Or.inr rfl)) (@xQ _ _ _ (@xU _ _ _ _ _ _ (xT (i:=4) nd rfl (by first | exact Or.inl rfl | exact Or.inr rfl) (@xZ _ _ _ _ _ _ _ _ op_fdivB (xP Aa (hr.mono (by decide)) rfl T.Ab T.Ac T.Ae .nil pass0 (@xG _ _ _ (@xH _ _ _ _ _ (pv 0) (@xH _ _ _ _ _ xL xS rfl) rfl))) xL)) (@xU _ _ _ _ _ _ (@xj _ _ _ _ _ _ _ _ (@xc _ _ _ _ _ _ _ _ op_eq (pv 4) xL (nomark _)) (@xQ _ _ _ (@xb _ _ _ (xT (i:=4) nd rfl (by first | exact Or.inl rfl | exact Or.inr rfl) (xP Aa (hr.mono (by decide)) rfl T.Ab T.Ac T.Ae .nil pass0 (@xG _ _ _ (@xH _ _ _ _ _ (pv 0) (@xH _ _ _ _ _ xL xS rfl) rfl)))))) xY) (@xb _ _ _ (wP (pe_bm zo zl zm wQ (pv 2) (@xG _ _ _ (@xH _ _ _ _ _ (pv 4) xS rfl))))))))) (@xb _ _ _ (@xV _ _ _ _ (pe_callTy (wE) (by rfl) T.b_tuple zx (@xG _ _ _ (@xH _ _ _ _ _ (pv 2) xS rfl)))))))),?_⟩
  have line:1001<=sizeLine:=by rw [sizeLine_eq];decide
  refine ⟨zT _,λl hl=>?_⟩
  have npl:=hp.ne hl
  refine (zr rfl (zr rfl ⟨by omega,by omega,?_⟩))
  refine for_range (lo:=0) (n:=n) (λi σ H2=>∃ v3 v4 rs,σ=[some (.ref p),some (.int n),some (.ref l),v3,v4]/\H2 l=some (.lst (List.map V.int rs))/\rs.length=i/\(∀ r∈rs,(0:Int)<=r/\r<=99)/\Go p H H2)
   ⟨_,_,[],rfl,xI,rfl,(λ_ z=>nomatch z),(Go.refl hp).new hl⟩ ?_ ?_
  ·rintro i σ H2 hi ⟨v3,v4,rs,rfl,h2,hlen,hr,go⟩
   refine (zr rfl ⟨p,zr rfl ⟨by decide,by decide,go.2,λd H3 d0 d1 g3=>(zr2 rfl rfl ⟨⟨by decide,by decide⟩,?_⟩)⟩⟩)
   refine (zr rfl ⟨rfl,zr rfl (iteN (fun σ H4=>∃ x:Int,σ=[some (.ref p),some (.int n),some (.ref l),some (.int (0 + (i:Int))),some (.int x)]/\0<=x/\x<=99/\Go p H2 H4) ?_ (λc k0=>(zr rfl ⟨p,zr rfl ⟨by decide,by decide,g3.2,λe H4 e0 e1 g4=>k0 _ _ ⟨e,rfl,e0,by omega,g3.trans g4⟩⟩⟩)) (λc=>(zr rfl ⟨by omega,by omega,g3⟩)))⟩)
   rintro σ H4 ⟨x,rfl,x0,x1,g4⟩
   have h4:=g4.1 l _ npl h2
   refine (zr rfl ⟨.inl ⟨rfl,_,SqL.of h4⟩,zr rfl ⟨l,zr2 rfl rfl ⟨h4,by rw [zA];omega,_,_,rs++[x],rfl,by rw [xI,zG];rfl,by simp [hlen],λr hr'=>?_,?_⟩⟩⟩)
   ·rcases zS.mp hr' with h | h
    ·exact hr r h
    ·cases zH.mp h;exact ⟨x0,x1⟩
   ·have g2:=go.trans g4
    refine ⟨λb u nb e=>?_,?_⟩
    ·rw [xO (xJ e hl)];exact g2.1 b u nb e
    ·obtain ⟨a,b,c,e⟩:=g2.2
     exact ⟨a,b,c,by rw [xO npl.symm];exact e⟩
  ·rintro σ H2 ⟨v3,v4,rs,rfl,h2,hlen,hr,go⟩
   exact (zr rfl ⟨l,zr rfl (.inl ⟨SqL.of h2,λt ht=>q t rs _ (go.new ht) xI hlen hr⟩)⟩)
theorem ES:FnScope ["_law_purse_here", "_law_way"] ["_law_purse_here"] (defScope Dy):=⟨rfl,rfl,rfl,by decide +kernel,rfl,by decide +kernel,by decide +kernel⟩
theorem GV (T:Tx K mg a t_LAST_TIME t_MOST_WALKERS t_MOST_ROOM t_MOST_MEETINGS t_MOST_MANY t_LONGEST_DAY) (B:BmAt mg base):FnOk P w K mg base CX0 2 a.Ba a.B3 ["_law_purse_here"] (spStep):=by
 have Aa:=@wC P w _ _ base _ _ _ _ _ _ _ T B
 refine T.BE.ok ES (λvs H Q E h=>?_) (λcdv A outer s H vs Q E hr h=>?_)
 ·obtain ⟨p,rfl,_⟩:=h;rfl
 ·have nd:=ES.nd
  have hu:=hr.units
  obtain ⟨p,rfl,hp,q⟩:=h
  refine ⟨_,(@xQ _ _ _ (@xU _ _ _ _ _ _ (xT (i:=1) nd rfl (by first | exact Or.inl rfl | exact Or.inr rfl) (xP Aa (hr.mono (by decide)) rfl T.Ab T.Ac T.Ae .nil pass0 (@xG _ _ _ (@xH _ _ _ _ _ (pv 0) (@xH _ _ _ _ _ xL xS rfl) rfl)))) (@xU _ _ _ _ _ _ (@xj _ _ _ _ _ _ _ _ (@xc _ _ _ _ _ _ _ _ op_lt (pv 1) xL (nomark _)) (@xQ _ _ _ (@xb _ _ _ (@xV _ _ _ _ (@xf _ _ _ _ _ _ _ (xi rfl) (@wG _ _ _ _ (@xG _ _ _ (@xH _ _ _ _ _ xL (@xH _ _ _ _ _ xL (@xH _ _ _ _ _ xL xS rfl) rfl) rfl))) (pv 1) (λ_ _=>rfl))))) xY) (@xU _ _ _ _ _ _ (@xj _ _ _ _ _ _ _ _ (@xc _ _ _ _ _ _ _ _ op_eq (pv 1) xL (nomark _)) (@xQ _ _ _ (@xb _ _ _ (@xV _ _ _ _ (@xZ _ _ _ _ _ _ _ _ xq xL (xP Aa (hr.mono (by decide)) rfl T.Ab T.Ac T.Ae .nil pass0 (@xG _ _ _ (@xH _ _ _ _ _ (pv 0) (@xH _ _ _ _ _ xL xS rfl) rfl))))))) xY) (@xb _ _ _ (@xV _ _ _ _ (@xZ _ _ _ _ _ _ _ _ xq xL (xP Aa (hr.mono (by decide)) rfl T.Ab T.Ac T.Ae .nil pass0 (@xG _ _ _ (@xH _ _ _ _ _ (pv 0) (@xH _ _ _ _ _ (@xZ _ _ _ _ _ _ _ _ wW xL (@xZ _ _ _ _ _ _ _ _ op_pow xL xL)) xS rfl) rfl)))))))))),?_⟩
  have s3:3<=sizeLine:=by rw [sizeLine_eq];decide
  refine (zr rfl ⟨p,zr rfl ⟨by decide,by decide,hp,λd H1 d0 d1 g1=>(zr rfl (zr2 rfl rfl (zr rfl (iteD (λh1=>?_) λh1=>?_))))⟩⟩)
  ·obtain ⟨v,hv,v0,v1⟩:∃ v:Int,atI [V.int 0,V.int 1,V.int 1] d=some (V.int v)/\0<=v/\v<=1:=by
    obtain rfl | rfl | rfl:d=0\/d=1\/d=2:=by omega
    ·exact ⟨0,rfl,by decide,by decide⟩
    ·exact ⟨1,rfl,by decide,by decide⟩
    ·exact ⟨1,rfl,by decide,by decide⟩
   exact ⟨s3,λl hl=>(zr rfl (ixl xI hv (q _ _ v0 (by omega) (g1.new hl))))⟩
  ·refine (zr rfl ⟨rfl,zr rfl (iteD (λh2=>?_) λh2=>?_)⟩)
   ·exact (zr rfl ⟨p,zr rfl ⟨by decide,by decide,g1.2,λe H2 e0 e1 g2=>(zr2 rfl rfl (q _ _ (by omega) (by omega) (g1.trans g2)))⟩⟩)
   ·have e16:(16:Int) * 10 ^ Int.toNat 6=16000000:=by decide
    refine (zr rfl (zr2 rfl rfl ⟨⟨by decide,by decide,by decide⟩,zr2 rfl rfl ⟨.inl ⟨by decide,by decide⟩,p,zr rfl ⟨by decide,by decide,g1.2,λe H2 e0 e1 g2=>(zr2 rfl rfl (q _ _ (by omega) (by rw [e16] at e1;omega) (g1.trans g2)))⟩⟩⟩))
theorem C0:FnScope ["_law_purse_here", "_law_walkers", "_law_most", "_law_found", "_law_when", "_law_busy", "_law_k", "_law_one", "_law_other", "_law_gap", "_law_passed", "_law_late"] ["_law_purse_here", "_law_walkers", "_law_most"] (defScope wU):=⟨rfl,rfl,rfl,by decide +kernel,rfl,by decide +kernel,by decide +kernel⟩
theorem Fc (T:Tx K mg a t_LAST_TIME t_MOST_WALKERS t_MOST_ROOM t_MOST_MEETINGS t_MOST_MANY t_LONGEST_DAY) (B:BmAt mg base):FnOk P w K mg base CX0 3 a.Aw a.AO ["_law_purse_here", "_law_walkers", "_law_most"] (spMeetings):=by
 have Aa:=@wC P w _ _ base _ _ _ _ _ _ _ T B
 have HZ:=@GV P w _ _ base _ _ _ _ _ _ _ T B
 refine T.AF.ok C0 (λvs H Q E h=>?_) (λcdv A outer s H vs Q E hr h=>?_)
 ·obtain ⟨p,w,n,rfl,_⟩:=h;rfl
 ·have nd:=C0.nd
  have hu:=hr.units
  obtain ⟨p,w,n,rfl,hn,w9,hw,hp,q⟩:=h
  refine ⟨_,(@xQ _ _ _ (@xU _ _ _ _ _ _ (xT (i:=3) nd rfl (by first | exact Or.inl rfl | exact Or.inr rfl) (@wG _ _ _ _ wX)) (@xU _ _ _ _ _ _ (xT (i:=4) nd rfl (by first | exact Or.inl rfl | exact Or.inr rfl) (@xZ _ _ _ _ _ _ _ _ xq xL (@xZ _ _ _ _ _ _ _ _ wW (@xZ _ _ _ _ _ _ _ _ op_fdivB (xP Aa (hr.mono (by decide)) rfl T.Ab T.Ac T.Ae .nil pass0 (@xG _ _ _ (@xH _ _ _ _ _ (pv 0) (@xH _ _ _ _ _ xL xS rfl) rfl))) xL) (xP Aa (hr.mono (by decide)) rfl T.Ab T.Ac T.Ae .nil pass0 (@xG _ _ _ (@xH _ _ _ _ _ (pv 0) (@xH _ _ _ _ _ (@xZ _ _ _ _ _ _ _ _ op_pow xL xL) xS rfl) rfl)))))) (@xU _ _ _ _ _ _ (xT (i:=5) nd rfl (by first | exact Or.inl rfl | exact Or.inr rfl) (@wG _ _ _ _ wX)) (@xU _ _ _ _ _ _ (wJ PassesOwn.never rfl (pi_range1 rfl T.b_range (@xG _ _ _ (@xH _ _ _ _ _ (pv 2) xS rfl))) (xN (i:=6) nd rfl (by first | exact Or.inl rfl | exact Or.inr rfl)) (@xQ _ _ _ (@xU _ _ _ _ _ _ (xT (i:=7) nd rfl (by first | exact Or.inl rfl | exact Or.inr rfl) (xP Aa (hr.mono (by decide)) rfl T.Ab T.Ac T.Ae .nil pass0 (@xG _ _ _ (@xH _ _ _ _ _ (pv 0) (@xH _ _ _ _ _ (pv 1) xS rfl) rfl)))) (@xU _ _ _ _ _ _ (xT (i:=8) nd rfl (by first | exact Or.inl rfl | exact Or.inr rfl) (@xZ _ _ _ _ _ _ _ _ op_mod (@xZ _ _ _ _ _ _ _ _ xq (@xZ _ _ _ _ _ _ _ _ xq (pv 7) xL) (xP Aa (hr.mono (by decide)) rfl T.Ab T.Ac T.Ae .nil pass0 (@xG _ _ _ (@xH _ _ _ _ _ (pv 0) (@xH _ _ _ _ _ (@xZ _ _ _ _ _ _ _ _ op_sub (pv 1) xL) xS rfl) rfl)))) (pv 1))) (@xU _ _ _ _ _ _ (xT (i:=9) nd rfl (by first | exact Or.inl rfl | exact Or.inr rfl) (xP HZ (hr.mono (by decide)) rfl T.Hq T.Hu T.HL .nil pass0 (@xG _ _ _ (@xH _ _ _ _ _ (pv 0) xS rfl)))) (@xU _ _ _ _ _ _ (@xj _ _ _ _ _ _ _ _ (@PW.pt _ _ _ (@pw_or _ _ _ _ _ _ _ (@xc _ _ _ _ _ _ _ _ (op_in_seq' rfl) (pv 7) (pv 5) rfl) (@pw_or1 _ _ _ _ (@xc _ _ _ _ _ _ _ _ (op_in_seq' rfl) (pv 8) (pv 5) rfl)))) (@xQ _ _ _ (@xb _ _ _ (xT (i:=9) nd rfl (by first | exact Or.inl rfl | exact Or.inr rfl) (xW (call_max2 rfl) (by rfl) T.b_max yO (@xG _ _ _ (@xH _ _ _ _ _ xL (@xH _ _ _ _ _ (pv 9) xS rfl) rfl)))))) xY) (@xU _ _ _ _ _ _ (@xj _ _ _ _ _ _ _ _ (@xc _ _ _ _ _ _ _ _ op_gt (pv 9) xL (nomark _)) (@xQ _ _ _ (@xb _ _ _ (xT (i:=5) nd rfl (by first | exact Or.inl rfl | exact Or.inr rfl) (@wG _ _ _ _ wX)))) xY) (@xU _ _ _ _ _ _ (xT (i:=4) nd rfl (by first | exact Or.inl rfl | exact Or.inr rfl) (@xZ _ _ _ _ _ _ _ _ xq (pv 4) (pv 9))) (@xU _ _ _ _ _ _ (xT (i:=5) nd rfl (by first | exact Or.inl rfl | exact Or.inr rfl) (@xZ _ _ _ _ _ _ _ _ op_cat (pv 5) (@wG _ _ _ _ (@xG _ _ _ (@xH _ _ _ _ _ (pv 7) (@xH _ _ _ _ _ (pv 8) xS rfl) rfl))))) (@xU _ _ _ _ _ _ (xT (i:=10) nd rfl (by first | exact Or.inl rfl | exact Or.inr rfl) (@xZ _ _ _ _ _ _ _ _ xq xL (@xZ _ _ _ _ _ _ _ _ op_fdivB (xP Aa (hr.mono (by decide)) rfl T.Ab T.Ac T.Ae .nil pass0 (@xG _ _ _ (@xH _ _ _ _ _ (pv 0) (@xH _ _ _ _ _ xL xS rfl) rfl))) xL))) (@xU _ _ _ _ _ _ (@xj _ _ _ _ _ _ _ _ (@xc _ _ _ _ _ _ _ _ op_eq (xP Aa (hr.mono (by decide)) rfl T.Ab T.Ac T.Ae .nil pass0 (@xG _ _ _ (@xH _ _ _ _ _ (pv 0) (@xH _ _ _ _ _ xL xS rfl) rfl))) xL (nomark _)) (@xQ _ _ _ (@xb _ _ _ (xT (i:=10) nd rfl (by first | exact Or.inl rfl | exact Or.inr rfl) (@xZ _ _ _ _ _ _ _ _ xq xL (xP Aa (hr.mono (by decide)) rfl T.Ab T.Ac T.Ae .nil pass0 (@xG _ _ _ (@xH _ _ _ _ _ (pv 0) (@xH _ _ _ _ _ xL xS rfl) rfl))))))) xY) (@xb _ _ _ (wP (pe_bm zo zl zm wQ (pv 3) (@xG _ _ _ (@xH _ _ _ _ _ (@xo _ _ _ _ _ (@xG _ _ _ (@xH _ _ _ _ _ (pv 4) (@xH _ _ _ _ _ (xW (call_min2 rfl) (by rfl) T.b_min yP (@xG _ _ _ (@xH _ _ _ _ _ (pv 7) (@xH _ _ _ _ _ (pv 8) xS rfl) rfl))) (@xH _ _ _ _ _ (xW (call_max2 rfl) (by rfl) T.b_max yO (@xG _ _ _ (@xH _ _ _ _ _ (pv 7) (@xH _ _ _ _ _ (pv 8) xS rfl) rfl))) (@xH _ _ _ _ _ (pv 10) xS rfl) rfl) rfl) rfl))) xS rfl)))))))))))))))) (@xU _ _ _ _ _ _ (xT (i:=11) nd rfl (by first | exact Or.inl rfl | exact Or.inr rfl) xL) (@xU _ _ _ _ _ _ (@xj _ _ _ _ _ _ _ _ (@PW.pt _ _ _ (@pw_and _ _ _ _ _ _ _ (@xc _ _ _ _ _ _ _ _ op_eq (xP Aa (hr.mono (by decide)) rfl T.Ab T.Ac T.Ae .nil pass0 (@xG _ _ _ (@xH _ _ _ _ _ (pv 0) (@xH _ _ _ _ _ xL xS rfl) rfl))) xL (nomark _)) (@pw_and1 _ _ _ _ (@xc _ _ _ _ _ _ _ _ (op_neNil hu) (pv 3) (@wG _ _ _ _ wX) (nomark _))))) (@xQ _ _ _ (@xb _ _ _ (xT (i:=11) nd rfl (by first | exact Or.inl rfl | exact Or.inr rfl) (@xZ _ _ _ _ _ _ _ _ op_sub (@xZ _ _ _ _ _ _ _ _ op_pow xL xL) (pv 4))))) xY) (@xb _ _ _ (@xV _ _ _ _ (pe_callTy (wE) (by rfl) T.b_tuple zx (@xG _ _ _ (@xH _ _ _ _ _ (pe_comp (own:=["_law_then", "_law_low", "_law_high", "_law_room"]) (caps:=[11]) rfl (show CompScope ["_law_then", "_law_low", "_law_high", "_law_room"] [11] ["_law_purse_here", "_law_walkers", "_law_most", "_law_found", "_law_when", "_law_busy", "_law_k", "_law_one", "_law_other", "_law_gap", "_law_passed", "_law_late"] (defScope wU) _ from ⟨rfl,by decide +kernel,by decide +kernel,by decide +kernel,by decide +kernel⟩) (@xx _ _ _ _ _ rfl (xW (call_sortT) (by rfl) T.b_sorted PyProof.Rows.boot_sorted (@xG _ _ _ (@xH _ _ _ _ _ (pv 3) xS rfl)))) (λ_ _ _ _=>(xh (n:=4) rfl rfl (xM (xN (i:=0) (show List.Nodup (["_law_then", "_law_low", "_law_high", "_law_room", "_law_late"]:List Str) from by decide +kernel) rfl (by first | exact Or.inl rfl | exact Or.inr rfl)) (xM (xN (i:=1) (show List.Nodup (["_law_then", "_law_low", "_law_high", "_law_room", "_law_late"]:List Str) from by decide +kernel) rfl (by first | exact Or.inl rfl | exact Or.inr rfl)) (xM (xN (i:=2) (show List.Nodup (["_law_then", "_law_low", "_law_high", "_law_room", "_law_late"]:List Str) from by decide +kernel) rfl (by first | exact Or.inl rfl | exact Or.inr rfl)) (xM (xN (i:=3) (show List.Nodup (["_law_then", "_law_low", "_law_high", "_law_room", "_law_late"]:List Str) from by decide +kernel) rfl (by first | exact Or.inl rfl | exact Or.inr rfl)) xg)))))) (λ_ _ _ _=>pts_nil) (λ_ _ _ _=>(@xo _ _ _ _ _ (@xG _ _ _ (@xH _ _ _ _ _ (pv 1) (@xH _ _ _ _ _ (pv 2) (@xH _ _ _ _ _ (@xZ _ _ _ _ _ _ _ _ xq (pv 0) (pv 4)) (@xH _ _ _ _ _ (pv 3) xS rfl) rfl) rfl) rfl))))) xS rfl)))))))))))),?_⟩
  have line:1001<=sizeLine:=by rw [sizeLine_eq];decide
  have c7:CPow 10 7:=⟨by decide,by decide,by decide⟩
  have e7:(10:Int) ^ Int.toNat 7=10000000:=by decide
  have e64:(2:Int) ^ 64 > 1000:=by decide
  have e200:(2:Int) ^ 200 > 1000:=by decide
  refine ⟨zT _,λlf hlf=>?_⟩
  have npf:=hp.ne hlf
  have hp1:Purse (upd H lf (.lst [])) p:=hp.new hlf
  refine (zr rfl ⟨p,zr rfl ⟨by decide,by decide,hp1,λd H1 d0 d1 g1=>(zr2 rfl rfl ⟨⟨by decide,by decide⟩,zr rfl (zr2 rfl rfl ⟨c7,?_⟩)⟩)⟩⟩)
  refine ⟨p,zr rfl ⟨by decide,by decide,g1.2,λd2 H2 d20 d21 g2=>(zr2 rfl rfl ⟨.inl ⟨by omega,by omega⟩,zr2 rfl rfl ?_⟩)⟩⟩
  rw [e7] at d21
  refine ⟨zT _,λlb hlb=>?_⟩
  have fr2:=g1.trans g2
  have hlf2:H2 lf=some (.lst []):=fr2.1 lf _ npf xI
  have go0:Go p H H2:=((Go.refl hp).new hlf).trans fr2
  refine (zr rfl (zr rfl ⟨by omega,by omega,?_⟩))
  have wh0:1<=1 + d / 2 * d2/\1 + d / 2 * d2<=10000000:=by
   obtain h | h:d / 2=0\/d / 2=1:=by omega
   ·rw [h];omega
   ·rw [h];omega
  refine for_range (lo:=0) (n:=n) (PvM p lf w n H)
   ⟨_,_,_,_,_,_,lb,[],[],rfl,by rw [xO (xJ hlf2 hlb)];exact hlf2,xI,(xJ hlf2 hlb).symm,go0.2.ne hlb,(λ_ z=>nomatch z),⟨(λ_ z=>nomatch z),.nil,(λ_ z=>nomatch z)⟩,rfl,by simp,wh0.1,(by have:=wh0.2;simpa using this),go0.new hlb⟩ ?_ ?_
  ·rintro i σ H3 hi ⟨v6,v7,v8,v9,v10,wh,lb,bs,fs,rfl,h3f,h3b,nbf,nbp,h3r,F,lenf,lenb,wh1,wh2,go⟩
   have w2:2<=w:=by omega
   refine (zr rfl (zr rfl ⟨p,w,rfl,by omega,by omega,go.2,λone H4 o0 o1 g4=>?_⟩))
   refine (zr rfl (zr2 rfl rfl (zr rfl (zr rfl (zr2 rfl rfl ⟨p,zr rfl ⟨by omega,by omega,g4.2,λx H5 x0 x1 g5=>(zr2 rfl rfl (zr rfl (zr2 rfl rfl ⟨by omega,?_⟩)))⟩⟩)))))
   have ot:=oth_ok o0 o1 x0 x1
   refine (zr rfl ⟨p,rfl,g5.2,λgap H6 gap0 gap1 g6=>?_⟩)
   have g46:=g4.trans (g5.trans g6)
   have hb6:=g46.1 lb _ nbp h3b
   have hf6:=g46.1 lf _ npf h3f
   refine (zr rfl (zr rfl ⟨lb,zr rfl ⟨.inl (SqL.of hb6),rfl,flat_ints bs,zr rfl (iteO (fun σ H7=>∃ gp:Int,σ=[some (.ref p),some (.int w),some (.int n),some (.ref lf),some (.int wh),some (.ref lb),some (.int (0 + (i:Int))),some (.int one),some (.int ((one + 1 + x) % w)),some (.int gp),v10,none]/\H6=H7/\0<=gp/\gp<=16000000/\(gp=0->one ∉ bs/\(one + 1 + x) % w ∉ bs)) ?_ (λc1 k0=>?_) (λc1 k0=>(zr rfl (zr rfl ⟨lb,zr rfl ⟨.inl (SqL.of hb6),rfl,flat_ints bs,zr rfl (iteB (λc2=>?_) (λc2=>?_))⟩⟩))))⟩⟩))
   rotate_left
   ·exact (zr rfl (zr1 rfl (k0 _ _ (zr rfl ⟨rfl,by split <;> omega,by split <;> omega,λz=>by split at z <;> omega⟩))))
   ·exact (zr rfl (zr1 rfl (k0 _ _ (zr rfl ⟨rfl,by split <;> omega,by split <;> omega,λz=>by split at z <;> omega⟩))))
   ·have c1':one ∉ bs:=of_decide_eq_false (inV_ints.symm.trans c1)
    have c2':(one + 1 + x) % w ∉ bs:=of_decide_eq_false (inV_ints.symm.trans c2)
    exact k0 _ _ ⟨gap,rfl,rfl,by omega,by omega,λ_=>⟨c1',c2'⟩⟩
   rintro σ H7 ⟨gp,rfl,rfl,gp0,gp1,hg⟩
   refine (zr rfl (zr2 rfl rfl (zr rfl (iteN (fun σ H7=>∃ ly bz,σ=[some (.ref p),some (.int w),some (.int n),some (.ref lf),some (.int wh),some (.ref ly),some (.int (0 + (i:Int))),some (.int one),some (.int ((one + 1 + x) % w)),some (.int gp),v10,none]/\Go p H3 H7/\H7 ly=some (.lst (List.map V.int bz))/\ly≠p/\bz.length<=2 * i/\∀ z∈bs,gp=0->z∈bz) ?_ (λc3 k0=>⟨zT _,λln hln=>k0 _ _ ⟨ln,[],rfl,g46.new hln,xI,g46.2.ne hln,zT _,λ_ _ z=>by have:=of_decide_eq_true c3;omega⟩⟩) (λc3=>⟨lb,bs,rfl,g46,hb6,nbp,lenb,λ_ z _=>z⟩)))))
   rintro σ H7 ⟨ly,bz,rfl,gy,hyb,nyp,leny,hb0⟩
   have h3f':=gy.1 lf _ npf h3f
   refine (zr rfl (zr rfl (zr2 rfl rfl ?_)))
   refine (zr rfl (zr rfl (zr rfl ⟨by show 2<=sizeLine;omega,λl2 hl2=>?_⟩)))
   have g2':=gy.new (o:=HO.lst [V.int one,V.int ((one + 1 + x) % w)]) hl2
   have hyb2:=xK (o:=HO.lst [V.int one,V.int ((one + 1 + x) % w)]) hl2 _ _ hyb
   have h22:(upd H7 l2 (HO.lst [V.int one,V.int ((one + 1 + x) % w)])) l2=some (.lst [V.int one,V.int ((one + 1 + x) % w)]):=xI
   generalize upd H7 l2 (HO.lst [V.int one,V.int ((one + 1 + x) % w)])=H8 at g2' hyb2 h22 ⊢
   refine ⟨ly,l2,zr2 rfl rfl ⟨hyb2,h22,(by simp only [zA,za,yM];omega),λl3 hl3=>?_⟩⟩
   have n3p:l3≠p:=g2'.2.ne hl3
   have n3f:l3≠lf:=(xJ (g2'.1 lf _ npf h3f) hl3).symm
   have g3':=g2'.new (o:=HO.lst (List.map V.int bz++[V.int one,V.int ((one + 1 + x) % w)])) hl3
   have h3b':(upd H8 l3 (HO.lst (List.map V.int bz++[V.int one,V.int ((one + 1 + x) % w)]))) l3=some (.lst (List.map V.int (bz++[one,(one + 1 + x) % w]))):=by rw [xI,zG];rfl
   generalize upd H8 l3 (HO.lst (List.map V.int bz++[V.int one,V.int ((one + 1 + x) % w)]))=H9 at g3' h3b' ⊢
   refine (zr rfl ⟨p,zr rfl ⟨by decide,by decide,g3'.2,λd4 H10 d40 d41 g10=>(zr2 rfl rfl ⟨⟨by decide,by decide⟩,zr2 rfl rfl ?_⟩)⟩⟩)
   refine (zr rfl ⟨p,zr rfl ⟨by decide,by decide,g10.2,λd5 H11 d50 d51 g11=>⟨rfl,zr rfl (iteN (fun σ H12=>∃ mm:Int,σ=[some (.ref p),some (.int w),some (.int n),some (.ref lf),some (.int (wh + gp)),some (.ref l3),some (.int (0 + (i:Int))),some (.int one),some (.int ((one + 1 + x) % w)),some (.int gp),some (.int mm),none]/\1<=mm/\mm<=99/\Go p H9 H12) ?_ (λc5 k0=>(zr rfl ⟨p,zr rfl ⟨by decide,by decide,g11.2,λd6 H12 d60 d61 g12=>(zr2 rfl rfl (k0 _ _ (zr rfl ⟨by omega,by omega,(g10.trans g11).trans g12⟩)))⟩⟩)) (λc5=>(zr rfl ⟨by omega,by omega,g10.trans g11⟩)))⟩⟩⟩)
   rintro σ H12 ⟨mm,rfl,mm0,mm1,g12⟩
   have gall:=g3'.trans g12
   have hz:=gall.1 lf _ npf h3f
   refine (zr rfl ⟨.inl ⟨rfl,_,SqL.of hz⟩,zr rfl (zr rfl (zr rfl (zr1 rfl (zr rfl (zr rfl (zr1 rfl (zr rfl ⟨by show 4<=sizeLine;omega,λt ht=>⟨lf,zr2 rfl rfl ⟨(by rw [xO (xJ hz ht)];exact hz),(by rw [zA];omega),?_⟩⟩⟩)))))))⟩)
   exact PvM.step npf hlf F lenf (bs':=bz++[one,(one + 1 + x) % w]) (by simp only [zP,za,yM];omega) wh1 wh2 hz (g12.1 l3 _ n3p h3b') n3f n3p (λa ha=>gall.tups go.2 _ _ (h3r a ha)) (go.trans gall) ht gp0 gp1 o0 o1 ot.1 ot.2.1 ot.2.2 mm0 mm1 hg (λz hz1 hz2=>yJ _ (hb0 z hz1 hz2)) (by simp) (by simp)
  ·rintro σ H3 ⟨v6,v7,v8,v9,v10,wh,lb,bs,fs,rfl,h3f,h3b,nbf,nbp,h3r,F,lenf,lenb,wh1,wh2,go⟩
   have c9:CPow 10 9:=⟨by decide,by decide,by decide⟩
   have e9:(10:Int) ^ Int.toNat 9=1000000000:=by decide
   refine (zr rfl ⟨p,zr rfl ⟨by decide,by decide,go.2,λd8 H4 _ _ g4=>⟨rfl,zr rfl (iteA (fun σ H5=>∃ late:Int,(∃ v6 v7 v8 v9 v10,σ=[some (.ref p),some (.int w),some (.int n),some (.ref lf),some (.int wh),some (.ref lb),v6,v7,v8,v9,v10,some (.int late)])/\Go p H3 H5/\0<=late/\(fs≠[]->wh + late<=1000000000)) ?_ (λc k0=>?_) (λc=>⟨0,⟨_,_,_,_,_,rfl⟩,g4,zX _,λ_=>by omega⟩))⟩⟩⟩)
   rotate_left
   ·have h4f:=g4.1 lf _ npf h3f
    refine (zr rfl ⟨zT _,λl4 hl4=>⟨lf,l4,zr rfl ⟨rfl,SqL.of (by rw [xO (xJ h4f hl4)];exact h4f),SqL.of xI,zr rfl (iteB (λc2=>?_) (λc2=>?_))⟩⟩⟩)
    ·exact (zr2 rfl rfl ⟨c9,zr rfl (zr2 rfl rfl (k0 _ _ ⟨_,⟨_,_,_,_,_,rfl⟩,g4.new hl4,by rw [e9];omega,λ_=>by rw [e9];omega⟩))⟩)
    ·exact k0 _ _ ⟨0,⟨_,_,_,_,_,rfl⟩,g4.new hl4,zX _,λ_=>by omega⟩
   rintro σ Hz ⟨late,⟨v6',v7',v8',v9',v10',rfl⟩,gz,L0,L1⟩
   have hz:=gz.1 lf _ npf h3f
   refine (zr rfl ⟨lf,fs.map (λa=>(a.1,a.2.row)),rfl,?_,(by rw [zA];omega),(λa ha=>?_),λD qs hD pq sq=>?_⟩)
   ·rw [zn];exact SqL.of hz
   ·obtain ⟨b,hb,rfl⟩:=zI.mp ha
    exact ⟨gz.tups go.2 _ _ (h3r b hb),by intro z;cases z⟩
   obtain ⟨rs,prs,srs,rfl⟩:=rows_back pq sq
   refine ⟨D,rfl,⟨_,SqL.of xI⟩,?_⟩
   have lrs:rs.length=n:=by rw [prs.length_eq,lenf]
   have hDl:(upd Hz D (HO.lst (List.map (λa=>V.ref a.1) (List.map (λa:Addr×M4=>(a.1,a.2.row)) rs)))) D=some (.lst (rs.map λa=>V.ref a.1)):=by rw [xI,zn];rfl
   have rD:=λa (ha:a∈rs)=>(Tups.new (o:=HO.lst (List.map (λa=>V.ref a.1) (List.map (λa:Addr×M4=>(a.1,a.2.row)) rs))) hD) _ _ (gz.tups go.2 _ _ (h3r a (prs.mem_iff.mp ha)))
   have gD:=(go.trans gz).new (o:=HO.lst (List.map (λa=>V.ref a.1) (List.map (λa:Addr×M4=>(a.1,a.2.row)) rs))) hD
   refine comp_list (K:=K) (a:=D) (xs:=rs.map λa=>V.ref a.1) (λi τ acc H5=>∃ ps:List (Addr×M4),(∃ t0 t1 t2 t3,τ=[t0,t1,t2,t3,some (.int late)])/\acc=(ps.map λa=>V.ref a.1)/\(ps.map (·.2))=((rs.take i).map λa=>a.2.late late)/\RowsAt H5 ps/\Same (upd Hz D (HO.lst (List.map (λa=>V.ref a.1) (List.map (λa:Addr×M4=>(a.1,a.2.row)) rs)))) H5)
    ?_ (by rw [zA];omega) ?_ ?_ ?_
   ·exact ⟨[],⟨_,_,_,_,rfl⟩,rfl,rfl,(λ_ z=>nomatch z),Same.refl _⟩
   ·rintro i τ acc H6 ⟨ps,⟨t0,t1,t2,t3,rfl⟩,rfl,eps,rws,sm⟩
    have:=congrArg List.length eps
    rw [zA,zA,zZ] at this
    exact ⟨by rw [zA];omega,sm.seq (SqL.of hDl)⟩
   ·rintro i x τ acc H5 C hx ⟨ps,⟨t0,t1,t2,t3,rfl⟩,rfl,eps,rws,sm⟩ hC
    obtain ⟨r,hr,rfl⟩:=xl hx
    have hrow:=sm _ _ (rD r (zC hr))
    refine (un4 hrow (zr rfl (zr rfl (zr rfl (zr rfl (zr2 rfl rfl (zr rfl ⟨by show 4<=sizeLine;omega,λt ht=>hC _ _ _ ?_⟩)))))))
    refine ⟨ps++[(t,r.2.late late)],⟨_,_,_,_,rfl⟩,by rw [zG];rfl,by rw [zG,xp hr,zG,eps];rfl,λa ha=>?_,sm.trans (xK ht)⟩
    rcases zS.mp ha with h | h
    ·exact xK ht _ _ (rws a h)
    ·cases zH.mp h
     exact xI
   ·rintro τ acc H6 ⟨ps,⟨t0,t1,t2,t3,rfl⟩,rfl,eps,rws,sm⟩ lt hlt
    refine ⟨lt,zr rfl (.inl ⟨SqL.of xI,λt ht=>q t ps _ (((gD.same sm).new hlt).new ht) xI ((rws.tups (Tups.new hlt)).tups (Tups.new ht)) ?_ ?_⟩)⟩
    ·rw [eps,zA,zf]
     exact F.good (by omega) L0 L1 prs srs
    ·have:=congrArg List.length eps
     rw [zA,zA,zA,zf] at this
     omega
theorem ET:FnScope ["_law_purse_here", "_law_most_walkers", "_law_most_meetings", "_law_walkers", "_law_most"] ["_law_purse_here", "_law_most_walkers", "_law_most_meetings"] (defScope Dz):=⟨rfl,rfl,rfl,by decide +kernel,rfl,by decide +kernel,by decide +kernel⟩
theorem GW (T:Tx K mg a t_LAST_TIME t_MOST_WALKERS t_MOST_ROOM t_MOST_MEETINGS t_MOST_MANY t_LONGEST_DAY) (B:BmAt mg base):FnOk P w K mg base CX0 4 a.Bb a.B4 ["_law_purse_here", "_law_most_walkers", "_law_most_meetings"] (spBook):=by
 have Aa:=@wC P w _ _ base _ _ _ _ _ _ _ T B
 have He:=@Gs P w _ _ base _ _ _ _ _ _ _ T B
 have FU:=@Fc P w _ _ base _ _ _ _ _ _ _ T B
 refine T.BF.ok ET (λvs H Q E h=>?_) (λcdv A outer s H vs Q E hr h=>?_)
 ·obtain ⟨p,a,n,rfl,_⟩:=h;rfl
 ·have nd:=ET.nd
  have hu:=hr.units
  obtain ⟨p,aw,n,rfl,a1,a2,hn,hp,q⟩:=h
  refine ⟨_,(@xQ _ _ _ (@xU _ _ _ _ _ _ (xT (i:=3) nd rfl (by first | exact Or.inl rfl | exact Or.inr rfl) (@xZ _ _ _ _ _ _ _ _ xq xL (xP Aa (hr.mono (by decide)) rfl T.Ab T.Ac T.Ae .nil pass0 (@xG _ _ _ (@xH _ _ _ _ _ (pv 0) (@xH _ _ _ _ _ (pv 1) xS rfl) rfl))))) (@xU _ _ _ _ _ _ (xT (i:=4) nd rfl (by first | exact Or.inl rfl | exact Or.inr rfl) (xW (call_min2 rfl) (by rfl) T.b_min yP (@xG _ _ _ (@xH _ _ _ _ _ (pv 2) (@xH _ _ _ _ _ (xP Aa (hr.mono (by decide)) rfl T.Ab T.Ac T.Ae .nil pass0 (@xG _ _ _ (@xH _ _ _ _ _ (pv 0) (@xH _ _ _ _ _ (@xZ _ _ _ _ _ _ _ _ xq (pv 2) xL) xS rfl) rfl))) xS rfl) rfl)))) (@xU _ _ _ _ _ _ (@xj _ _ _ _ _ _ _ _ (@xc _ _ _ _ _ _ _ _ op_eq (pv 3) xL (nomark _)) (@xQ _ _ _ (@xb _ _ _ (xT (i:=4) nd rfl (by first | exact Or.inl rfl | exact Or.inr rfl) xL))) xY) (@xb _ _ _ (@xV _ _ _ _ (@xo _ _ _ _ _ (@xG _ _ _ (@xH _ _ _ _ _ (xP He (hr.mono (by decide)) rfl T.GY T.G1 T.G5 .nil pass0 (@xG _ _ _ (@xH _ _ _ _ _ (pv 0) (@xH _ _ _ _ _ (pv 3) xS rfl) rfl))) (@xH _ _ _ _ _ (xP FU (hr.mono (by decide)) rfl T.FL T.FN T.FP .nil pass0 (@xG _ _ _ (@xH _ _ _ _ _ (pv 0) (@xH _ _ _ _ _ (pv 3) (@xH _ _ _ _ _ (pv 4) xS rfl) rfl) rfl))) xS rfl) rfl))))))))),?_⟩
  have line:1001<=sizeLine:=by rw [sizeLine_eq];decide
  have e200:(2:Int) ^ 200 > 1000:=by decide
  refine ⟨_,rfl,_,rfl,p,aw,rfl,by omega,by omega,hp,λd H1 d0 d1 g1=>⟨_,_,rfl,rfl,?_⟩⟩
  obtain ⟨k,rfl⟩:=zb d0
  refine ⟨_,rfl,_,rfl,_,rfl,_,_,rfl,rfl,p,_,rfl,by omega,by omega,g1.2,λe H2 e0 e1 g2=>⟨_,_,rfl,?_⟩⟩
  obtain ⟨m,em,hm⟩:∃ m:Nat,(if e < (n:Int) then e else (n:Int))=m/\m<=n:=by
   refine ⟨(if e < (n:Int) then e else (n:Int)).toNat,?_,?_⟩ <;> split <;> omega
  refine ⟨_,rfl,rfl,_,rfl,iteN (fun σ H3=>∃ m:Nat,σ=[some (.ref p),some (.int aw),some (.int n),some (.int (1 + (k:Int))),some (.int m)]/\m<=n/\(m=0\/1<=k)/\Go p H H3) ?_ (λc k0=>k0 _ _ ⟨0,rfl,zT _,.inl rfl,g1.trans g2⟩) (λc=>⟨m,by rw [<-em];rfl,hm,.inr (by
    by_cases hk:k=0
    ·subst hk;exact absurd c (by simp)
    ·omega),g1.trans g2⟩)⟩
  rintro σ H2 ⟨m,rfl,hm,hk,g2⟩
  refine ⟨_,rfl,_,rfl,p,1 + k,by simp,by omega,g2.2,λtr rooms H3 g3 h3 l3 r3=>⟨_,rfl,_,rfl,_,rfl,p,_,m,rfl,by omega,by omega,by omega,g3.2,λtm ps H4 g4 h4 r4 gd l4=>⟨by show 2<=sizeLine;omega,λb hb=>?_⟩⟩⟩
  have h3':=g4.tups g3.2 _ _ h3
  have tn:=Tups.new (o:=HO.tup [V.ref tr,V.ref tm]) hb
  refine q b rooms tr tm ps _ ((g2.trans (g3.trans g4)).new hb) ⟨xI,tn _ _ h3',tn _ _ h4,r4.tups tn⟩ (by omega) (by omega) r3 ?_ (by omega)
  rw [l3]
  simpa using gd
theorem Ft:FnScope ["thing"] ["thing"] (defScope Ef):=⟨rfl,rfl,rfl,by decide +kernel,rfl,by decide +kernel,by decide +kernel⟩
theorem Hj (T:Tx K mg a t_LAST_TIME t_MOST_WALKERS t_MOST_ROOM t_MOST_MEETINGS t_MOST_MANY t_LONGEST_DAY) (B:BmAt mg base):FnOk P w K mg base CX0 1 a.Bt a.Ch ["thing"] (spWhole):=by
 refine T.BS.ok Ft (λvs H Q E h=>?_) (λcdv A outer s H vs Q E hr h=>?_)
 ·obtain ⟨x,t,rfl,_⟩:=h;rfl
 ·have nd:=Ft.nd
  have hu:=hr.units
  obtain ⟨x,t,rfl,ht,k⟩:=h
  refine ⟨_,(@xQ _ _ _ (@xb _ _ _ (@xV _ _ _ _ (@pe_and _ _ _ _ _ _ _ (xW (wN) (by rfl) T.b_isinstance zu (@xG _ _ _ (@xH _ _ _ _ _ (pv 0) (@xH _ _ _ _ _ (pe_bltn (v:=V.ty "int") rfl T.b_int PyProof.Rows.boot_int rfl) xS rfl) rfl))) (@pe_one _ _ _ _ _ (@pe_not _ _ _ _ (xW (wN) (by rfl) T.b_isinstance zu (@xG _ _ _ (@xH _ _ _ _ _ (pv 0) (@xH _ _ _ _ _ (pe_bltn (v:=V.ty "bool") rfl T.b_bool PyProof.Rows.boot_bool rfl) xS rfl) rfl))))))))),?_⟩
  refine (zr rfl ⟨x,t, "int", rfl,ht,.inl rfl,zr rfl ?_⟩)
  rcases tyS_six ht with rfl | rfl | rfl | rfl | rfl | rfl | rfl <;> first | exact iteB0 rfl k | exact iteB1 rfl ⟨_,rfl,x,_, "bool", rfl,ht,.inr (.inl rfl),_,rfl,k⟩
theorem EM:FnScope ["thing", "least", "most"] ["thing", "least", "most"] (defScope Du):=⟨rfl,rfl,rfl,by decide +kernel,rfl,by decide +kernel,by decide +kernel⟩
theorem wS (T:Tx K mg a t_LAST_TIME t_MOST_WALKERS t_MOST_ROOM t_MOST_MEETINGS t_MOST_MANY t_LONGEST_DAY) (B:BmAt mg base):FnOk P w K mg base CX0 2 a.A5 a.BY ["thing", "least", "most"] (spWithin):=by
 have IR:=@Hj P w _ _ base _ _ _ _ _ _ _ T B
 refine T.Bz.ok EM (λvs H Q E h=>?_) (λcdv A outer s H vs Q E hr h=>?_)
 ·obtain ⟨x,t,lo,hi,rfl,_⟩:=h;rfl
 ·have nd:=EM.nd
  have hu:=hr.units
  obtain ⟨x,t,lo,hi,rfl,ht,k⟩:=h
  refine ⟨_,(@xQ _ _ _ (@xb _ _ _ (@xV _ _ _ _ (@pe_and _ _ _ _ _ _ _ (xP IR (hr.mono (by decide)) rfl T.Il T.Iv T.IB .nil pass0 (@xG _ _ _ (@xH _ _ _ _ _ (pv 0) xS rfl))) (@pe_one _ _ _ _ _ (pe_chain op_le op_le (pv 1) (pv 0) (pv 2))))))),?_⟩
  refine (zr rfl ⟨x,t,rfl,ht,zr rfl ?_⟩)
  by_cases h:t = "int"
  ·subst h
   obtain ⟨i,rfl⟩:=tyS_int ht
   refine iteB1 rfl (zr rfl (zr rfl (zr2 rfl rfl (zr rfl ?_))))
   have k:Q (.bl (decide (lo<=i) && decide (i<=hi))) H:=k
   by_cases h1:lo<=i
   ·rw [decide_eq_true h1] at k ⊢
    exact iteB1 rfl (zr rfl (zr2 rfl rfl k))
   ·rw [decide_eq_false h1] at k ⊢
    exact iteB0 rfl k
  ·rw [inB_no ht h] at k
   exact iteB0 (by simpa using h) k
theorem FW:FnScope ["thing"] ["thing"] (defScope E8):=⟨rfl,rfl,rfl,by decide +kernel,rfl,by decide +kernel,by decide +kernel⟩
theorem Ie (T:Tx K mg a t_LAST_TIME t_MOST_WALKERS t_MOST_ROOM t_MOST_MEETINGS t_MOST_MANY t_LONGEST_DAY) (B:BmAt mg base):FnOk P w K mg base CX0 3 a.B6 a.CD ["thing"] (spTime):=by
 have An:=@wS P w _ _ base _ _ _ _ _ _ _ T B
 refine T.Cn.ok FW (λvs H Q E h=>?_) (λcdv A outer s H vs Q E hr h=>?_)
 ·obtain ⟨x,t,rfl,_⟩:=h;rfl
 ·have nd:=FW.nd
  have hu:=hr.units
  obtain ⟨x,t,rfl,ht,k⟩:=h
  refine ⟨_,(@xQ _ _ _ (@xb _ _ _ (@xV _ _ _ _ (xP An (hr.mono (by decide)) rfl T.AQ T.AR T.AS .nil pass0 (@xG _ _ _ (@xH _ _ _ _ _ (pv 0) (@xH _ _ _ _ _ xL (@xH _ _ _ _ _ (pe_glob (v:=V.int 1000000000) rfl T.c_LAST_TIME ⟨_,rfl⟩) xS rfl) rfl) rfl)))))),?_⟩
  exact (zr rfl ⟨x,t,zr1 rfl ⟨ht,k⟩⟩)
theorem Fv:FnScope ["number", "bound"] ["number", "bound"] (defScope Eh):=⟨rfl,rfl,rfl,by decide +kernel,rfl,by decide +kernel,by decide +kernel⟩
theorem Fz (T:Tx K mg a t_LAST_TIME t_MOST_WALKERS t_MOST_ROOM t_MOST_MEETINGS t_MOST_MANY t_LONGEST_DAY) (B:BmAt mg base):FnOk P w K mg base CX0 1 a.Bv a.Cj ["number", "bound"] (spBelow):=by
 refine T.BV.ok Fv (λvs H Q E h=>?_) (λcdv A outer s H vs Q E hr h=>?_)
 ·obtain ⟨o,t,rfl,_⟩:=h;rfl
 ·have nd:=Fv.nd
  have hu:=hr.units
  obtain ⟨o,t,rfl,q⟩:=h
  refine ⟨_,(@xQ _ _ _ (@xb _ _ _ (@xV _ _ _ _ (@pe_and _ _ _ _ _ _ _ (pe_cmp (@pc_notN _ _ _ _ _ (pv 0))) (@pe_one _ _ _ _ _ (@pe_cmpR _ _ _ _ _ _ _ _ op_lt (pv 0) (pv 1) (nomark _))))))),?_⟩
  cases o with
  | none=>exact (zr rfl (zr rfl (iteB0 rfl q)))
  | some y=>exact (zr rfl (zr rfl (iteB1 rfl (zr rfl (zr rfl (zr2 rfl rfl q))))))
theorem FV:FnScope ["number", "bound"] ["number", "bound"] (defScope E7):=⟨rfl,rfl,rfl,by decide +kernel,rfl,by decide +kernel,by decide +kernel⟩
theorem Id (T:Tx K mg a t_LAST_TIME t_MOST_WALKERS t_MOST_ROOM t_MOST_MEETINGS t_MOST_MANY t_LONGEST_DAY) (B:BmAt mg base):FnOk P w K mg base CX0 1 a.B5 a.CC ["number", "bound"] (spUpto):=by
 refine T.Cm.ok FV (λvs H Q E h=>?_) (λcdv A outer s H vs Q E hr h=>?_)
 ·obtain ⟨o,t,rfl,_⟩:=h;rfl
 ·have nd:=FV.nd
  have hu:=hr.units
  obtain ⟨o,t,rfl,q⟩:=h
  refine ⟨_,(@xQ _ _ _ (@xb _ _ _ (@xV _ _ _ _ (@pe_and _ _ _ _ _ _ _ (pe_cmp (@pc_notN _ _ _ _ _ (pv 0))) (@pe_one _ _ _ _ _ (@pe_cmpR _ _ _ _ _ _ _ _ op_le (pv 0) (pv 1) (nomark _))))))),?_⟩
  cases o with
  | none=>exact (zr rfl (zr rfl (iteB0 rfl q)))
  | some y=>exact (zr rfl (zr rfl (iteB1 rfl (zr rfl (zr rfl (zr2 rfl rfl q))))))
theorem FX:FnScope ["number", "bound"] ["number", "bound"] (defScope E9):=⟨rfl,rfl,rfl,by decide +kernel,rfl,by decide +kernel,by decide +kernel⟩
theorem Ig (T:Tx K mg a t_LAST_TIME t_MOST_WALKERS t_MOST_ROOM t_MOST_MEETINGS t_MOST_MANY t_LONGEST_DAY) (B:BmAt mg base):FnOk P w K mg base CX0 1 a.B7 a.CF ["number", "bound"] (spFrom):=by
 refine T.Co.ok FX (λvs H Q E h=>?_) (λcdv A outer s H vs Q E hr h=>?_)
 ·obtain ⟨o,t,rfl,_⟩:=h;rfl
 ·have nd:=FX.nd
  have hu:=hr.units
  obtain ⟨o,t,rfl,q⟩:=h
  refine ⟨_,(@xQ _ _ _ (@xb _ _ _ (@xV _ _ _ _ (@pe_and _ _ _ _ _ _ _ (pe_cmp (@pc_notN _ _ _ _ _ (pv 0))) (@pe_one _ _ _ _ _ (@pe_cmpR _ _ _ _ _ _ _ _ op_ge (pv 0) (pv 1) (nomark _))))))),?_⟩
  cases o with
  | none=>exact (zr rfl (zr rfl (iteB0 rfl q)))
  | some y=>exact (zr rfl (zr rfl (iteB1 rfl (zr rfl (zr rfl (zr2 rfl rfl q))))))
theorem EQ:FnScope ["thing"] ["thing"] (defScope CO):=⟨rfl,rfl,rfl,by decide +kernel,rfl,by decide +kernel,by decide +kernel⟩
theorem GU (T:Tx K mg a t_LAST_TIME t_MOST_WALKERS t_MOST_ROOM t_MOST_MEETINGS t_MOST_MANY t_LONGEST_DAY) (B:BmAt mg base):FnOk P w K mg base CX0 3 a.A8 a.B1 ["thing"] (spAreRooms):=by
 have An:=@wS P w _ _ base _ _ _ _ _ _ _ T B
 refine T.BC.ok EQ (λvs H Q E h=>?_) (λcdv A outer s H vs Q E hr h=>?_)
 ·obtain ⟨p,rooms,rfl,_⟩:=h;rfl
 ·have nd:=EQ.nd
  have hu:=hr.units
  obtain ⟨p,rooms,rfl,hp,h1,h12,hr9,q⟩:=h
  refine ⟨_,(@xQ _ _ _ (@xU _ _ _ _ _ _ (@xj _ _ _ _ _ _ _ _ (@PW.pt _ _ _ (@pw_or _ _ _ _ _ _ _ (@wF _ _ _ _ (xz (xW (wN) (by rfl) T.b_isinstance zu (@xG _ _ _ (@xH _ _ _ _ _ (pv 0) (@xH _ _ _ _ _ (pe_bltn (v:=V.ty "list") rfl T.b_list PyProof.Rows.boot_list rfl) xS rfl) rfl))))) (@pw_or1 _ _ _ _ (@wF _ _ _ _ (pt_chain op_le op_le xL (xW (xX rfl) (by rfl) T.b_len PySem.boot_len (@xG _ _ _ (@xH _ _ _ _ _ (pv 0) xS rfl))) (pe_glob (v:=V.int 12) rfl T.c_MOST_WALKERS ⟨_,rfl⟩)))))) (@xQ _ _ _ (@xb _ _ _ (@xV _ _ _ _ wZ))) xY) (@xb _ _ _ (@xV _ _ _ _ (xW (call_all rfl rfl) (by rfl) T.b_all PyProof.Rows.boot_all (@xG _ _ _ (@xH _ _ _ _ _ (pe_comp (own:=["room"]) (caps:=[]) rfl (show CompScope ["room"] [] ["thing"] (defScope CO) _ from ⟨rfl,by decide +kernel,by decide +kernel,by decide +kernel,by decide +kernel⟩) (@xx _ _ _ _ _ rfl (pv 0)) (λ_ _ _ _=>(xN (i:=0) (show List.Nodup (["room"]:List Str) from by decide +kernel) rfl (by first | exact Or.inl rfl | exact Or.inr rfl))) (λ_ _ _ _=>pts_nil) (λ_ _ _ _=>(xP An (hr.mono (by decide)) rfl T.AQ T.AR T.AS .nil pass0 (@xG _ _ _ (@xH _ _ _ _ _ (pv 0) (@xH _ _ _ _ _ xL (@xH _ _ _ _ _ (pe_glob (v:=V.int 99) rfl T.c_MOST_ROOM ⟨_,rfl⟩) xS rfl) rfl) rfl))))) xS rfl))))))),?_⟩
  have line:=line9
  refine (zr rfl ⟨_, "list", "list", rfl,tyS_lst hp,.inr (.inr (.inl rfl)),zr rfl (iteB0 rfl ?_)⟩)
  simp only [gTup,gCons,gNil,tYes,tBM,rAppend,gSub,tAugS,ipI,rU,rIxL,rIxT,rSetL,tSeq,tAsg,tIfS,tRet,tOp,tUn,rI0,rI,tVar,tC,gName,tCall,tCB,tCons,tNil,tAndV,tOrV,tNotV,tNext,tTest,tB,tNot,tAnd,tOr,tDrop,rEq,rNe,scal,tChain,tTup,tLst,tSl,tNoPart,tPart,cxOf,L2.start,zk,xD,za,yM,Nat.reduceAdd,Nat.reduceSub,List.replicate,yz,List.nil_append,yc,yK,yC,Option.some.injEq,exists_eq_left',exists_eq_left,exists_and_left,and_assoc,V.int.injEq,V.ty.injEq,V.str.injEq,V.bl.injEq,V.ref.injEq,List.cons.injEq,and_true,true_and,yY,yZ]
  refine ⟨_,.inl (SqL.of hp),iteB1 (decide_eq_true (by rw [zA];omega)) (iteB0 (by rw [decide_eq_true (by rw [zA];omega)];rfl) ?_)⟩
  refine (zr rfl ⟨p,rfl,⟨_,SqL.of hp⟩,?_⟩)
  refine comp_list (K:=K) (a:=p) (xs:=rooms.map V.int) (λi τ acc H5=>(∃ t0,τ=[t0])/\acc=(List.replicate i true).map V.bl/\H5=H) ⟨⟨_,rfl⟩,rfl,rfl⟩ (by rw [zA];omega) ?_ ?_ ?_
  ·rintro i τ acc H5 ⟨⟨t0,rfl⟩,rfl,rfl⟩
   exact ⟨by simp,SqL.of hp⟩
  ·rintro i x τ acc H5 C hx ⟨⟨t0,rfl⟩,rfl,rfl⟩ hC
   obtain ⟨r,hr,rfl⟩:=xl hx
   have snoc:(List.replicate i true).map V.bl++[V.bl true]=(List.replicate (i + 1) true).map V.bl:=by
    rw [List.replicate_succ',zG];rfl
   obtain ⟨r0,r1⟩:=hr9 r (zC hr)
   have e:inB 0 99 (.int r)=true:=by simp [inB,r0,r1]
   refine (zr rfl ⟨.int r, "int", 0,99,rfl,rfl,?_⟩)
   rw [e]
   exact hC _ _ _ ⟨⟨_,rfl⟩,snoc,rfl⟩
  ·rintro τ acc H5 ⟨⟨t0,rfl⟩,rfl,rfl⟩ lc hlc
   refine ⟨lc,rfl,_,SqL.of xI,?_⟩
   have:=q _ (xK (o:=HO.lst ((List.replicate (rooms.map V.int).length true).map V.bl)) hlc)
   have a:(List.replicate (rooms.map V.int).length true).all id=true:=by simp
   rw [a]
   exact this
theorem DW:FnScope ["walkers", "thing", "one", "other", "when", "many"] ["walkers", "thing"] (defScope C4):=⟨rfl,rfl,rfl,by decide +kernel,rfl,by decide +kernel,by decide +kernel⟩
theorem Gq (T:Tx K mg a t_LAST_TIME t_MOST_WALKERS t_MOST_ROOM t_MOST_MEETINGS t_MOST_MANY t_LONGEST_DAY) (B:BmAt mg base):FnOk P w K mg base CX0 3 a.AT a.BG ["walkers", "thing"] (spIsMeet):=by
 have An:=@wS P w _ _ base _ _ _ _ _ _ _ T B
 refine T.Bc.ok DW (λvs H Q E h=>?_) (λcdv A outer s H vs Q E hr h=>?_)
 ·obtain ⟨w,t,r,rfl,_⟩:=h;rfl
 ·have nd:=DW.nd
  have hu:=hr.units
  obtain ⟨w,t,r,rfl,ht,⟨a1,a2,a3,a4,a5,a6,a7,a8,a9⟩,q⟩:=h
  refine ⟨_,(@xQ _ _ _ (@xU _ _ _ _ _ _ (@xj _ _ _ _ _ _ _ _ (@PW.pt _ _ _ (@pw_or _ _ _ _ _ _ _ (@wF _ _ _ _ (xz (xW (wN) (by rfl) T.b_isinstance zu (@xG _ _ _ (@xH _ _ _ _ _ (pv 1) (@xH _ _ _ _ _ (pe_bltn (v:=V.ty "tuple") rfl T.b_tuple zx rfl) xS rfl) rfl))))) (@pw_or1 _ _ _ _ (@xc _ _ _ _ _ _ _ _ op_ne (xW (xX rfl) (by rfl) T.b_len PySem.boot_len (@xG _ _ _ (@xH _ _ _ _ _ (pv 1) xS rfl))) xL (nomark _))))) (@xQ _ _ _ (@xb _ _ _ (@xV _ _ _ _ wZ))) xY) (@xU _ _ _ _ _ _ (xv (pv 1) (xh (n:=4) rfl rfl (xM (xN (i:=2) nd rfl (by first | exact Or.inl rfl | exact Or.inr rfl)) (xM (xN (i:=3) nd rfl (by first | exact Or.inl rfl | exact Or.inr rfl)) (xM (xN (i:=4) nd rfl (by first | exact Or.inl rfl | exact Or.inr rfl)) (xM (xN (i:=5) nd rfl (by first | exact Or.inl rfl | exact Or.inr rfl)) xg)))))) (@xU _ _ _ _ _ _ (@xj _ _ _ _ _ _ _ _ (@PW.pt _ _ _ (@pw_or _ _ _ _ _ _ _ (@wF _ _ _ _ (xz (xP An (hr.mono (by decide)) rfl T.AQ T.AR T.AS .nil pass0 (@xG _ _ _ (@xH _ _ _ _ _ (pv 2) (@xH _ _ _ _ _ xL (@xH _ _ _ _ _ (@xZ _ _ _ _ _ _ _ _ op_sub (pv 0) xL) xS rfl) rfl) rfl))))) (@pw_or1 _ _ _ _ (@wF _ _ _ _ (xz (xP An (hr.mono (by decide)) rfl T.AQ T.AR T.AS .nil pass0 (@xG _ _ _ (@xH _ _ _ _ _ (pv 3) (@xH _ _ _ _ _ xL (@xH _ _ _ _ _ (@xZ _ _ _ _ _ _ _ _ op_sub (pv 0) xL) xS rfl) rfl) rfl)))))))) (@xQ _ _ _ (@xb _ _ _ (@xV _ _ _ _ wZ))) xY) (@xb _ _ _ (@xV _ _ _ _ (@pe_and _ _ _ _ _ _ _ (@pe_cmpR _ _ _ _ _ _ _ _ op_ne (pv 2) (pv 3) (nomark _)) (@pe_and _ _ _ _ _ _ _ (xP An (hr.mono (by decide)) rfl T.AQ T.AR T.AS .nil pass0 (@xG _ _ _ (@xH _ _ _ _ _ (pv 4) (@xH _ _ _ _ _ xL (@xH _ _ _ _ _ (pe_glob (v:=V.int 1000000000) rfl T.c_LAST_TIME ⟨_,rfl⟩) xS rfl) rfl) rfl))) (@pe_one _ _ _ _ _ (xP An (hr.mono (by decide)) rfl T.AQ T.AR T.AS .nil pass0 (@xG _ _ _ (@xH _ _ _ _ _ (pv 5) (@xH _ _ _ _ _ xL (@xH _ _ _ _ _ (pe_glob (v:=V.int 99) rfl T.c_MOST_MANY ⟨_,rfl⟩) xS rfl) rfl) rfl)))))))))))),?_⟩
  have ht':H t=some (.tup [.int r.lo,.int r.hi,.int r.t,.int r.m]):=ht
  have e1:inB 0 (w - 1) (.int r.lo)=true:=by
   have:r.lo<=w - 1:=by omega
   simp [inB,a1,this]
  have e2:inB 0 (w - 1) (.int r.hi)=true:=by
   have:r.hi<=w - 1:=by omega
   simp [inB,a3,this]
  have e3:inB 1 1000000000 (.int r.t)=true:=by simp [inB,a6,a7]
  have e4:inB 1 99 (.int r.m)=true:=by simp [inB,a8,a9]
  refine (zr rfl ⟨_, "tuple", "tuple", rfl,tyS_tup ht',.inr (.inr (.inr rfl)),zr rfl (iteB0 rfl ?_)⟩)
  refine (zr rfl ⟨t,zr rfl ⟨.inr (SqT.of ht'),rfl,zr rfl (iteB0 rfl ?_)⟩⟩)
  refine (zr rfl (un4 ht' ?_))
  refine (zr rfl (zr rfl (zr2 rfl rfl ⟨.int r.lo, "int", zr2 rfl rfl (zr rfl ?_)⟩)))
  rw [e1]
  refine iteB0 rfl (zr rfl (zr rfl (zr2 rfl rfl ⟨.int r.hi, "int", zr2 rfl rfl (zr rfl ?_)⟩)))
  rw [e2]
  refine iteB0 rfl (zr rfl (zr rfl ⟨rfl,zr rfl (iteB1 (by simp [a5]) (zr rfl ⟨.int r.t, "int", zr2 rfl rfl (zr rfl ?_)⟩))⟩))
  rw [e3]
  refine iteB1 rfl (zr rfl ⟨.int r.m, "int", zr2 rfl rfl ?_⟩)
  rw [e4]
  exact q
theorem B9:FnScope ["meetings", "seen", "one", "other", "when", "many"] ["meetings"] (defScope wH):=⟨rfl,rfl,rfl,by decide +kernel,rfl,by decide +kernel,by decide +kernel⟩
theorem C7 (T:Tx K mg a t_LAST_TIME t_MOST_WALKERS t_MOST_ROOM t_MOST_MEETINGS t_MOST_MANY t_LONGEST_DAY) (B:BmAt mg base):FnOk P w K mg base CX0 1 a.Af a.Ao ["meetings"] (spTwice):=by
 refine T.Ai.ok B9 (λvs H Q E h=>?_) (λcdv A outer s H vs Q E hr h=>?_)
 ·obtain ⟨l,fs,w,rfl,_⟩:=h;rfl
 ·have nd:=B9.nd
  have hu:=hr.units
  obtain ⟨l,fs,w0,rfl,hL,raw,q⟩:=h
  refine ⟨_,(@xQ _ _ _ (@xU _ _ _ _ _ _ (xT (i:=1) nd rfl (by first | exact Or.inl rfl | exact Or.inr rfl) (pe_callTy0 call_setNew (by rfl) T.b_set PyProof.Rows.boot_set)) (@xU _ _ _ _ _ _ (wJ PassesOwn.never rfl (@xx _ _ _ _ _ rfl (pv 0)) (xh (n:=4) rfl rfl (xM (xN (i:=2) nd rfl (by first | exact Or.inl rfl | exact Or.inr rfl)) (xM (xN (i:=3) nd rfl (by first | exact Or.inl rfl | exact Or.inr rfl)) (xM (xN (i:=4) nd rfl (by first | exact Or.inl rfl | exact Or.inr rfl)) (xM (xN (i:=5) nd rfl (by first | exact Or.inl rfl | exact Or.inr rfl)) xg))))) (@xQ _ _ _ (@xU _ _ _ _ _ _ (@xj _ _ _ _ _ _ _ _ (@PW.pt _ _ _ (@pw_or _ _ _ _ _ _ _ (@xc _ _ _ _ _ _ _ _ (op_inS hu) (@xo _ _ _ _ _ (@xG _ _ _ (@xH _ _ _ _ _ (pv 2) (@xH _ _ _ _ _ (pv 4) xS rfl) rfl))) (pv 1) rfl) (@pw_or1 _ _ _ _ (@xc _ _ _ _ _ _ _ _ (op_inS hu) (@xo _ _ _ _ _ (@xG _ _ _ (@xH _ _ _ _ _ (pv 3) (@xH _ _ _ _ _ (pv 4) xS rfl) rfl))) (pv 1) rfl)))) (@xQ _ _ _ (@xb _ _ _ (@xV _ _ _ _ wZ))) xY) (@xU _ _ _ _ _ _ (wP (pe_bmS PySem.F.slot_set_add PySem.F.type_set_add (mt_addS hu) (pv 1) (@xG _ _ _ (@xH _ _ _ _ _ (@xo _ _ _ _ _ (@xG _ _ _ (@xH _ _ _ _ _ (pv 2) (@xH _ _ _ _ _ (pv 4) xS rfl) rfl))) xS rfl)))) (@xb _ _ _ (wP (pe_bmS PySem.F.slot_set_add PySem.F.type_set_add (mt_addS hu) (pv 1) (@xG _ _ _ (@xH _ _ _ _ _ (@xo _ _ _ _ _ (@xG _ _ _ (@xH _ _ _ _ _ (pv 3) (@xH _ _ _ _ _ (pv 4) xS rfl) rfl))) xS rfl))))))))) (@xb _ _ _ (@xV _ _ _ _ wZ))))),?_⟩
  have line:=line9
  have n60:fs.length<=60:=by have:=raw.few;rw [zA] at this;exact this
  refine ⟨rfl,λsp hsp=>?_⟩
  refine (zr rfl ⟨l,rfl,⟨_,(xK hsp).seq (SqL.of hL.1)⟩,?_⟩)
  refine for_list (K:=K) (a:=l) (xs:=fs.map λa=>V.ref a.1) (λi σ H5=>∃ xs:List (Addr×List Int),(∃ v2 v3 v4 v5,σ=[some (.ref l),some (.ref sp),v2,v3,v4,v5])/\Same H H5/\H5 sp=some (setO P w sp xs)/\(∀ e∈xs,H5 e.1=some (.tup (e.2.map V.int)))/\xs.length<=2 * i/\∀ e∈xs,∃ j,j < i/\∃ r,fs[j]?=some r/\(e.2=[r.2.lo,r.2.t]\/e.2=[r.2.hi,r.2.t])) ?_ ?_ ?_ ?_
  ·exact ⟨[],⟨_,_,_,_,rfl⟩,xK hsp,xI,(λ_ z=>nomatch z),zT _,λ_ z=>nomatch z⟩
  ·rintro i σ H5 _ ⟨xs,_,sm,_⟩
   exact sm.seq (SqL.of hL.1)
  ·rintro i x σ H5 hx ⟨xs,⟨v2,v3,v4,v5,rfl⟩,sm,hs,hk,few,old⟩
   obtain ⟨r,hr,rfl⟩:=xl hx
   have hi:i < fs.length:=(zB.mp hr).1
   have hrow:H5 r.1=some (.tup [.int r.2.lo,.int r.2.hi,.int r.2.t,.int r.2.m]):=sm _ _ (hL.2 r (zC hr))
   have fresh:∀ k,(k=[r.2.lo,r.2.t]\/k=[r.2.hi,r.2.t])->k ∉ xs.map (·.2):=λk hk2 z=>by
    obtain ⟨e,he,rfl⟩:=zI.mp z
    obtain ⟨j,hj,r',hr',h⟩:=old e he
    have hj':j < fs.length:=by omega
    have ap:(fs.map (·.2))[j]'(by rw [zA];exact hj')=r'.2/\(fs.map (·.2))[i]'(by rw [zA];exact hi)=r.2:=by
     constructor
     ·have:=(zB.mp hr').2
      rw [List.getElem_map,this]
     ·have:=(zB.mp hr).2
      rw [List.getElem_map,this]
    have pw:=zW.mp raw.pw j i (by rw [zA];exact hj') (by rw [zA];exact hi) hj
    rw [ap.1,ap.2] at pw
    have apt:r'.2.t=r.2.t->apart r'.2 r.2:=pw
    rcases h with h | h <;> rcases hk2 with hk2 | hk2 <;> (rw [h] at hk2;injection hk2 with q1 q2;injection q2 with q2 _;have:=apt q2;unfold apart at this;omega)
   refine (un4 hrow ?_)
   have nsp:∀ {t:Addr} {H9:Hp}{o:HO},H9 sp=some o->H9 t=none->t≠sp:=λa b z=>by rw [z,a] at b;cases b
   refine (zr rfl (zr rfl ⟨by show 2<=sizeLine;omega,λt1 ht1=>(zr rfl ⟨sp,xs,t1,[r.2.lo,r.2.t],rfl,rfl,?_,xI,λe he=>xK ht1 _ _ (hk e he),zr rfl ?_⟩)⟩))
   ·rw [xO (nsp hs ht1).symm];exact hs
   rw [decide_eq_false (fresh _ (.inl rfl))]
   have s1:=xK (o:=HO.tup [V.int r.2.lo,V.int r.2.t]) ht1
   have hs1:=s1 _ _ hs
   have hk1:=λe he=>s1 _ _ (hk e he)
   generalize upd H5 t1 (HO.tup [V.int r.2.lo,V.int r.2.t])=H6 at *
   refine iteB0 rfl (zr rfl (zr rfl ⟨by show 2<=sizeLine;omega,λt2 ht2=>(zr rfl ⟨sp,xs,t2,[r.2.hi,r.2.t],rfl,rfl,xK ht2 _ _ hs1,xI,λe he=>xK ht2 _ _ (hk1 e he),zr rfl ?_⟩)⟩))
   rw [decide_eq_false (fresh _ (.inr rfl))]
   have s2:=s1.trans (xK (o:=HO.tup [V.int r.2.hi,V.int r.2.t]) ht2)
   have hs2:=xK (o:=HO.tup [V.int r.2.hi,V.int r.2.t]) ht2 _ _ hs1
   have hk2:=λe he=>xK (o:=HO.tup [V.int r.2.hi,V.int r.2.t]) ht2 _ _ (hk1 e he)
   generalize upd H6 t2 (HO.tup [V.int r.2.hi,V.int r.2.t])=H7 at *
   refine iteB0 rfl ?_
   have ne:r.2.lo≠r.2.hi:=(raw.each r.2 (zI.mpr ⟨r,zC hr,rfl⟩)).2.2.2.2.1
   refine (zr rfl ⟨⟨sp,xs,rfl,hs2⟩,zr rfl (zr rfl ⟨by show 2<=sizeLine;omega,λt3 ht3=>⟨sp,xs,t3,[r.2.lo,r.2.t],rfl,rfl,xK ht3 _ _ hs2,xI,λe he=>xK ht3 _ _ (hk2 e he),by omega,λz=>absurd z (fresh _ (.inl rfl)),λ_=>?_⟩⟩)⟩)
   have s3:=(sm.trans s2).trans (xK (o:=HO.tup [V.int r.2.lo,V.int r.2.t]) ht3)
   have s3':=Same.put (o:=setO P w sp (xs++[(t3,[r.2.lo,r.2.t])])) hsp s3
   have n3:t3≠sp:=λz=>by rw [z,hs2] at ht3;cases ht3
   have hk3:∀ e∈xs++[(t3,[r.2.lo,r.2.t])],upd (upd H7 t3 (HO.tup [V.int r.2.lo,V.int r.2.t])) sp (setO P w sp (xs++[(t3,[r.2.lo,r.2.t])])) e.1=some (.tup (e.2.map V.int)):=λe he=>by
    rcases zS.mp he with h | h
    ·have h1:=hk2 e h
     rw [xO (wa h1 hs2 (by intro z;cases z))]
     exact xK ht3 _ _ h1
    ·cases zH.mp h
     show upd (upd H7 t3 _) sp _ t3=_
     rw [xO n3];exact xI
   have hs8:upd (upd H7 t3 (HO.tup [V.int r.2.lo,V.int r.2.t])) sp (setO P w sp (xs++[(t3,[r.2.lo,r.2.t])])) sp=some (setO P w sp (xs++[(t3,[r.2.lo,r.2.t])])):=xI
   refine (zr rfl ⟨⟨sp,zr rfl hs8⟩,zr rfl (zr rfl ⟨by show 2<=sizeLine;omega,λt4 ht4=>⟨sp,xs++[(t3,[r.2.lo,r.2.t])],t4,[r.2.hi,r.2.t],rfl,rfl,xK ht4 _ _ hs8,xI,λe he=>xK ht4 _ _ (hk3 e he),by rw [zP,ze];omega,λz=>?_,λ_=>?_⟩⟩)⟩)
   ·exfalso
    rw [zG] at z
    rcases zS.mp z with z | z
    ·exact fresh _ (.inr rfl) z
    ·have z:=zH.mp z
     injection z with z _
     exact ne z.symm
   have n4:t4≠sp:=λz=>by subst z;exact absurd (hs8.symm.trans ht4) (by intro h;cases h)
   refine ⟨xs++[(t3,[r.2.lo,r.2.t])]++[(t4,[r.2.hi,r.2.t])],⟨_,_,_,_,rfl⟩,Same.put hsp (s3'.trans (xK ht4)),xI,λe he=>?_,by rw [zP,zP,ze,ze];omega,λe he=>?_⟩
   ·rcases zS.mp he with h | h
    ·have h1:=hk3 e h
     rw [xO (wa h1 hs8 (by intro z;cases z))]
     exact xK ht4 _ _ h1
    ·cases zH.mp h
     show upd (upd _ t4 _) sp _ t4=_
     rw [xO n4];exact xI
   ·rcases zS.mp he with h | h
    ·rcases zS.mp h with h | h
     ·obtain ⟨j,hj,r',hr',e'⟩:=old e h
      exact ⟨j,by omega,r',hr',e'⟩
     ·cases zH.mp h
      exact ⟨i,by omega,r,hr,.inl rfl⟩
    ·cases zH.mp h
     exact ⟨i,by omega,r,hr,.inr rfl⟩
  ·rintro σ H5 ⟨xs,⟨v2,v3,v4,v5,rfl⟩,sm,_⟩
   exact q _ sm
theorem De:FnScope ["meeting", "one", "other", "when", "many"] ["meeting"] (defScope CH):=⟨rfl,rfl,rfl,by decide +kernel,rfl,by decide +kernel,by decide +kernel⟩
theorem FI (T:Tx K mg a t_LAST_TIME t_MOST_WALKERS t_MOST_ROOM t_MOST_MEETINGS t_MOST_MANY t_LONGEST_DAY) (B:BmAt mg base):FnOk P w K mg base CX0 1 a.AB a.A1 ["meeting"] (spLsrF):=by
 refine T.AK.ok De (λvs H Q E h=>?_) (λcdv A outer s H vs Q E hr h=>?_)
 ·obtain ⟨t,r,rfl,_⟩:=h;rfl
 ·have nd:=De.nd
  have hu:=hr.units
  obtain ⟨t,r,rfl,ht,q⟩:=h
  refine ⟨_,(@xQ _ _ _ (@xU _ _ _ _ _ _ (xv (pv 0) (xh (n:=4) rfl rfl (xM (xN (i:=1) nd rfl (by first | exact Or.inl rfl | exact Or.inr rfl)) (xM (xN (i:=2) nd rfl (by first | exact Or.inl rfl | exact Or.inr rfl)) (xM (xN (i:=3) nd rfl (by first | exact Or.inl rfl | exact Or.inr rfl)) (xM (xN (i:=4) nd rfl (by first | exact Or.inl rfl | exact Or.inr rfl)) xg)))))) (@xb _ _ _ (@xV _ _ _ _ (@xo _ _ _ _ _ (@xG _ _ _ (@xH _ _ _ _ _ (xW (call_min2 rfl) (by rfl) T.b_min yP (@xG _ _ _ (@xH _ _ _ _ _ (pv 1) (@xH _ _ _ _ _ (pv 2) xS rfl) rfl))) (@xH _ _ _ _ _ (xW (call_max2 rfl) (by rfl) T.b_max yO (@xG _ _ _ (@xH _ _ _ _ _ (pv 1) (@xH _ _ _ _ _ (pv 2) xS rfl) rfl))) (@xH _ _ _ _ _ (pv 3) (@xH _ _ _ _ _ (pv 4) xS rfl) rfl) rfl) rfl))))))),?_⟩
  have line:=line9
  have ht':H t=some (.tup [.int r.lo,.int r.hi,.int r.t,.int r.m]):=ht
  simp only [gTup,gCons,gNil,tYes,tBM,rAppend,gSub,tAugS,ipI,rU,rIxL,rIxT,rSetL,tSeq,tAsg,tIfS,tRet,tOp,tUn,rI0,rI,tVar,tC,gName,tCall,tCB,tCons,tNil,tAndV,tOrV,tNotV,tNext,tTest,tB,tNot,tAnd,tOr,tDrop,rEq,rNe,scal,tChain,tTup,tLst,tSl,tNoPart,tPart,cxOf,L2.start,zk,xD,za,yM,Nat.reduceAdd,Nat.reduceSub,List.replicate,yz,List.nil_append,yc,yK,yC,Option.some.injEq,exists_eq_left',exists_eq_left,exists_and_left,and_assoc,V.int.injEq,V.ty.injEq,V.str.injEq,V.bl.injEq,V.ref.injEq,List.cons.injEq,and_true,true_and,yY,yZ]
  refine ⟨_,SqT.of ht',rfl,zr1 rfl (zr1 rfl (zr1 rfl (zr2 rfl rfl (zr rfl (zr rfl (zr rfl (zr rfl ⟨by omega,λp hp=>?_⟩)))))))⟩
  have e1:(if r.hi < r.lo then r.hi else r.lo)=min r.lo r.hi:=by split <;> omega
  have e2:(if r.hi > r.lo then r.hi else r.lo)=max r.lo r.hi:=by split <;> omega
  rw [e1,e2]
  exact q p _ (xK hp) xI
theorem EL:FnScope ["rooms", "meetings", "meeting", "told"] ["rooms", "meetings"] (defScope CN):=⟨rfl,rfl,rfl,by decide +kernel,rfl,by decide +kernel,by decide +kernel⟩
theorem GS (T:Tx K mg a t_LAST_TIME t_MOST_WALKERS t_MOST_ROOM t_MOST_MEETINGS t_MOST_MANY t_LONGEST_DAY) (B:BmAt mg base):FnOk P w K mg base CX0 4 a.A4 a.A3 ["rooms", "meetings"] (spMade a.tP lamPos):=by
 have HY:=@GU P w _ _ base _ _ _ _ _ _ _ T B
 have Hd:=@Gq P w _ _ base _ _ _ _ _ _ _ T B
 have Dq:=@C7 P w _ _ base _ _ _ _ _ _ _ T B
 have Gm:=@FI P w _ _ base _ _ _ _ _ _ _ T B
 refine T.By.okC T.t_cd EL (λvs H Q E h=>?_) (λA outer s H vs Q E hr h=>?_)
 ·obtain ⟨_,_,_,_,rfl,_⟩:=h;rfl
 ·have nd:=EL.nd
  have hu:=hr.units
  obtain ⟨pr,pm,rooms,fs,rfl,hp,h1,h12,hr9,hL,raw,mt,q⟩:=h
  refine ⟨_,(@xQ _ _ _ (@xU _ _ _ _ _ _ (@xj _ _ _ _ _ _ _ _ (@wF _ _ _ _ (xz (xP HY (hr.mono (by decide)) rfl T.Ho T.Ht T.Hy .nil pass0 (@xG _ _ _ (@xH _ _ _ _ _ (pv 0) xS rfl))))) (@xQ _ _ _ (@xb _ _ _ ps_never)) xY) (@xU _ _ _ _ _ _ (@xj _ _ _ _ _ _ _ _ (@PW.pt _ _ _ (@pw_or _ _ _ _ _ _ _ (@wF _ _ _ _ (xz (xW (wN) (by rfl) T.b_isinstance zu (@xG _ _ _ (@xH _ _ _ _ _ (pv 1) (@xH _ _ _ _ _ (pe_bltn (v:=V.ty "list") rfl T.b_list PyProof.Rows.boot_list rfl) xS rfl) rfl))))) (@pw_or1 _ _ _ _ (@xc _ _ _ _ _ _ _ _ op_gt (xW (xX rfl) (by rfl) T.b_len PySem.boot_len (@xG _ _ _ (@xH _ _ _ _ _ (pv 1) xS rfl))) (pe_glob (v:=V.int 60) rfl T.c_MOST_MEETINGS ⟨_,rfl⟩) (nomark _))))) (@xQ _ _ _ (@xb _ _ _ ps_never)) xY) (@xU _ _ _ _ _ _ (wJ PassesOwn.never rfl (@xx _ _ _ _ _ rfl (pv 1)) (xN (i:=2) nd rfl (by first | exact Or.inl rfl | exact Or.inr rfl)) (@xQ _ _ _ (@xb _ _ _ (@xj _ _ _ _ _ _ _ _ (@wF _ _ _ _ (xz (xP Hd (hr.mono (by decide)) rfl T.GX T.G0 T.G3 .nil pass0 (@xG _ _ _ (@xH _ _ _ _ _ (xW (xX rfl) (by rfl) T.b_len PySem.boot_len (@xG _ _ _ (@xH _ _ _ _ _ (pv 0) xS rfl))) (@xH _ _ _ _ _ (pv 2) xS rfl) rfl))))) (@xQ _ _ _ (@xb _ _ _ ps_never)) xY)))) (@xU _ _ _ _ _ _ (@xj _ _ _ _ _ _ _ _ (xz (xP Dq (hr.mono (by decide)) rfl T.Dj T.Dk T.Dm .nil pass0 (@xG _ _ _ (@xH _ _ _ _ _ (pv 1) xS rfl)))) (@xQ _ _ _ (@xb _ _ _ ps_never)) xY) (@xU _ _ _ _ _ _ (ps_setComp (ix:=3) nd rfl (by first | exact Or.inl rfl | exact Or.inr rfl) (own:=["meeting"]) (caps:=[]) rfl (show CompScope ["meeting"] [] ["rooms", "meetings", "meeting", "told"] (defScope CN) _ from ⟨rfl,by decide +kernel,by decide +kernel,by decide +kernel,by decide +kernel⟩) (@xx _ _ _ _ _ rfl (pv 1)) (λ_ _ _ _=>(xN (i:=0) (show List.Nodup (["meeting"]:List Str) from by decide +kernel) rfl (by first | exact Or.inl rfl | exact Or.inr rfl))) (λ_ _ _ _=>pts_nil) (λ_ _ _ _=>(xP Gm (hr.mono (by decide)) rfl T.F4 T.F9 T.Ge .nil pass0 (@xG _ _ _ (@xH _ _ _ _ _ (pv 0) xS rfl))))) (@xb _ _ _ (@xV _ _ _ _ (@xo _ _ _ _ _ (@xG _ _ _ (@xH _ _ _ _ _ (pe_callTy (wE) (by rfl) T.b_tuple zx (@xG _ _ _ (@xH _ _ _ _ _ (pv 0) xS rfl))) (@xH _ _ _ _ _ (pe_callTy (wE) (by rfl) T.b_tuple zx (@xG _ _ _ (@xH _ _ _ _ _ (pe_sortKey (N:=["row"]) (pn := "row") (ok:=(λl=>l.length=4)) (kf:=keyF) rfl T.b_sorted rfl T.t_hd B rfl rfl (hr.mono (by decide)) ⟨rfl,rfl,rfl,by decide +kernel,rfl,by decide +kernel,by decide +kernel⟩ (λ_ _ _ _=>rfl) keyF_ne (λ_ _ _ _ _=>⟨_,(@xo _ _ _ _ _ (@xG _ _ _ (@xH _ _ _ _ _ (@xf _ _ _ _ _ _ _ (xa rfl) (pv 0) xL (λ_ _=>rfl)) (@xH _ _ _ _ _ (@xf _ _ _ _ _ _ _ (xa rfl) (pv 0) xL (λ_ _=>rfl)) xS rfl) rfl))),(by intro a r h ho;simp only [gTup,gCons,gNil,tYes,tBM,rAppend,gSub,tAugS,ipI,rU,rIxL,rIxT,rSetL,tSeq,tAsg,tIfS,tRet,tOp,tUn,rI0,rI,tVar,tC,gName,tCall,tCB,tCons,tNil,tAndV,tOrV,tNotV,tNext,tTest,tB,tNot,tAnd,tOr,tDrop,rEq,rNe,scal,tChain,tTup,tLst,tSl,tNoPart,tPart,cxOf,L2.start,zk,xD,za,yM,Nat.reduceAdd,Nat.reduceSub,List.replicate,yz,List.nil_append,yc,yK,yC,Option.some.injEq,exists_eq_left',exists_eq_left,exists_and_left,and_assoc,V.int.injEq,V.ty.injEq,V.str.injEq,V.bl.injEq,V.ref.injEq,List.cons.injEq,and_true,true_and,yY,yZ];exact lam_key h ho)⟩) (pv 3) rfl) xS rfl))) xS rfl) rfl))))))))))),?_⟩
  have line:=line9
  have n60:fs.length<=60:=by have:=raw.few;rw [zA] at this;exact this
  refine (zr rfl ⟨pr,rooms,rfl,hp,h1,h12,hr9,λH1 s1=>(zr rfl (iteB0 rfl ?_))⟩)
  refine (zr rfl ⟨_, "list", "list", rfl,tyS_lst (s1 _ _ hL.1),.inr (.inr (.inl rfl)),zr rfl (iteB0 rfl ?_)⟩)
  refine (zr rfl ⟨pm,zr rfl ⟨.inl (SqL.of (s1 _ _ hL.1)),zr2 rfl rfl (zr rfl (iteB0 (decide_eq_false (by rw [zA];omega)) ?_))⟩⟩)
  refine (zr rfl ⟨pm,rfl,⟨_,SqL.of (s1 _ _ hL.1)⟩,?_⟩)
  refine for_list (K:=K) (a:=pm) (xs:=fs.map λa=>V.ref a.1) (λi σ H5=>(∃ v2,σ=[some (.ref pr),some (.ref pm),v2,none])/\H1=H5) ⟨⟨_,rfl⟩,rfl⟩ ?_ ?_ ?_
  ·rintro i σ H5 _ ⟨_,rfl⟩
   exact SqL.of (s1 _ _ hL.1)
  ·rintro i x σ H5 hx ⟨⟨v2,rfl⟩,rfl⟩
   obtain ⟨r,hr,rfl⟩:=xl hx
   have hm:=zC hr
   refine (zr rfl ⟨pr,zr rfl ⟨.inl (SqL.of (s1 _ _ hp)),zr rfl ⟨_,r.1,r.2,rfl,s1 _ _ (hL.2 r hm),?_,zr rfl (iteB0 rfl ⟨⟨_,rfl⟩,rfl⟩)⟩⟩⟩)
   rw [zA]
   exact raw.each r.2 (zI.mpr ⟨r,hm,rfl⟩)
  rintro σ H5 ⟨⟨v2,rfl⟩,rfl⟩
  refine (zr rfl ⟨pm,fs,zr rfl ⟨hL.same s1,raw,λH2 s2=>(zr rfl (iteB0 rfl ?_))⟩⟩)
  have s12:=s1.trans s2
  refine (zr rfl ⟨pm,rfl,⟨_,SqL.of (s12 _ _ hL.1)⟩,?_⟩)
  refine comp_list (K:=K) (a:=pm) (xs:=fs.map λa=>V.ref a.1) (λi τ acc H5=>∃ ts:List (Addr×M4),(∃ t0,τ=[t0])/\acc=(ts.map λa=>V.ref a.1)/\ts.map (·.2)=(fs.take i).map (λa=>a.2.norm)/\RowsAt H5 ts/\Same H H5) ⟨[],⟨_,rfl⟩,rfl,rfl,(λ_ z=>nomatch z),s12⟩ (by rw [zA];omega) ?_ ?_ ?_
  ·rintro i τ acc H5 ⟨ts,⟨t0,rfl⟩,rfl,ets,rw5,sm⟩
   have:=congrArg List.length ets
   rw [zA,zA,zZ] at this
   exact ⟨by rw [zA];omega,SqL.of (sm _ _ hL.1)⟩
  ·rintro i x τ acc H5 C hx ⟨ts,⟨t0,rfl⟩,rfl,ets,rw5,sm⟩ hC
   obtain ⟨r,hr,rfl⟩:=xl hx
   refine (zr rfl ⟨r.1,r.2,rfl,sm _ _ (hL.2 r (zC hr)),λt' H6 s6 ht'=>hC _ _ _ ⟨ts++[(t',r.2.norm)],⟨_,rfl⟩,by rw [zG];rfl,by rw [zG,xp hr,zG,ets];rfl,λa ha=>?_,sm.trans s6⟩⟩)
   rcases zS.mp ha with h | h
   ·exact s6 _ _ (rw5 a h)
   ·cases zH.mp h
    exact ht'
  rintro τ acc H5 ⟨ts,⟨t0,rfl⟩,rfl,ets,rw5,sm⟩ lt hlt
  rw [zA,zf] at ets
  have lts:ts.length=fs.length:=by have:=congrArg List.length ets;rwa [zA,zA] at this
  have sn:=xK (o:=HO.lst (ts.map λa=>V.ref a.1)) hlt
  have h6:upd H5 lt (HO.lst (ts.map λa=>V.ref a.1)) lt=some (.lst (ts.map λa=>V.ref a.1)):=xI
  have s6:=sm.trans sn
  have rw6:=rw5.tups (Tups.same sn)
  generalize upd H5 lt (HO.lst (ts.map λa=>V.ref a.1))=H6 at *
  refine (zr rfl ⟨pr,zr rfl (.inl ⟨SqL.of (s6 _ _ hp),λtr htr=>?_⟩)⟩)
  have s7:=xK (o:=HO.tup (rooms.map V.int)) htr
  have h7r:upd H6 tr (HO.tup (rooms.map V.int)) tr=some (.tup (rooms.map V.int)):=xI
  have rw7:=rw6.tups (Tups.same s7)
  have h7:=s7 _ _ h6
  generalize upd H6 tr (HO.tup (rooms.map V.int))=H7 at *
  have m7:=L2.MT.same mt (s6.trans s7)
  refine (zr rfl ⟨lt,ts.map (λa=>(a.1,a.2.ints)),rfl,by rw [zn];exact h7,by rw [zA];omega,m7,λx hx=>?_,λl qs H8 hl8 b8 m8 h8 pm8 so8=>?_⟩)
  ·obtain ⟨y,hy,rfl⟩:=zI.mp hx
   exact ⟨rw7 y hy,rfl⟩
  obtain ⟨ps,pps,sps,rfl⟩:=keyed_back pm8 so8
  have gd:Good rooms.length (ps.map (·.2)):=by
   refine Loose.good2 ?_ pps sps
   have:=raw.loose
   rw [zn] at this
   rw [ets];exact this
  refine ⟨l,zr rfl (.inl ⟨SqL.of h8,λtm htm=>⟨by show 2<=sizeLine;omega,λb hb=>?_⟩⟩)⟩
  have neT:∀ x u,H7 x=some u->(∀ ys,u≠.tbl ys)->x≠a.tP:=λx u e n z=>by
   rcases m7 with m | ⟨_,m,_⟩ <;> (rw [z,m] at e;cases e;exact n _ rfl)
  have s9:=(xK (o:=HO.tup (List.map (λa=>V.ref a.1) (List.map (λa:Addr×M4=>(a.1,a.2.ints)) ps))) htm).trans (xK (o:=HO.tup [V.ref tr,V.ref tm]) hb)
  refine q b tr tm ps _ (λx u n e=>s9 _ _ (b8 x u n (s7 _ _ (s6 _ _ e)))) (L2.MT.same m8 s9) ⟨xI,s9 _ _ (b8 _ _ (neT _ _ h7r (by intro ys z;cases z)) h7r),?_,λx hx=>?_⟩ gd ?_
  ·rw [xO (xJ xI hb),xI,zn];rfl
  ·have h0:=rw7 x (pps.mem_iff.mp hx)
   exact s9 _ _ (b8 _ _ (neT _ _ h0 (by intro ys z;cases z)) h0)
  ·have:=pps.map (·.2)
   rw [ets] at this
   exact this
theorem Cr:FnScope ["book", "thing"] ["book", "thing"] (defScope wT):=⟨rfl,rfl,rfl,by decide +kernel,rfl,by decide +kernel,by decide +kernel⟩
theorem DB (T:Tx K mg a t_LAST_TIME t_MOST_WALKERS t_MOST_ROOM t_MOST_MEETINGS t_MOST_MANY t_LONGEST_DAY) (B:BmAt mg base):FnOk P w K mg base CX0 3 a.Ah a.At ["book", "thing"] (spIsMeetNo):=by
 have An:=@wS P w _ _ base _ _ _ _ _ _ _ T B
 refine T.Am.ok Cr (λvs H Q E h=>?_) (λcdv A outer s H vs Q E hr h=>?_)
 ·obtain ⟨b,x,t,_,_,_,_,rfl,_⟩:=h;rfl
 ·have nd:=Cr.nd
  have hu:=hr.units
  obtain ⟨b,x,t,rooms,tr,tm,ps,rfl,hb,ht,q⟩:=h
  refine ⟨_,(@xQ _ _ _ (@xb _ _ _ (@xV _ _ _ _ (xP An (hr.mono (by decide)) rfl T.AQ T.AR T.AS .nil pass0 (@xG _ _ _ (@xH _ _ _ _ _ (pv 1) (@xH _ _ _ _ _ xL (@xH _ _ _ _ _ (@xZ _ _ _ _ _ _ _ _ op_sub (xW (xX rfl) (by rfl) T.b_len PySem.boot_len (@xG _ _ _ (@xH _ _ _ _ _ (@xf _ _ _ _ _ _ _ (xa rfl) (pv 0) xL (λ_ _=>rfl)) xS rfl))) xL) xS rfl) rfl) rfl)))))),?_⟩
  refine (zr rfl (zr rfl (ixt hb.book rfl ⟨tm,zr rfl ⟨.inr (SqT.of hb.meets),zr2 rfl rfl ⟨x,t,zr1 rfl ⟨ht,?_⟩⟩⟩⟩)))
  rw [zA]
  exact q
theorem EN:FnScope ["book", "thing"] ["book", "thing"] (defScope Dv):=⟨rfl,rfl,rfl,by decide +kernel,rfl,by decide +kernel,by decide +kernel⟩
theorem GT (T:Tx K mg a t_LAST_TIME t_MOST_WALKERS t_MOST_ROOM t_MOST_MEETINGS t_MOST_MANY t_LONGEST_DAY) (B:BmAt mg base):FnOk P w K mg base CX0 3 a.A6 a.BZ ["book", "thing"] (spIsWalker):=by
 have An:=@wS P w _ _ base _ _ _ _ _ _ _ T B
 refine T.BA.ok EN (λvs H Q E h=>?_) (λcdv A outer s H vs Q E hr h=>?_)
 ·obtain ⟨b,x,t,_,_,_,_,rfl,_⟩:=h;rfl
 ·have nd:=EN.nd
  have hu:=hr.units
  obtain ⟨b,x,t,rooms,tr,tm,ps,rfl,hb,ht,q⟩:=h
  refine ⟨_,(@xQ _ _ _ (@xb _ _ _ (@xV _ _ _ _ (xP An (hr.mono (by decide)) rfl T.AQ T.AR T.AS .nil pass0 (@xG _ _ _ (@xH _ _ _ _ _ (pv 1) (@xH _ _ _ _ _ xL (@xH _ _ _ _ _ (@xZ _ _ _ _ _ _ _ _ op_sub (xW (xX rfl) (by rfl) T.b_len PySem.boot_len (@xG _ _ _ (@xH _ _ _ _ _ (@xf _ _ _ _ _ _ _ (xa rfl) (pv 0) xL (λ_ _=>rfl)) xS rfl))) xL) xS rfl) rfl) rfl)))))),?_⟩
  refine (zr rfl (zr rfl (ixt hb.book rfl ⟨tr,zr rfl ⟨.inr (SqT.of hb.rooms),zr2 rfl rfl ⟨x,t,zr1 rfl ⟨ht,?_⟩⟩⟩⟩)))
  rw [zA]
  exact q
theorem Dr:FnScope ["book", "walker"] ["book", "walker"] (defScope Cq):=⟨rfl,rfl,rfl,by decide +kernel,rfl,by decide +kernel,by decide +kernel⟩
theorem FZ (T:Tx K mg a t_LAST_TIME t_MOST_WALKERS t_MOST_ROOM t_MOST_MEETINGS t_MOST_MANY t_LONGEST_DAY) (B:BmAt mg base):FnOk P w K mg base CX0 1 a.AG a.Bh ["book", "walker"] (spMeetingsOf):=by
 refine T.AY.ok Dr (λvs H Q E h=>?_) (λcdv A outer s H vs Q E hr h=>?_)
 ·obtain ⟨b,w,_,_,_,_,rfl,_⟩:=h;rfl
 ·have nd:=Dr.nd
  have hu:=hr.units
  obtain ⟨b,w,rooms,tr,tm,ps,rfl,hb,hn,q⟩:=h
  refine ⟨_,(@xQ _ _ _ (@xb _ _ _ (@xV _ _ _ _ (pe_comp (own:=["number", "meeting"]) (caps:=[1]) rfl (show CompScope ["number", "meeting"] [1] ["book", "walker"] (defScope Cq) _ from ⟨rfl,by decide +kernel,by decide +kernel,by decide +kernel,by decide +kernel⟩) (pi_enumT rfl rfl T.b_enumerate (@xG _ _ _ (@xH _ _ _ _ _ (@xf _ _ _ _ _ _ _ (xa rfl) (pv 0) xL (λ_ _=>rfl)) xS rfl))) (λ_ _ _ _=>(xh (n:=2) rfl rfl (xM (xN (i:=0) (show List.Nodup (["number", "meeting", "walker"]:List Str) from by decide +kernel) rfl (by first | exact Or.inl rfl | exact Or.inr rfl)) (xM (xN (i:=1) (show List.Nodup (["number", "meeting", "walker"]:List Str) from by decide +kernel) rfl (by first | exact Or.inl rfl | exact Or.inr rfl)) xg)))) (λ_ _ _ _=>pts_one (@xc _ _ _ _ _ _ _ _ (op_in_seq' rfl) (pv 2) (@pe_slice _ _ _ _ _ _ _ _ _ _ (sl_tup' rfl) (pv 1) po_none (@po_some _ _ _ xL)) rfl)) (λ_ _ _ _=>(pv 0)))))),?_⟩
  refine (zr rfl (ixt hb.book rfl ⟨tm,rfl,⟨_,SqT.of hb.meets⟩,?_⟩))
  refine comp_enumT (K:=K) (a:=tm) (xs:=ps.map λa=>V.ref a.1) (λi τ acc H5=>(∃ t0 t1,τ=[t0,t1,some (.int w)])/\acc=(numsTo (ps.map (·.2)) w i).map V.int/\Same H H5)
   ?_ (by rw [zA];omega) ?_ ?_ ?_
  ·exact ⟨⟨_,_,rfl⟩,rfl,Same.refl _⟩
  ·rintro i τ acc H5 ⟨⟨t0,t1,rfl⟩,rfl,sm⟩
   exact ⟨by rw [zA];exact numsTo_len _ _ _,SqT.of (sm _ _ hb.meets)⟩
  ·rintro i x q' τ acc H5 C hx hq ⟨⟨t0,t1,rfl⟩,rfl,sm⟩ hC
   obtain ⟨r,hr,rfl⟩:=xl hx
   have hrow:upd H5 q' (.tup [.int i,V.ref r.1]) r.1=some (.tup r.2.vs):=xK hq _ _ (sm _ _ (hb.rows r (zC hr)))
   have hm:(ps.map (·.2))[i]?=some r.2:=by rw [zR,hr];rfl
   refine (un2 xI ?_)
   simp only [gTup,gCons,gNil,tYes,tBM,rAppend,gSub,tAugS,ipI,rU,rIxL,rIxT,rSetL,tSeq,tAsg,tIfS,tRet,tOp,tUn,rI0,rI,tVar,tC,gName,tCall,tCB,tCons,tNil,tAndV,tOrV,tNotV,tNext,tTest,tB,tNot,tAnd,tOr,tDrop,rEq,rNe,scal,tChain,tTup,tLst,tSl,tNoPart,tPart,cxOf,L2.start,zk,xD,za,yM,Nat.reduceAdd,Nat.reduceSub,List.replicate,yz,List.nil_append,yc,yK,yC,Option.some.injEq,exists_eq_left',exists_eq_left,exists_and_left,and_assoc,V.int.injEq,V.ty.injEq,V.str.injEq,V.bl.injEq,V.ref.injEq,List.cons.injEq,and_true,true_and,yY,yZ]
   refine ⟨r.1,zr rfl ⟨SqT.of hrow,(by show ¬ (HT.sIx 4 0 none=0/\HT.sIx 4 4 (some 2)=4);decide),λp2 hp2=>⟨p2,[.int r.2.lo,.int r.2.hi],rfl,.inr (SqT.of xI),rfl,rfl,zr rfl (iteB (λc=>hC _ _ _ ?_) (λc=>hC _ _ _ ?_))⟩⟩⟩
   ·exact ⟨⟨_,_,rfl⟩,by rw [numsTo_yes hm (inV_two.symm.trans c),zG];rfl,(sm.trans (xK hq)).trans (xK hp2)⟩
   ·exact ⟨⟨_,_,rfl⟩,by rw [numsTo_no hm (inV_two.symm.trans c)],(sm.trans (xK hq)).trans (xK hp2)⟩
  ·rintro τ acc H5 ⟨⟨t0,t1,rfl⟩,rfl,sm⟩ l hl
   rw [zA] at *
   exact q l _ (sm.free hl) (sm.trans (xK hl)) xI
theorem IU:FnScope ["book", "told", "number", "one", "other", "when", "many"] ["book"] (defScope Ic):=⟨rfl,rfl,rfl,by decide +kernel,rfl,by decide +kernel,by decide +kernel⟩
theorem GR (T:Tx K mg a t_LAST_TIME t_MOST_WALKERS t_MOST_ROOM t_MOST_MEETINGS t_MOST_MANY t_LONGEST_DAY) (B:BmAt mg base):FnOk P w K mg base CX0 1 a.DM a.Fk ["book"] (spWays):=by
 refine T.EK.ok IU (λvs H Q E h=>?_) (λcdv A outer s H vs Q E hr h=>?_)
 ·obtain ⟨b,_,_,_,_,rfl,_⟩:=h;rfl
 ·have nd:=IU.nd
  have hu:=hr.units
  obtain ⟨b,rooms,tr,tm,ps,rfl,hb,gd,q⟩:=h
  refine ⟨_,(@xQ _ _ _ (@xU _ _ _ _ _ _ (xT (i:=1) nd rfl (by first | exact Or.inl rfl | exact Or.inr rfl) (@wG _ _ _ _ wX)) (@xU _ _ _ _ _ _ (wJ PassesOwn.never rfl (pi_enumT rfl rfl T.b_enumerate (@xG _ _ _ (@xH _ _ _ _ _ (@xf _ _ _ _ _ _ _ (xa rfl) (pv 0) xL (λ_ _=>rfl)) xS rfl))) (xh (n:=2) rfl rfl (xM (xN (i:=2) nd rfl (by first | exact Or.inl rfl | exact Or.inr rfl)) (xM (xh (n:=4) rfl rfl (xM (xN (i:=3) nd rfl (by first | exact Or.inl rfl | exact Or.inr rfl)) (xM (xN (i:=4) nd rfl (by first | exact Or.inl rfl | exact Or.inr rfl)) (xM (xN (i:=5) nd rfl (by first | exact Or.inl rfl | exact Or.inr rfl)) (xM (xN (i:=6) nd rfl (by first | exact Or.inl rfl | exact Or.inr rfl)) xg))))) xg))) (@xQ _ _ _ (@xU _ _ _ _ _ _ (wP (pe_bm zo zl zm wQ (pv 1) (@xG _ _ _ (@xH _ _ _ _ _ (@xo _ _ _ _ _ (@xG _ _ _ (@xH _ _ _ _ _ (pv 2) (@xH _ _ _ _ _ (pv 3) (@xH _ _ _ _ _ (pv 4) (@xH _ _ _ _ _ (pv 5) xS rfl) rfl) rfl) rfl))) xS rfl)))) (@xb _ _ _ (wP (pe_bm zo zl zm wQ (pv 1) (@xG _ _ _ (@xH _ _ _ _ _ (@xo _ _ _ _ _ (@xG _ _ _ (@xH _ _ _ _ _ (pv 2) (@xH _ _ _ _ _ (pv 4) (@xH _ _ _ _ _ (pv 3) (@xH _ _ _ _ _ (pv 5) xS rfl) rfl) rfl) rfl))) xS rfl)))))))) (@xb _ _ _ (@xV _ _ _ _ (pv 1)))))),?_⟩
  have line:=line9
  have l60:=gd.len
  refine ⟨zT _,λl hl=>?_⟩
  have hb1:=hb.same (xK (o:=HO.lst []) hl)
  refine (zr rfl (ixt hb1.book rfl ⟨tm,rfl,⟨_,SqT.of hb1.meets⟩,?_⟩))
  refine for_enumT (K:=K) (a:=tm) (xs:=ps.map λa=>V.ref a.1) (λi σ H4=>(∃ v2 v3 v4 v5 v6,σ=[some (.ref b),some (.ref l),v2,v3,v4,v5,v6])/\Same H H4/\∃ ws:List (Addr×W4),H4 l=some (.lst (ws.map λa=>V.ref a.1))/\(∀ a∈ws,H4 a.1=some (.tup a.2.vs))/\ws.map (·.2)=waysN (ps.map (·.2)) i/\ws.length=2 * i)
   ⟨⟨_,_,_,_,_,rfl⟩,xK hl,[],xI,(λ_ z=>nomatch z),rfl,rfl⟩ (λi σ H4 _ h4=>SqT.of ((hb.same h4.2.1).meets)) ?_ ?_
  ·rintro i x q' σ H4 hx hq ⟨⟨v2,v3,v4,v5,v6,rfl⟩,sm,ws,h4,hr,ew,lw⟩
   obtain ⟨r,hr1,rfl⟩:=xl hx
   have hi:i < ps.length:=(zB.mp hr1).1
   have hm:(ps.map (·.2))[i]?=some r.2:=by rw [zR,hr1];rfl
   obtain ⟨a1,a2,a3,a4,a5,_⟩:=gd.at (zC hr1)
   have sm1:=sm.trans (xK (o:=HO.tup [.int i,.ref r.1]) hq)
   have hrow:=(hb.same sm1).rows r (zC hr1)
   have h5:=(xK (o:=HO.tup [.int i,.ref r.1]) hq) _ _ h4
   refine ⟨q',zr rfl ⟨SqT.of xI,rfl,zr1 rfl (zr1 rfl (un4 hrow ⟨rfl,?_⟩))⟩⟩
   refine (zr rfl ⟨.inl ⟨rfl,_,SqL.of h5⟩,zr rfl (zr rfl (zr rfl (zr rfl ⟨by show 4<=sizeLine;omega,λt1 ht1=>⟨l,zr2 rfl rfl ⟨xK ht1 _ _ h5,by rw [zA];omega,?_⟩⟩⟩)))⟩)
   have n1:t1≠l:=(xJ h5 ht1).symm
   refine (zr rfl ⟨.inl ⟨rfl,_,SqL.of xI⟩,zr rfl (zr rfl (zr rfl (zr rfl ⟨by show 4<=sizeLine;omega,λt2 ht2=>⟨l,zr2 rfl rfl ⟨xK ht2 _ _ xI,by rw [zP,zA];show ws.length + 1 < sizeLine;omega,?_⟩⟩⟩)))⟩)
   have n2:t2≠l:=λz=>by rw [z,xI] at ht2;cases ht2
   have n12:t1≠t2:=λz=>by rw [<-z,xO n1,xI] at ht2;cases ht2
   have e1:(r.2.lo.toNat:Int)=r.2.lo:=yh a1
   have e2:(r.2.hi.toNat:Int)=r.2.hi:=yh (by omega)
   have sm2:Same H (upd (upd (upd (upd (upd H4 q' (.tup [.int i,.ref r.1])) t1 (.tup [.int i,.int r.2.lo,.int r.2.hi,.int r.2.t])) l (.lst ((ws.map λa=>V.ref a.1)++[.ref t1]))) t2 (.tup [.int i,.int r.2.hi,.int r.2.lo,.int r.2.t])) l (.lst ((ws.map λa=>V.ref a.1)++[.ref t1]++[.ref t2]))):=
    Same.put hl ((Same.put hl (sm1.trans (xK ht1))).trans (xK ht2))
   refine ⟨⟨_,_,_,_,_,rfl⟩,sm2,ws++[(t1,⟨i,⟨r.2.lo.toNat,r.2.hi.toNat,r.2.t⟩⟩),(t2,⟨i,⟨r.2.hi.toNat,r.2.lo.toNat,r.2.t⟩⟩)],?_,λa ha=>?_,?_,?_⟩
   ·rw [xI,zG,List.append_assoc];rfl
   ·rcases zS.mp ha with h | h
    ·have:=hr a h
     have na:a.1≠l:=wa this h4 (by intro z;cases z)
     have b1:=xK (o:=HO.tup [.int i,.ref r.1]) hq _ _ this
     have b2:=xK (o:=HO.tup [.int i,.int r.2.lo,.int r.2.hi,.int r.2.t]) ht1 _ _ b1
     rw [xO na]
     exact xK ht2 _ _ (by rw [xO na];exact b2)
    ·simp only [zF,zi,or_false] at h
     rcases h with rfl | rfl
     ·rw [xO n1]
      refine xK ht2 _ _ ?_
      rw [xO n1,xI]
      show _=some (HO.tup [.int i,.int (r.2.lo.toNat:Int),.int (r.2.hi.toNat:Int),.int r.2.t])
      rw [e1,e2]
     ·rw [xO n2,xI]
      show _=some (HO.tup [.int i,.int (r.2.hi.toNat:Int),.int (r.2.lo.toNat:Int),.int r.2.t])
      rw [e1,e2]
   ·rw [zG,ew,waysN_succ hm];rfl
   ·rw [zP,lw];show 2 * i + 2=_;omega
  ·rintro σ H4 ⟨⟨v2,v3,v4,v5,v6,rfl⟩,sm,ws,h4,hr,ew,lw⟩
   rw [zA] at ew
   exact (zr rfl (q l ws _ hl sm h4 hr ew))
theorem Fo:FnScope ["book", "number", "walker", "one", "other", "when", "many"] ["book", "number", "walker"] (defScope Ed):=⟨rfl,rfl,rfl,by decide +kernel,rfl,by decide +kernel,by decide +kernel⟩
theorem Hh (T:Tx K mg a t_LAST_TIME t_MOST_WALKERS t_MOST_ROOM t_MOST_MEETINGS t_MOST_MANY t_LONGEST_DAY) (B:BmAt mg base):FnOk P w K mg base CX0 1 a.Bp a.Cd ["book", "number", "walker"] (spOtherAt):=by
 refine T.BO.ok Fo (λvs H Q E h=>?_) (λcdv A outer s H vs Q E hr h=>?_)
 ·obtain ⟨b,k,v,_,_,_,_,_,rfl,_⟩:=h;rfl
 ·have nd:=Fo.nd
  have hu:=hr.units
  obtain ⟨b,k,v,rooms,tr,tm,ps,m,rfl,hb,hm,q⟩:=h
  refine ⟨_,(@xQ _ _ _ (@xU _ _ _ _ _ _ (xv (@xf _ _ _ _ _ _ _ (xa rfl) (@xf _ _ _ _ _ _ _ (xa rfl) (pv 0) xL (λ_ _=>rfl)) (pv 1) (λ_ _=>rfl)) (xh (n:=4) rfl rfl (xM (xN (i:=3) nd rfl (by first | exact Or.inl rfl | exact Or.inr rfl)) (xM (xN (i:=4) nd rfl (by first | exact Or.inl rfl | exact Or.inr rfl)) (xM (xN (i:=5) nd rfl (by first | exact Or.inl rfl | exact Or.inr rfl)) (xM (xN (i:=6) nd rfl (by first | exact Or.inl rfl | exact Or.inr rfl)) xg)))))) (@xb _ _ _ (@xV _ _ _ _ (@pe_ifExp _ _ _ _ _ _ _ _ (@xc _ _ _ _ _ _ _ _ op_eq (pv 2) (pv 3) (nomark _)) (pv 4) (pv 3)))))),?_⟩
  have hk:k < ps.length:=by
   have:=(zB.mp hm).1
   simpa using this
  have em:ps[k].2=m:=by
   rw [zR,zU hk] at hm
   exact Option.some.inj hm
  have hrow:=hb.rows _ (zq hk)
  rw [em] at hrow
  refine (zr rfl (ixt hb.book rfl (zr rfl (ixt hb.meets (xr (v:=V.ref ps[k].1) (by simp [hk])) (un4 hrow ?_)))))
  refine (zr rfl (zr rfl ⟨rfl,zr rfl (iteD (λc=>?_) (λc=>?_))⟩))
  ·rw [if_pos (V.int.inj c)] at q
   exact (zr rfl q)
  ·rw [if_neg λz=>c (by rw [z])] at q
   exact (zr rfl q)
theorem Fq:FnScope ["book", "walker", "number"] ["book", "walker", "number"] (defScope C3):=⟨rfl,rfl,rfl,by decide +kernel,rfl,by decide +kernel,by decide +kernel⟩
theorem DA (T:Tx K mg a t_LAST_TIME t_MOST_WALKERS t_MOST_ROOM t_MOST_MEETINGS t_MOST_MANY t_LONGEST_DAY) (B:BmAt mg base):FnOk P w K mg base CX0 1 a.Br a.Cf ["book", "walker", "number"] (spLone):=by
 refine T.BQ.ok Fq (λvs H Q E h=>?_) (λcdv A outer s H vs Q E hr h=>?_)
 ·obtain ⟨b,k,x,_,_,_,_,rfl,_⟩:=h;rfl
 ·have nd:=Fq.nd
  have hu:=hr.units
  obtain ⟨b,k,x,rooms,tr,tm,ps,rfl,hb,hn,q⟩:=h
  refine ⟨_,(@xQ _ _ _ (@xb _ _ _ (@xV _ _ _ _ (pe_comp (own:=["other"]) (caps:=[2,1]) rfl (show CompScope ["other"] [2,1] ["book", "walker", "number"] (defScope C3) _ from ⟨rfl,by decide +kernel,by decide +kernel,by decide +kernel,by decide +kernel⟩) (pi_range1 rfl T.b_range (@xG _ _ _ (@xH _ _ _ _ _ (xW (xX rfl) (by rfl) T.b_len PySem.boot_len (@xG _ _ _ (@xH _ _ _ _ _ (@xf _ _ _ _ _ _ _ (xa rfl) (pv 0) xL (λ_ _=>rfl)) xS rfl))) xS rfl))) (λ_ _ _ _=>(xN (i:=0) (show List.Nodup (["other", "number", "walker"]:List Str) from by decide +kernel) rfl (by first | exact Or.inl rfl | exact Or.inr rfl))) (λ_ _ _ _=>pts_nil) (λ_ _ _ _=>(@pe_ifExp _ _ _ _ _ _ _ _ (@xc _ _ _ _ _ _ _ _ op_eq (pv 0) (pv 2) (nomark _)) (pv 1) pe_non)))))),?_⟩
  refine (zr rfl (ixt hb.book rfl ⟨tr,zr rfl ⟨.inr (SqT.of hb.rooms),zr rfl ⟨by rw [zA];omega,by rw [zA];omega,?_⟩⟩⟩))
  refine comp_range (lo:=0) (m:=(rooms.map V.int).length) (λi τ acc H5=>(∃ t0,τ=[t0,some (.int x),some (.int k)])/\acc=(rep i (lone k x)).map oV/\H5=H) ?_ (by rw [zA];omega) ?_ ?_ ?_
  ·exact ⟨⟨_,rfl⟩,rfl,rfl⟩
  ·rintro i τ acc H5 ⟨⟨t0,rfl⟩,rfl,rfl⟩
   rw [zA,xy];exact zD _
  ·rintro i τ acc H5 C hi ⟨⟨t0,rfl⟩,rfl,rfl⟩ hC
   have snoc:∀ v,oV (lone k x i)=v->(rep i (lone k x)).map oV++[v]=(rep (i + 1) (lone k x)).map oV:=λv e=>by
    unfold rep
    rw [List.range_succ,zG,zG,<- e];rfl
   refine (zr rfl (zr rfl ⟨rfl,zr rfl (iteD (λc=>(zr rfl (hC _ _ _ ⟨⟨_,rfl⟩,snoc _ ?_,rfl⟩))) (λc=>hC _ _ _ ⟨⟨_,rfl⟩,snoc _ ?_,rfl⟩))⟩))
   ·have:i=k:=by have:=V.int.inj c;omega
    unfold lone
    rw [if_pos this];rfl
   ·have:i≠k:=λz=>c (by rw [z];simp)
    unfold lone
    rw [if_neg this];rfl
  ·rintro τ acc H5 ⟨⟨t0,rfl⟩,rfl,rfl⟩ l hl
   rw [zA]
   exact q l _ hl (xK hl) xI
theorem Fp:FnScope ["book", "day"] ["book", "day"] (defScope C2):=⟨rfl,rfl,rfl,by decide +kernel,rfl,by decide +kernel,by decide +kernel⟩
theorem Fy (T:Tx K mg a t_LAST_TIME t_MOST_WALKERS t_MOST_ROOM t_MOST_MEETINGS t_MOST_MANY t_LONGEST_DAY) (B:BmAt mg base):FnOk P w K mg base CX0 3 a.Bq a.Ce ["book", "day"] (spNeed):=by
 have An:=@wS P w _ _ base _ _ _ _ _ _ _ T B
 refine T.BP.ok Fp (λvs H Q E h=>?_) (λcdv A outer s H vs Q E hr h=>?_)
 ·obtain ⟨b,day,_,_,_,_,rfl,_⟩:=h;rfl
 ·have nd:=Fp.nd
  have hu:=hr.units
  obtain ⟨b,day,rooms,tr,tm,ps,rfl,hb,l9,d1,d6,hd,q⟩:=h
  refine ⟨_,(@xQ _ _ _ (@xb _ _ _ (@xj _ _ _ _ _ _ _ _ (@PW.pt _ _ _ (@pw_or _ _ _ _ _ _ _ (@wF _ _ _ _ (xz (xP An (hr.mono (by decide)) rfl T.AQ T.AR T.AS .nil pass0 (@xG _ _ _ (@xH _ _ _ _ _ (pv 1) (@xH _ _ _ _ _ xL (@xH _ _ _ _ _ (pe_glob (v:=V.int 1000000) rfl T.c_LONGEST_DAY ⟨_,rfl⟩) xS rfl) rfl) rfl))))) (@pw_or1 _ _ _ _ (xz (xW (call_any rfl rfl) (by rfl) T.b_any PyProof.Rows.boot_any (@xG _ _ _ (@xH _ _ _ _ _ (pe_comp (own:=["meeting"]) (caps:=[1]) rfl (show CompScope ["meeting"] [1] ["book", "day"] (defScope C2) _ from ⟨rfl,by decide +kernel,by decide +kernel,by decide +kernel,by decide +kernel⟩) (@pi_tup'' _ _ _ _ _ rfl (@xf _ _ _ _ _ _ _ (xa rfl) (pv 0) xL (λ_ _=>rfl))) (λ_ _ _ _=>(xN (i:=0) (show List.Nodup (["meeting", "day"]:List Str) from by decide +kernel) rfl (by first | exact Or.inl rfl | exact Or.inr rfl))) (λ_ _ _ _=>pts_nil) (λ_ _ _ _=>(@pe_cmpR _ _ _ _ _ _ _ _ op_gt (@xf _ _ _ _ _ _ _ (xa rfl) (pv 0) xL (λ_ _=>rfl)) (pv 1) (nomark _)))) xS rfl))))))) (@xQ _ _ _ (@xb _ _ _ ps_never)) xY))),?_⟩
  refine (zr rfl ⟨.int day, "int", 1,1000000,rfl,rfl,zr rfl (iteB0 (by unfold inB;simp [d1,d6]) ?_)⟩)
  refine (zr rfl (ixt hb.book rfl ⟨tm,rfl,⟨_,SqT.of hb.meets⟩,?_⟩))
  refine comp_tup (K:=K) (a:=tm) (xs:=ps.map λa=>V.ref a.1) (λi τ acc H5=>(∃ t0,τ=[t0,some (.int day)])/\acc=(List.replicate i false).map V.bl/\H5=H) ?_ (by rw [zA];exact l9) ?_ ?_ ?_
  ·exact ⟨⟨_,rfl⟩,rfl,rfl⟩
  ·rintro i τ acc H5 ⟨⟨t0,rfl⟩,rfl,rfl⟩
   exact ⟨by simp,SqT.of hb.meets⟩
  ·rintro i x τ acc H5 C hx ⟨⟨t0,rfl⟩,rfl,rfl⟩ hC
   obtain ⟨r,hr,rfl⟩:=xl hx
   have rm:=zC hr
   have hrow:=hb.rows r rm
   have le:=hd r.2 (zI.mpr ⟨r,rm,rfl⟩)
   refine (zr rfl (ixt hrow rfl (zr rfl (zr2 rfl rfl (hC _ _ _ ⟨⟨_,rfl⟩,?_,rfl⟩)))))
   show List.map V.bl (List.replicate i false)++[V.bl (decide (day < r.2.t))]=_
   rw [decide_eq_false (by omega),List.replicate_succ',zG];rfl
  ·rintro τ acc H5 ⟨⟨t0,rfl⟩,rfl,rfl⟩ lc hlc
   refine ⟨lc,zr rfl ⟨SqL.of xI,zr rfl (iteB0 (by simp) ?_)⟩⟩
   exact q _ (xK hlc)
theorem Ca:FnScope ["book", "day", "sender", "since", "times", "came", "first", "turn", "number", "giver", "other", "when", "time"] ["book", "day", "sender", "since"] (defScope wI):=⟨rfl,rfl,rfl,by decide +kernel,rfl,by decide +kernel,by decide +kernel⟩
theorem wD (T:Tx K mg a t_LAST_TIME t_MOST_WALKERS t_MOST_ROOM t_MOST_MEETINGS t_MOST_MANY t_LONGEST_DAY) (B:BmAt mg base):FnOk P w K mg base CX0 2 a.Ag a.Ap ["book", "day", "sender", "since"] (spAg2):=by
 have EH:=@Fz P w _ _ base _ _ _ _ _ _ _ T B
 have Gk:=@GR P w _ _ base _ _ _ _ _ _ _ T B
 have CL:=@DA P w _ _ base _ _ _ _ _ _ _ T B
 refine T.Aj.ok Ca (λvs H Q E h=>?_) (λcdv A outer s H vs Q E hr h=>?_)
 ·obtain ⟨b,day,k,x,_,_,_,_,rfl,_⟩:=h;rfl
 ·have nd:=Ca.nd
  have hu:=hr.units
  obtain ⟨b,day,k,x,rooms,tr,tm,ps,rfl,hb,hn,gd,d1,d9,x0,x9,q⟩:=h
  refine ⟨_,(@xQ _ _ _ (@xU _ _ _ _ _ _ (xT (i:=4) nd rfl (by first | exact Or.inl rfl | exact Or.inr rfl) (xP CL (hr.mono (by decide)) rfl T.Ek T.En T.Er .nil pass0 (@xG _ _ _ (@xH _ _ _ _ _ (pv 0) (@xH _ _ _ _ _ (pv 2) (@xH _ _ _ _ _ (pv 3) xS rfl) rfl) rfl)))) (@xU _ _ _ _ _ _ (xT (i:=5) nd rfl (by first | exact Or.inl rfl | exact Or.inr rfl) pe_dnewK) (@xU _ _ _ _ _ _ (xT (i:=6) nd rfl (by first | exact Or.inl rfl | exact Or.inr rfl) (@xZ _ _ _ _ _ _ _ _ op_fdivB (pv 3) (pv 1))) (@xU _ _ _ _ _ _ (wJ PassesOwn.never rfl (pi_range2 rfl T.b_range (@xG _ _ _ (@xH _ _ _ _ _ (pv 6) (@xH _ _ _ _ _ (@xZ _ _ _ _ _ _ _ _ xq (pv 6) (xW (xX rfl) (by rfl) T.b_len PySem.boot_len (@xG _ _ _ (@xH _ _ _ _ _ (pv 4) xS rfl)))) xS rfl) rfl))) (xN (i:=7) nd rfl (by first | exact Or.inl rfl | exact Or.inr rfl)) (@xQ _ _ _ (@xb _ _ _ (wJ PassesOwn.never rfl (@xx _ _ _ _ _ rfl (xP Gk (hr.mono (by decide)) rfl T.Ii T.Ip T.Iy .nil pass0 (@xG _ _ _ (@xH _ _ _ _ _ (pv 0) xS rfl)))) (xh (n:=4) rfl rfl (xM (xN (i:=8) nd rfl (by first | exact Or.inl rfl | exact Or.inr rfl)) (xM (xN (i:=9) nd rfl (by first | exact Or.inl rfl | exact Or.inr rfl)) (xM (xN (i:=10) nd rfl (by first | exact Or.inl rfl | exact Or.inr rfl)) (xM (xN (i:=11) nd rfl (by first | exact Or.inl rfl | exact Or.inr rfl)) xg))))) (@xQ _ _ _ (@xU _ _ _ _ _ _ (xT (i:=12) nd rfl (by first | exact Or.inl rfl | exact Or.inr rfl) (@xZ _ _ _ _ _ _ _ _ xq (pv 11) (@xZ _ _ _ _ _ _ _ _ wW (pv 7) (pv 1)))) (@xb _ _ _ (@xj _ _ _ _ _ _ _ _ (@PW.pt _ _ _ (@pw_and _ _ _ _ _ _ _ (pt_cmp (@pc_isN _ _ _ _ _ (@xf _ _ _ _ _ _ _ (xi rfl) (pv 4) (pv 10) (λ_ _=>rfl)))) (@pw_and1 _ _ _ _ (xz (xP EH (hr.mono (by decide)) rfl T.F5 T.Ga T.Gf .nil pass0 (@xG _ _ _ (@xH _ _ _ _ _ (@xf _ _ _ _ _ _ _ (xi rfl) (pv 4) (pv 9) (λ_ _=>rfl)) (@xH _ _ _ _ _ (pv 12) xS rfl) rfl))))))) (@xQ _ _ _ (@xU _ _ _ _ _ _ (xv (pv 12) (pg_sub (pv 4) (pv 10) set_list)) (@xb _ _ _ (ps_dput (Nat.lt_of_le_of_lt (Nat.add_le_add_left (by decide) _) hu) (pv 5) (pv 10) (@xo _ _ _ _ _ (@xG _ _ _ (@xH _ _ _ _ _ (pv 8) (@xH _ _ _ _ _ (pv 7) (@xH _ _ _ _ _ (pv 9) xS rfl) rfl) rfl))) rfl)))) xY)))))))) (@xb _ _ _ (@xV _ _ _ _ (@xo _ _ _ _ _ (@xG _ _ _ (@xH _ _ _ _ _ (pv 4) (@xH _ _ _ _ _ (pv 5) xS rfl) rfl)))))))))),?_⟩
  have line:300000<=sizeLine:=by rw [sizeLine_eq];decide
  have e200:(2:Int) ^ 200 > 10000000000:=by decide
  have l60:=gd.len
  refine (zr rfl (zr rfl (zr rfl (ex7 b k x rooms tr tm ps ⟨rfl,hb,hn,λl H1 hl sm1 h1=>?_⟩))))
  refine λd hd=>?_
  have ndl:d≠l:=(xJ h1 hd).symm
  have smd:=sm1.trans (xK (o:=HO.dK []) hd)
  have hfd:H d=none:=sm1.free hd
  have h1':=xK (o:=HO.dK []) hd _ _ h1
  have hd':=(xI (H:=H1) (a:=d) (o:=HO.dK []))
  generalize upd H1 d (HO.dK [])=H1' at smd h1' hd' ⊢
  have f0:0<=x / day:=Int.ediv_nonneg x0 (by omega)
  have f9:x / day<=x:=Int.ediv_le_self _ x0
  refine (zr rfl (zr rfl (zr2 rfl rfl ⟨⟨by omega,by omega⟩,?_⟩)))
  have en:(x / day + (((rep rooms.length (lone k x)).map oV).length:Int) - x / day).toNat=rooms.length:=by rw [zA,xy];omega
  refine (zr rfl (zr rfl (zr rfl ⟨l,zr rfl ⟨.inl (SqL.of h1'),zr2 rfl rfl (zr1 rfl ⟨⟨by omega,by omega,by omega,by rw [zA,xy];omega⟩,?_⟩)⟩⟩)))
  rw [en]
  refine for_range (lo:=(x / day)) (n:=rooms.length) (λi σ H4=>(∃ v7 v8 v9 v10 v11 v12,σ=[some (.ref b),some (.int day),some (.int k),some (.int x),some (.ref l),some (.ref d),some (.int (x / day)),v7,v8,v9,v10,v11,v12])/\Same H H4/\H4 l=some (.lst ((rep rooms.length (agF (ps.map (·.2)) day (x / day) (lone k x) i)).map oV))/\(∃ kvs,H4 d=some (.dK kvs)/\kvs.length<=120 * i/\CameD (ps.map (·.2)) day k (agF (ps.map (·.2)) day (x / day) (lone k x) i) kvs H4))
   ?_ ?_ ?_
  ·exact ⟨⟨_,_,_,_,_,_,rfl⟩,smd,h1',[],hd',zD _,λo t h=>.inl (by have h:lone k x o=some t:=h;unfold lone at h;split at h;assumption;cases h)⟩
  ·rintro i σ H2' hi ⟨⟨v7,v8,v9,v10,v11,v12,rfl⟩,sm2',h1',kvs0,hd',lk0,cm0⟩
   refine (zr rfl (ex5 b rooms tr tm ps ⟨rfl,hb.same sm2',gd,λlw ws H2 hlw sm2 h2 hr ew=>?_⟩))
   have nwl:lw≠l:=(xJ h1' hlw).symm
   have nwd:lw≠d:=(xJ hd' hlw).symm
   have h1':=sm2 _ _ h1'
   have hd':=sm2 _ _ hd'
   have cm0:=cm0.tups (Tups.same sm2)
   have eall:(ws.map (·.2)).map (·.w)=ways2 (ps.map (·.2)):=by
    have:=waysN_all (ps.map (·.2))
    rw [zA] at this
    rw [ew,this]
   have lws:ws.length=2 * ps.length:=by
    have:=congrArg List.length eall
    rw [zA,zA,ways2_len,zA] at this
    exact this
   refine ⟨lw,rfl,⟨_,SqL.of h2⟩,?_⟩
   refine for_list (K:=K) (a:=lw) (xs:=(ws.map λa=>V.ref a.1)) (λj σ H4=>(∃ v8 v9 v10 v11 v12,σ=[some (.ref b),some (.int day),some (.int k),some (.int x),some (.ref l),some (.ref d),some (.int (x / day)),some (.int ((x / day) + i)),v8,v9,v10,v11,v12])/\Same H H4/\H4 l=some (.lst ((rep rooms.length (((ws.take j).map (λa=>a.2.w.late (((x / day) + i) * day))).foldl fstep (agF (ps.map (·.2)) day (x / day) (lone k x) i))).map oV))/\(∃ kvs,H4 d=some (.dK kvs)/\kvs.length<=120 * i + j/\CameD (ps.map (·.2)) day k (((ws.take j).map (λa=>a.2.w.late (((x / day) + i) * day))).foldl fstep (agF (ps.map (·.2)) day (x / day) (lone k x) i)) kvs H4)/\(∀ b u,b≠l->b≠d->H2 b=some u->H4 b=some u))
    ?_ ?_ ?_ ?_
   ·exact ⟨⟨_,_,_,_,_,rfl⟩,sm2'.trans sm2,h1',⟨kvs0,hd',by omega,cm0⟩,λ_ _ _ _ e=>e⟩
   ·rintro j σ H4 _ ⟨_,_,_,_,kp⟩
    exact SqL.of (kp lw _ nwl nwd h2)
   ·rintro j y σ H4 hy ⟨⟨v8,v9,v10,v11,v12,rfl⟩,sm4,h4,⟨kvs,h4d,lk,cm⟩,kp⟩
    obtain ⟨r,hr1,rfl⟩:=xl hy
    have hj:j < ws.length:=(zB.mp hr1).1
    have rm:r∈ws:=zC hr1
    have hrow0:=hr r rm
    have nl:r.1≠l:=wa hrow0 h1' (by intro z;cases z)
    have nd2:r.1≠d:=wa hrow0 hd' (by intro z;cases z)
    have hrow:=kp r.1 _ nl nd2 hrow0
    have wm:r.2.w∈ways2 (ps.map (·.2)):=by
     rw [<-eall]
     exact zI.mpr ⟨r.2,zI.mpr ⟨r,rm,rfl⟩,rfl⟩
    obtain ⟨g1,g2,g3,g4,g5⟩:=wR gd wm
    have gl:r.2.w.g < rooms.length:=by omega
    have ol:r.2.w.o < rooms.length:=by omega
    have fold:∀ f:Fn,((ws.take j).map (λa=>a.2.w.late (((x / day) + i) * day))).foldl fstep (agF (ps.map (·.2)) day (x / day) (lone k x) i)=f->((ws.take (j + 1)).map (λa=>a.2.w.late (((x / day) + i) * day))).foldl fstep (agF (ps.map (·.2)) day (x / day) (lone k x) i)=fstep f (r.2.w.late (((x / day) + i) * day)):=λf e=>by
     rw [xp hr1,zG,yR,e];rfl
    refine (un4 hrow ?_)
    generalize ef:((ws.take j).map (λa=>a.2.w.late (((x / day) + i) * day))).foldl fstep (agF (ps.map (·.2)) day (x / day) (lone k x) i)=f at h4 cm
    have fo:=fold f ef
    refine (zr rfl (zr rfl (zr rfl (zr2 rfl rfl ⟨.inl ⟨by omega,by omega⟩,zr2 rfl rfl ?_⟩))))
    generalize eL:((x / day) + (i:Int)) * day=L at fo
    have hg:((rep rooms.length f).map oV)[r.2.w.g]?=some (oV (f r.2.w.g)):=rep_at gl
    have ho:((rep rooms.length f).map oV)[r.2.w.o]?=some (oV (f r.2.w.o)):=rep_at ol
    refine (zr rfl (zr rfl (ixl h4 (xr ho) (zr rfl (iteD (λc=>?_) (λc=>iteB0 rfl ?_))))))
    ·have c':=oV_non.mp c
     refine (zr rfl (zr rfl (ixl h4 (xr hg) (zr rfl ⟨f r.2.w.g,r.2.w.t + L,rfl,zr rfl (iteB (λc2=>?_) (λc2=>?_))⟩))))
     ·refine (zr rfl (zr rfl (zr rfl ⟨l,_,_,r.2.w.o,rfl,rfl,h4,ixN_nat (by rw [zA,xy];exact ol),?_⟩)))
      refine (zr rfl (zr rfl (zr rfl ⟨by show 3<=sizeLine;omega,λtt htt=>(zr rfl (zr rfl ⟨d,zr rfl ⟨DPut.k (k:=Sum.inl (r.2.w.o:Int)) (xK htt _ _ (by rw [xO ndl];exact h4d)) (by omega),?_⟩⟩))⟩)))
      have nlt:l≠tt:=xJ (xI) htt
      have smx:=(Same.put (o:=HO.lst (((rep rooms.length f).map oV).set r.2.w.o (.int (r.2.w.t + L)))) hl sm4).trans (xK (o:=HO.tup [.int r.2.n,.int ((x / day) + i),.int r.2.w.g]) htt)
      have hdx:=xK (o:=HO.tup [.int r.2.n,.int ((x / day) + i),.int r.2.w.g]) htt _ _ (show (upd H4 l (HO.lst (((rep rooms.length f).map oV).set r.2.w.o (.int (r.2.w.t + L))))) d=some (.dK kvs) by rw [xO ndl];exact h4d)
      have ntd:tt≠d:=(xJ (show (upd H4 l (HO.lst (((rep rooms.length f).map oV).set r.2.w.o (.int (r.2.w.t + L))))) d=some (.dK kvs) by rw [xO ndl];exact h4d) htt).symm
      have lnk:Link (ps.map (·.2)) r.2.n r.2.w.g r.2.w.o r.2.w.t:=waysN_link (i:=ps.length) (by rw [<-ew];exact zI.mpr ⟨r,rm,rfl⟩)
      have cmN:CameD (ps.map (·.2)) day k (((ws.take (j + 1)).map (λa=>a.2.w.late L)).foldl fstep (agF (ps.map (·.2)) day (x / day) (lone k x) i)) (putK kvs (Sum.inl (r.2.w.o:Int)) (.ref tt)) (upd (upd (upd H4 l (HO.lst (((rep rooms.length f).map oV).set r.2.w.o (.int (r.2.w.t + L))))) tt (HO.tup [.int r.2.n,.int ((x / day) + i),.int r.2.w.g])) d (HO.dK (putK kvs (Sum.inl (r.2.w.o:Int)) (.ref tt)))):=by
       rw [fo]
       unfold fstep
       rw [if_pos ⟨c',c2⟩]
       have:=CameD.step (x:=r.2) (turn:=(x / day) + i) (tt:=tt) (cm.tups (((Tups.set (o:=HO.lst (((rep rooms.length f).map oV).set r.2.w.o (.int (r.2.w.t + L)))) h4).trans (Tups.new (o:=HO.tup [.int r.2.n,.int ((x / day) + i),.int r.2.w.g]) htt)).trans (Tups.setD (o:=HO.dK (putK kvs (Sum.inl (r.2.w.o:Int)) (.ref tt))) hdx))) (by omega) c' (by rw [eL];exact c2) lnk (by rw [xO ntd,xI])
       rw [eL] at this
       exact this
      refine ⟨⟨_,_,_,_,_,rfl⟩,Same.put hfd smx,?_,⟨_,xI,z6 (length_putK _ _ _) (by omega),cmN⟩,λb u nb nb' e=>?_⟩
      ·rw [xO ndl.symm,xO nlt,xI,fo]
       unfold fstep
       rw [if_pos ⟨c',c2⟩]
       show _=some (HO.lst ((rep rooms.length (put f r.2.w.o (some (r.2.w.t + L)))).map oV))
       rw [<-rep_set ol,List.map_set];rfl
      ·rw [xO nb']
       exact xK htt _ _ (by rw [xO nb];exact kp b u nb nb' e)
     ·refine ⟨⟨_,_,_,_,_,rfl⟩,sm4,?_,⟨kvs,h4d,by omega,by rw [fo];unfold fstep;rw [if_neg λz=>by have z2:=z.2;rw [show below (f (r.2.w.late L).g) (r.2.w.late L).t=below (f r.2.w.g) (r.2.w.t + L) from rfl,c2] at z2;cases z2];exact cm⟩,kp⟩
      rw [fo]
      unfold fstep
      rw [if_neg λz=>by have z2:=z.2;rw [show below (f (r.2.w.late L).g) (r.2.w.late L).t=below (f r.2.w.g) (r.2.w.t + L) from rfl,c2] at z2;cases z2]
      exact h4
    ·refine ⟨⟨_,_,_,_,_,rfl⟩,sm4,?_,⟨kvs,h4d,by omega,by rw [fo];unfold fstep;rw [if_neg λz=>c (oV_non.mpr z.1)];exact cm⟩,kp⟩
     rw [fo]
     unfold fstep
     rw [if_neg λz=>c (oV_non.mpr z.1)]
     exact h4
   ·rintro σ H4 ⟨⟨v8,v9,v10,v11,v12,rfl⟩,sm4,h4,⟨kvs,h4d,lk,cm⟩,kp⟩
    rw [zA,zf] at h4 cm
    have e:((ws.map (λa=>a.2.w.late (((x / day) + i) * day))).foldl fstep (agF (ps.map (·.2)) day (x / day) (lone k x) i))=agF (ps.map (·.2)) day (x / day) (lone k x) (i + 1):=by
     rw [agF_succ,<- eall,zn,zn];rfl
    rw [e] at h4 cm
    rw [zA] at lk
    exact ⟨⟨_,_,_,_,_,_,rfl⟩,sm4,h4,kvs,h4d,by omega,cm⟩
  ·rintro σ H4 ⟨⟨v7,v8,v9,v10,v11,v12,rfl⟩,sm4,h4,kvs,h4d,lk,cm⟩
   exact (zr rfl (zr rfl ⟨by show 2<=sizeLine;omega,λtt htt=>q tt l d kvs _ hl (sm4.trans (xK htt)) xI (xK htt _ _ h4) (xK htt _ _ h4d) (cm.tups (Tups.new htt))⟩))
theorem Ds:FnScope ["book", "day", "sender", "since", "times", "came"] ["book", "day", "sender", "since"] (defScope CQ):=⟨rfl,rfl,rfl,by decide +kernel,rfl,by decide +kernel,by decide +kernel⟩
theorem DC (T:Tx K mg a t_LAST_TIME t_MOST_WALKERS t_MOST_ROOM t_MOST_MEETINGS t_MOST_MANY t_LONGEST_DAY) (B:BmAt mg base):FnOk P w K mg base CX0 4 a.AH a.Bi ["book", "day", "sender", "since"] (spAgT):=by
 have EG:=@Fy P w _ _ base _ _ _ _ _ _ _ T B
 have Ax:=@wD P w _ _ base _ _ _ _ _ _ _ T B
 refine T.AZ.ok Ds (λvs H Q E h=>?_) (λcdv A outer s H vs Q E hr h=>?_)
 ·obtain ⟨b,day,k,x,_,_,_,_,rfl,_⟩:=h;rfl
 ·have nd:=Ds.nd
  have hu:=hr.units
  obtain ⟨b,day,k,x,rooms,tr,tm,ps,rfl,hb,hn,gd,d1,d6,hd,x0,x9,q⟩:=h
  refine ⟨_,(@xQ _ _ _ (@xU _ _ _ _ _ _ (wP (xP EG (hr.mono (by decide)) rfl T.F3 T.F8 T.Gd .nil pass0 (@xG _ _ _ (@xH _ _ _ _ _ (pv 0) (@xH _ _ _ _ _ (pv 1) xS rfl) rfl)))) (@xU _ _ _ _ _ _ (xv (xP Ax (hr.mono (by decide)) rfl T.Bk T.Bl T.Bm .nil pass0 (@xG _ _ _ (@xH _ _ _ _ _ (pv 0) (@xH _ _ _ _ _ (pv 1) (@xH _ _ _ _ _ (pv 2) (@xH _ _ _ _ _ (pv 3) xS rfl) rfl) rfl) rfl))) (xh (n:=2) rfl rfl (xM (xN (i:=4) nd rfl (by first | exact Or.inl rfl | exact Or.inr rfl)) (xM (xN (i:=5) nd rfl (by first | exact Or.inl rfl | exact Or.inr rfl)) xg)))) (@xb _ _ _ (@xV _ _ _ _ (pv 4)))))),?_⟩
  have l60:=gd.len
  refine (zr rfl (zr rfl (ex6 b day rooms tr tm ps ⟨rfl,hb,by omega,d1,d6,hd,λH1 sm1=>?_⟩)))
  refine (zr rfl (zr rfl (zr rfl (zr rfl (ex8 b day k x rooms tr tm ps ⟨rfl,hb.same sm1,hn,gd,d1,by omega,x0,x9,λt l d kvs H2 hl sm2 ht h2 hd cm=>(un2 ht ?_)⟩)))))
  exact (zr rfl (q l H2 (sm1.free hl) (sm1.trans sm2) h2))
theorem Dt:FnScope ["book", "day", "sender", "since", "wish", "times", "came", "chain", "walker", "number", "turn"] ["book", "day", "sender", "since", "wish"] (defScope CS):=⟨rfl,rfl,rfl,by decide +kernel,rfl,by decide +kernel,by decide +kernel⟩
theorem F1 (T:Tx K mg a t_LAST_TIME t_MOST_WALKERS t_MOST_ROOM t_MOST_MEETINGS t_MOST_MANY t_LONGEST_DAY) (B:BmAt mg base):FnOk P w K mg base CX0 4 a.AI a.Bj ["book", "day", "sender", "since", "wish"] (spAgC):=by
 have EG:=@Fy P w _ _ base _ _ _ _ _ _ _ T B
 have Ax:=@wD P w _ _ base _ _ _ _ _ _ _ T B
 refine T.A0.ok Dt (λvs H Q E h=>?_) (λcdv A outer s H vs Q E hr h=>?_)
 ·obtain ⟨b,day,k,w,x,_,_,_,_,rfl,_⟩:=h;rfl
 ·have nd:=Dt.nd
  have hu:=hr.units
  obtain ⟨b,day,k,w0,x,rooms,tr,tm,ps,rfl,hb,hn,gd,hw,d1,d6,hd,x0,x9,qn,qy⟩:=h
  refine ⟨_,(@xQ _ _ _ (@xU _ _ _ _ _ _ (wP (xP EG (hr.mono (by decide)) rfl T.F3 T.F8 T.Gd .nil pass0 (@xG _ _ _ (@xH _ _ _ _ _ (pv 0) (@xH _ _ _ _ _ (pv 1) xS rfl) rfl)))) (@xU _ _ _ _ _ _ (xv (xP Ax (hr.mono (by decide)) rfl T.Bk T.Bl T.Bm .nil pass0 (@xG _ _ _ (@xH _ _ _ _ _ (pv 0) (@xH _ _ _ _ _ (pv 1) (@xH _ _ _ _ _ (pv 2) (@xH _ _ _ _ _ (pv 3) xS rfl) rfl) rfl) rfl))) (xh (n:=2) rfl rfl (xM (xN (i:=5) nd rfl (by first | exact Or.inl rfl | exact Or.inr rfl)) (xM (xN (i:=6) nd rfl (by first | exact Or.inl rfl | exact Or.inr rfl)) xg)))) (@xU _ _ _ _ _ _ (@xj _ _ _ _ _ _ _ _ (pt_cmp (@pc_isN _ _ _ _ _ (@xf _ _ _ _ _ _ _ (xi rfl) (pv 5) (pv 4) (λ_ _=>rfl)))) (@xQ _ _ _ (@xb _ _ _ (@xV _ _ _ _ pe_non))) xY) (@xU _ _ _ _ _ _ (xT (i:=7) nd rfl (by first | exact Or.inl rfl | exact Or.inr rfl) (@wG _ _ _ _ wX)) (@xU _ _ _ _ _ _ (xT (i:=8) nd rfl (by first | exact Or.inl rfl | exact Or.inr rfl) (pv 4)) (@xU _ _ _ _ _ _ (@ps_while _ _ _ _ _ _ PassesOwn.never (@xc _ _ _ _ _ _ _ _ op_ne (pv 8) (pv 2) (nomark _)) (@xQ _ _ _ (@xU _ _ _ _ _ _ (xv (pe_dget (Nat.lt_of_le_of_lt (Nat.add_le_add_left (by decide) _) hu) (pv 6) (pv 8) (λ_ _=>rfl)) (xh (n:=3) rfl rfl (xM (xN (i:=9) nd rfl (by first | exact Or.inl rfl | exact Or.inr rfl)) (xM (xN (i:=10) nd rfl (by first | exact Or.inl rfl | exact Or.inr rfl)) (xM (xN (i:=8) nd rfl (by first | exact Or.inl rfl | exact Or.inr rfl)) xg))))) (@xb _ _ _ (wP (pe_bm zo zl zm wQ (pv 7) (@xG _ _ _ (@xH _ _ _ _ _ (@xo _ _ _ _ _ (@xG _ _ _ (@xH _ _ _ _ _ (pv 9) (@xH _ _ _ _ _ (pv 10) xS rfl) rfl))) xS rfl)))))))) (@xb _ _ _ (@xV _ _ _ _ (@pe_revL _ _ _ _ _ _ _ _ _ rfl (pv 7))))))))))),?_⟩
  have line:=line9
  have l60:=gd.len
  refine (zr rfl (zr rfl (ex6 b day rooms tr tm ps ⟨rfl,hb,by omega,d1,d6,hd,λH0 sm0=>?_⟩)))
  refine (zr rfl (zr rfl (zr rfl (zr rfl (ex8 b day k x rooms tr tm ps ⟨rfl,hb.same sm0,hn,gd,d1,by omega,x0,x9,λt l d kvs H1 hl sm1' ht h1 hd1 cm=>(un2 ht ?_)⟩)))))
  have sm1:=sm0.trans sm1'
  have self:=agF_self (ms:=ps.map (·.2)) (day:=day) (first:=x / day) (x:=x) (k:=k) rooms.length
  generalize agF (ps.map (·.2)) day (x / day) (lone k x) rooms.length=E0 at qn qy h1 cm self
  have hat:atI ((rep rooms.length E0).map oV) (w0:Int)=some (oV (E0 w0)):=xr (rep_at hw)
  refine (zr rfl (zr rfl (ixl h1 hat (zr rfl ?_))))
  cases hew:E0 w0 with
  | none=>exact iteB1 rfl (qn hew _ sm1)
  | some ew=>
  refine iteB0 rfl ?_
  refine ⟨zT _,λlc hlc=>(zr rfl ?_)⟩
  have hlcH:H lc=none:=sm1.free hlc
  refine while_by (fun σ H4=>∃ (v:Nat) (e:Int) (cs:List (Addr×Int×Int)),∃ v9 v10,σ=[some (.ref b),some (.int day),some (.int k),some (.int x),some (.int w0),some (.ref l),some (.ref d),some (.ref lc),some (.int v),v9,v10]/\E0 v=some e/\H4 lc=some (.lst (cs.reverse.map λc=>V.ref c.1))/\(∀ c∈cs,H4 c.1=some (.tup [.int c.2.1,.int c.2.2]))/\(w0=k->v=w0/\cs=[]) /\
    (∀ b u,b≠lc->H1 b=some u->H4 b=some u)/\cs.length + rankE rooms.length E0 e<=rooms.length/\walkD (ps.map (·.2)) day v e (cs.map (·.2))=some (w0,ew))
   (fun σ _=>muD rooms.length E0 σ) ?_ ?_ ?_
  ·exact ⟨w0,ew,[],zr1 rfl ⟨hew,xI,λ_ h=>(nomatch h),λ_=>⟨rfl,rfl⟩,λb u nb e=>by rw [xO nb];exact e,by have:=rank_le rooms.length E0 ew;simpa using this,rfl⟩⟩
  ·rintro σ H4 ⟨v,e,cs,v9,v10,rfl,he,hc,hcs,hself,kp,lrk,wk⟩
   refine (zr rfl (zr rfl ⟨rfl,zr rfl ?_⟩))
   by_cases hv:v=k
   ·subst hv
    rw [self] at he;cases he
    refine iteNS2 rfl ?_
    refine (zr rfl ⟨lc,zr rfl ⟨SqL.of hc,λlr hlr=>?_⟩⟩)
    have e1:(cs.reverse.map λc=>V.ref c.1).reverse=cs.map λc=>V.ref c.1:=by rw [<-yU,List.reverse_reverse]
    rw [e1]
    have smH:Same H H4:=λb u eb=>kp b u (xJ eb hlcH) (sm1 b u eb)
    exact qy ew lr cs _ hew (smH.free hlr) (smH.trans (xK hlr)) xI (λc hc=>xK hlr _ _ (hcs c hc)) (λe=>(hself e).2) (by omega) wk
   ·refine iteB1 (by have:¬ V.int (v:Int)=V.int (k:Int):=λz=>hv (by have:=V.int.inj z;omega);simp [this]) ?_
    obtain hv' | ⟨tt,n,g,turn,y,c1,c2,c0,c3,c4,c5⟩:=cm v e he
    ·exact absurd hv' hv
    obtain ⟨gi,vi,gv⟩:=c3.inside gd
    have hd4:=kp d _ (λz=>by rw [z] at hd1;rw [hd1] at hlc;cases hlc) hd1
    have ht4:=kp tt _ (λz=>by rw [z] at c2;rw [c2] at hlc;cases hlc) c2
    have dg:DGet H4 d (.int (v:Int)) (some (.ref tt)):=by
     have:=DGet.k (k:=Sum.inl (v:Int)) hd4
     rw [c1] at this;exact this
    have rl:=rank_lt gi c4 c5
    refine (zr rfl (zr rfl ⟨d,.ref tt,rfl,dg,un3 ht4 ?_⟩))
    refine (zr rfl ⟨.inl ⟨rfl,_,SqL.of hc⟩,zr rfl (zr rfl ⟨by show 2<=sizeLine;omega,λtp htp=>?_⟩)⟩)
    have smt:=xK (o:=HO.tup [V.int (n:Int),V.int turn]) htp
    have hc5:=smt _ _ hc
    have htp5:(upd H4 tp (HO.tup [V.int (n:Int),V.int turn])) tp=some (.tup [V.int (n:Int),V.int turn]):=xI
    generalize upd H4 tp (HO.tup [V.int (n:Int),V.int turn])=H5 at smt hc5 htp5 ⊢
    refine ⟨lc,zr2 rfl rfl ⟨hc5,by rw [zA,yg];omega,⟨g,y,(tp,(n:Int),turn)::cs,zr1 rfl ⟨c4,?_,?_,?_,λb u nb eb=>by rw [xO nb];exact smt _ _ (kp b u nb eb),by rw [za];omega,?_⟩⟩,?_⟩⟩
    ·rw [xI,List.reverse_cons,zG];rfl
    ·intro c hc'
     rcases zF.mp hc' with rfl | hc'
     ·exact Tups.set hc5 _ _ htp5
     ·exact Tups.set hc5 _ _ (smt _ _ (hcs c hc'))
    ·intro e
     exact absurd (((hself e).1).trans e) hv
    ·rw [zk,walkD_cons c3 gv c5 c0]
     exact wk
    ·show muD rooms.length E0 _ < muD rooms.length E0 _
     unfold muD
     simp only [yZ,yY,yC,yK,zy,c4,he]
     exact rl
  ·rintro σ H4 Q1 Q2 hq ⟨x,hx,y,hy,hsc,k1,hk1,h⟩
   exact ⟨x,hx,y,hy,hsc,k1,hk1,hq _ _ h⟩
theorem DX:FnScope ["book", "walker", "last", "times", "came"] ["book", "walker"] (defScope wb):=⟨rfl,rfl,rfl,by decide +kernel,rfl,by decide +kernel,by decide +kernel⟩
theorem Gr (T:Tx K mg a t_LAST_TIME t_MOST_WALKERS t_MOST_ROOM t_MOST_MEETINGS t_MOST_MANY t_LONGEST_DAY) (B:BmAt mg base):FnOk P w K mg base CX0 3 a.AU a.BH ["book", "walker"] (spHangs):=by
 have Ax:=@wD P w _ _ base _ _ _ _ _ _ _ T B
 refine T.Bd.ok DX (λvs H Q E h=>?_) (λcdv A outer s H vs Q E hr h=>?_)
 ·obtain ⟨b,k,_,_,_,_,rfl,_⟩:=h;rfl
 ·have nd:=DX.nd
  have hu:=hr.units
  obtain ⟨b,k,rooms,tr,tm,ps,rfl,hk,hb,hn,gd,q⟩:=h
  refine ⟨_,(@xQ _ _ _ (@xU _ _ _ _ _ _ (xT (i:=2) nd rfl (by first | exact Or.inl rfl | exact Or.inr rfl) (pe_maxD rfl rfl rfl T.b_max (pe_comp (own:=["meeting"]) (caps:=[]) rfl (show CompScope ["meeting"] [] ["book", "walker", "last", "times", "came"] (defScope wb) _ from ⟨rfl,by decide +kernel,by decide +kernel,by decide +kernel,by decide +kernel⟩) (@pi_tup'' _ _ _ _ _ rfl (@xf _ _ _ _ _ _ _ (xa rfl) (pv 0) xL (λ_ _=>rfl))) (λ_ _ _ _=>(xN (i:=0) (show List.Nodup (["meeting"]:List Str) from by decide +kernel) rfl (by first | exact Or.inl rfl | exact Or.inr rfl))) (λ_ _ _ _=>pts_nil) (λ_ _ _ _=>(@xf _ _ _ _ _ _ _ (xa rfl) (pv 0) xL (λ_ _=>rfl)))) xL rfl)) (@xU _ _ _ _ _ _ (xv (xP Ax (hr.mono (by decide)) rfl T.Bk T.Bl T.Bm .nil pass0 (@xG _ _ _ (@xH _ _ _ _ _ (pv 0) (@xH _ _ _ _ _ (pv 2) (@xH _ _ _ _ _ (pv 1) (@xH _ _ _ _ _ xL xS rfl) rfl) rfl) rfl))) (xh (n:=2) rfl rfl (xM (xN (i:=3) nd rfl (by first | exact Or.inl rfl | exact Or.inr rfl)) (xM (xN (i:=4) nd rfl (by first | exact Or.inl rfl | exact Or.inr rfl)) xg)))) (@xb _ _ _ (@xV _ _ _ _ (pe_comp (own:=["other", "time"]) (caps:=[]) rfl (show CompScope ["other", "time"] [] ["book", "walker", "last", "times", "came"] (defScope wb) _ from ⟨rfl,by decide +kernel,by decide +kernel,by decide +kernel,by decide +kernel⟩) (pi_enumL rfl rfl T.b_enumerate (@xG _ _ _ (@xH _ _ _ _ _ (pv 3) xS rfl))) (λ_ _ _ _=>(xh (n:=2) rfl rfl (xM (xN (i:=0) (show List.Nodup (["other", "time"]:List Str) from by decide +kernel) rfl (by first | exact Or.inl rfl | exact Or.inr rfl)) (xM (xN (i:=1) (show List.Nodup (["other", "time"]:List Str) from by decide +kernel) rfl (by first | exact Or.inl rfl | exact Or.inr rfl)) xg)))) (λ_ _ _ _=>pts_one (pt_cmp (@pc_notN _ _ _ _ _ (pv 1)))) (λ_ _ _ _=>(pv 0)))))))),?_⟩
  have line:=line9
  have l60:=gd.len
  refine (zr rfl (ixt hb.book rfl ⟨tm,rfl,⟨_,SqT.of hb.meets⟩,?_⟩))
  refine comp_tup (K:=K) (a:=tm) (xs:=ps.map λa=>V.ref a.1) (λi τ acc H5=>(∃ t0,τ=[t0])/\acc=(((ps.map (·.2)).take i).map (·.t)).map V.int/\H=H5) ?_ (by rw [zA];omega) ?_ ?_ ?_
  ·exact ⟨⟨_,rfl⟩,rfl,rfl⟩
  ·rintro i τ acc H5 ⟨⟨t0,rfl⟩,rfl,rfl⟩
   exact ⟨by rw [zA,zA,zZ];omega,SqT.of hb.meets⟩
  ·rintro i y τ acc H5 C hx ⟨⟨t0,rfl⟩,rfl,rfl⟩ hC
   obtain ⟨r,hr,rfl⟩:=xl hx
   have hm:(ps.map (·.2))[i]?=some r.2:=by rw [zR,hr];rfl
   refine (zr rfl (ixt (hb.rows r (zC hr)) rfl (hC _ _ _ ⟨⟨_,rfl⟩,?_,rfl⟩)))
   rw [xp hm,zG,zG];rfl
  ·rintro τ acc H5 ⟨⟨t0,rfl⟩,rfl,rfl⟩ lc hlc
   have el:(ps.map λa=>V.ref a.1).length=(ps.map (·.2)).length:=by rw [zA,zA]
   rw [el,zf]
   have sm1:=xK (o:=HO.lst (((ps.map (·.2)).map (·.t)).map V.int)) hlc
   have h1:(upd H lc (HO.lst (((ps.map (·.2)).map (·.t)).map V.int))) lc=some (.lst (((ps.map (·.2)).map (·.t)).map V.int)):=xI
   generalize upd H lc (HO.lst (((ps.map (·.2)).map (·.t)).map V.int))=H1 at sm1 h1 ⊢
   refine ⟨lc,_,1,rfl,rfl,SqL.of h1,λM hM=>?_⟩
   have hM2:1<=M/\M<=1000000000/\∀ m∈ps.map (·.2),m.t<=M:=by
    rcases hM with ⟨e,rfl⟩ | ⟨hm,hx⟩
    ·have e0:ps.map (·.2)=[]:=by simpa using e
     rw [e0]
     exact ⟨by decide,by decide,λ_ h=>(nomatch h)⟩
    ·obtain ⟨m,hm',rfl⟩:=zI.mp hm
     have:=gd.each m hm'
     exact ⟨this.2.2.2.1,this.2.2.2.2.1,λm2 hm2=>hx _ (zI.mpr ⟨m2,hm2,rfl⟩)⟩
   obtain ⟨d1,d9,hd⟩:=hM2
   refine (zr rfl (zr rfl (zr rfl (ex8 b M k 0 rooms tr tm ps ⟨rfl,hb.same sm1,hn,gd,d1,d9,by omega,by omega,λt l d kvs H2 hl sm2 ht h2 hd2 cm=>(un2 ht ?_)⟩))))
   have D:=agDE (x:=0) gd hk d1 hd
   generalize agF (ps.map (·.2)) M (0 / M) (lone k 0) rooms.length=E0 at h2 D
   refine (zr rfl ⟨l,rfl,⟨_,SqL.of h2⟩,?_⟩)
   refine comp_enumL (K:=K) (a:=l) (xs:=(rep rooms.length E0).map oV) (λi τ acc H5=>(∃ t0 t1,τ=[t0,t1])/\acc=(((List.range i).filter λi=>(E0 i).isSome).map λi:Nat=>(i:Int)).map V.int/\Same H2 H5) ?_ (by rw [zA,xy];exact hn) ?_ ?_ ?_
   ·exact ⟨⟨_,_,rfl⟩,rfl,Same.refl _⟩
   ·rintro i τ acc H5 ⟨⟨t0,t1,rfl⟩,rfl,sm5⟩
    refine ⟨?_,SqL.of (sm5 _ _ h2)⟩
    have:=ya (λi=>(E0 i).isSome) (List.range i)
    rw [yt] at this
    rw [zA,zA];exact this
   ·rintro i y q' τ acc H5 C hx hq ⟨⟨t0,t1,rfl⟩,rfl,sm5⟩ hC
    obtain ⟨o,ho,rfl⟩:=xl hx
    have hi:i < rooms.length:=by
     have:=(zB.mp ho).1
     rw [xy] at this;exact this
    rw [rep_get hi] at ho
    have eo:=Option.some.inj ho
    refine (un2 xI ?_)
    have sm6:=sm5.trans (xK (o:=HO.tup [.int i,oV o]) hq)
    cases o with
    | none=>
     refine (zr rfl (zr rfl (iteB0 rfl (hC _ _ _ ⟨⟨_,_,rfl⟩,?_,sm6⟩))))
     rw [List.range_succ,yI]
     simp [eo]
    | some z=>
     refine (zr rfl (zr rfl (iteB1 rfl (zr rfl (hC _ _ _ ⟨⟨_,_,rfl⟩,?_,sm6⟩)))))
     rw [List.range_succ,yI]
     simp [eo]
   ·rintro τ acc H5 ⟨⟨t0,t1,rfl⟩,rfl,sm5⟩ lr hlr
    rw [zA,xy]
    have smH:=sm1.trans (sm2.trans sm5)
    refine q lr (λi=>(E0 i).isSome) _ (λi=>?_) (smH.free hlr) (smH.trans (xK hlr)) xI
    rw [<-D.conn d1 i]
    cases E0 i <;> simp
theorem EO:FnScope ["book", "thing", "sender", "since", "wish", "last"] ["book", "thing"] (defScope Dw):=⟨rfl,rfl,rfl,by decide +kernel,rfl,by decide +kernel,by decide +kernel⟩
theorem EV (T:Tx K mg a t_LAST_TIME t_MOST_WALKERS t_MOST_ROOM t_MOST_MEETINGS t_MOST_MANY t_LONGEST_DAY) (B:BmAt mg base):FnOk P w K mg base CX0 4 a.A7 a.B0 ["book", "thing"] (spIsLetter):=by
 have GQ:=@Ie P w _ _ base _ _ _ _ _ _ _ T B
 have FG:=@GT P w _ _ base _ _ _ _ _ _ _ T B
 refine T.BB.ok EO (λvs H Q E h=>?_) (λcdv A outer s H vs Q E hr h=>?_)
 ·obtain ⟨b,x,r,_,_,_,_,rfl,_⟩:=h;rfl
 ·have nd:=EO.nd
  have hu:=hr.units
  obtain ⟨b,x,r,rooms,tr,tm,ps,rfl,hb,th,q⟩:=h
  refine ⟨_,(@xQ _ _ _ (@xU _ _ _ _ _ _ (@xj _ _ _ _ _ _ _ _ (@PW.pt _ _ _ (@pw_or _ _ _ _ _ _ _ (@wF _ _ _ _ (xz (xW (wN) (by rfl) T.b_isinstance zu (@xG _ _ _ (@xH _ _ _ _ _ (pv 1) (@xH _ _ _ _ _ (pe_bltn (v:=V.ty "tuple") rfl T.b_tuple zx rfl) xS rfl) rfl))))) (@pw_or1 _ _ _ _ (@xc _ _ _ _ _ _ _ _ op_ne (xW (xX rfl) (by rfl) T.b_len PySem.boot_len (@xG _ _ _ (@xH _ _ _ _ _ (pv 1) xS rfl))) xL (nomark _))))) (@xQ _ _ _ (@xb _ _ _ (@xV _ _ _ _ wZ))) xY) (@xU _ _ _ _ _ _ (xv (pv 1) (xh (n:=4) rfl rfl (xM (xN (i:=2) nd rfl (by first | exact Or.inl rfl | exact Or.inr rfl)) (xM (xN (i:=3) nd rfl (by first | exact Or.inl rfl | exact Or.inr rfl)) (xM (xN (i:=4) nd rfl (by first | exact Or.inl rfl | exact Or.inr rfl)) (xM (xN (i:=5) nd rfl (by first | exact Or.inl rfl | exact Or.inr rfl)) xg)))))) (@xb _ _ _ (@xV _ _ _ _ (@pe_and _ _ _ _ _ _ _ (xP FG (hr.mono (by decide)) rfl T.FA T.FC T.FE .nil pass0 (@xG _ _ _ (@xH _ _ _ _ _ (pv 0) (@xH _ _ _ _ _ (pv 2) xS rfl) rfl))) (@pe_and _ _ _ _ _ _ _ (xP GQ (hr.mono (by decide)) rfl T.GM T.GN T.GO .nil pass0 (@xG _ _ _ (@xH _ _ _ _ _ (pv 3) xS rfl))) (@pe_and _ _ _ _ _ _ _ (xP FG (hr.mono (by decide)) rfl T.FA T.FC T.FE .nil pass0 (@xG _ _ _ (@xH _ _ _ _ _ (pv 0) (@xH _ _ _ _ _ (pv 4) xS rfl) rfl))) (@pe_one _ _ _ _ _ (xP GQ (hr.mono (by decide)) rfl T.GM T.GN T.GO .nil pass0 (@xG _ _ _ (@xH _ _ _ _ _ (pv 5) xS rfl)))))))))))),?_⟩
  rcases th with ⟨t,ht,nt,rfl⟩ | ⟨l,xs,rfl,hl,hx,rfl⟩
  ·refine (zr rfl ⟨x,t, "tuple", rfl,ht,.inr (.inr (.inr rfl)),zr rfl ?_⟩)
   refine iteB1 ?_ (iteB1 rfl q)
   rcases tyS_six ht with rfl | rfl | rfl | rfl | rfl | rfl | rfl <;> first | rfl | exact absurd rfl nt
  ·refine (zr rfl ⟨_, "tuple", "tuple", rfl,tyS_tup hl,.inr (.inr (.inr rfl)),zr rfl (iteB0 rfl ?_)⟩)
   refine (zr rfl ⟨l,zr rfl ⟨.inr (SqT.of hl),rfl,zr rfl ?_⟩⟩)
   by_cases h4:xs.length=4
   ·match xs,h4 with
    | [x0,x1,x2,x3],_=>
     obtain ⟨t0,h0⟩:=hx x0 (by simp)
     obtain ⟨t1,h1⟩:=hx x1 (by simp)
     obtain ⟨t2,h2⟩:=hx x2 (by simp)
     obtain ⟨t3,h3⟩:=hx x3 (by simp)
     refine iteB0 (by simp) ?_
     refine (zr rfl (un4 hl ?_))
     have q:Q (.bl (inB 0 ((rooms.length:Int) - 1) x0 && (inB 0 1000000000 x1 && (inB 0 ((rooms.length:Int) - 1) x2 && inB 0 1000000000 x3)))) H:=q
     refine (zr rfl (zr rfl (ex7 b x0 t0 rooms tr tm ps ⟨rfl,hb,h0,zr rfl (iteB (λc0=>?_) (λc0=>by rw [c0] at q;exact q))⟩)))
     refine (zr rfl ⟨x1,t1,rfl,h1,zr rfl (iteB (λc1=>?_) (λc1=>by rw [c0,c1] at q;exact q))⟩)
     refine (zr rfl (zr rfl (ex7 b x2 t2 rooms tr tm ps ⟨rfl,hb,h2,zr rfl (iteB (λc2=>?_) (λc2=>by rw [c0,c1,c2] at q;exact q))⟩)))
     refine (zr rfl ⟨x3,t3,rfl,h3,?_⟩)
     rw [c0,c1,c2] at q
     exact q
   ·refine iteB1 ?_ ?_
    ·have:¬ V.int (xs.length:Int)=V.int 4:=λz=>h4 (by have:=V.int.inj z;omega)
     simp [this]
    ·have:isLet (rooms.length:Int) (some xs)=false:=by
      unfold isLet
      split
      ·rename_i e;cases e;simp at h4
      ·rfl
     rw [this] at q
     exact q
theorem Fu:FnScope ["book", "letter", "thing", "sender", "since", "wish", "last", "holder", "time", "number", "one", "other", "when", "many"] ["book", "letter", "thing"] (defScope Eg):=⟨rfl,rfl,rfl,by decide +kernel,rfl,by decide +kernel,by decide +kernel⟩
theorem Hk (T:Tx K mg a t_LAST_TIME t_MOST_WALKERS t_MOST_ROOM t_MOST_MEETINGS t_MOST_MANY t_LONGEST_DAY) (B:BmAt mg base):FnOk P w K mg base CX0 5 a.Bu a.Ci ["book", "letter", "thing"] (spIsChain):=by
 have DV:=@DB P w _ _ base _ _ _ _ _ _ _ T B
 have IO:=@Hh P w _ _ base _ _ _ _ _ _ _ T B
 have DN:=@EV P w _ _ base _ _ _ _ _ _ _ T B
 refine T.BU.ok Fu (λvs H Q E h=>?_) (λcdv A outer s H vs Q E hr h=>?_)
 ·obtain ⟨b,lt,lc,_,_,_,_,_,_,_,_,_,_,rfl,_⟩:=h;rfl
 ·have nd:=Fu.nd
  have hu:=hr.units
  obtain ⟨b,lt,lc,s0,w0,a0,z0,e0,rooms,tr,tm,ps,ns,rfl,hb,gd,hL,hc,wk0,lez,q⟩:=h
  refine ⟨_,(@xQ _ _ _ (@xU _ _ _ _ _ _ (@xj _ _ _ _ _ _ _ _ (@PW.pt _ _ _ (@pw_or _ _ _ _ _ _ _ (@wF _ _ _ _ (xz (xP DN (hr.mono (by decide)) rfl T.FB T.FD T.FF .nil pass0 (@xG _ _ _ (@xH _ _ _ _ _ (pv 0) (@xH _ _ _ _ _ (pv 1) xS rfl) rfl))))) (@pw_or1 _ _ _ _ (@wF _ _ _ _ (xz (xW (wN) (by rfl) T.b_isinstance zu (@xG _ _ _ (@xH _ _ _ _ _ (pv 2) (@xH _ _ _ _ _ (pe_bltn (v:=V.ty "list") rfl T.b_list PyProof.Rows.boot_list rfl) xS rfl) rfl)))))))) (@xQ _ _ _ (@xb _ _ _ (@xV _ _ _ _ wZ))) xY) (@xU _ _ _ _ _ _ (xv (pv 1) (xh (n:=4) rfl rfl (xM (xN (i:=3) nd rfl (by first | exact Or.inl rfl | exact Or.inr rfl)) (xM (xN (i:=4) nd rfl (by first | exact Or.inl rfl | exact Or.inr rfl)) (xM (xN (i:=5) nd rfl (by first | exact Or.inl rfl | exact Or.inr rfl)) (xM (xN (i:=6) nd rfl (by first | exact Or.inl rfl | exact Or.inr rfl)) xg)))))) (@xU _ _ _ _ _ _ (xT (i:=7) nd rfl (by first | exact Or.inl rfl | exact Or.inr rfl) (pv 3)) (@xU _ _ _ _ _ _ (xT (i:=8) nd rfl (by first | exact Or.inl rfl | exact Or.inr rfl) (pv 4)) (@xU _ _ _ _ _ _ (wJ PassesOwn.never rfl (@xx _ _ _ _ _ rfl (pv 2)) (xN (i:=9) nd rfl (by first | exact Or.inl rfl | exact Or.inr rfl)) (@xQ _ _ _ (@xU _ _ _ _ _ _ (@xj _ _ _ _ _ _ _ _ (@wF _ _ _ _ (xz (xP DV (hr.mono (by decide)) rfl T.DR T.DS T.DT .nil pass0 (@xG _ _ _ (@xH _ _ _ _ _ (pv 0) (@xH _ _ _ _ _ (pv 9) xS rfl) rfl))))) (@xQ _ _ _ (@xb _ _ _ (@xV _ _ _ _ wZ))) xY) (@xU _ _ _ _ _ _ (xv (@xf _ _ _ _ _ _ _ (xa rfl) (@xf _ _ _ _ _ _ _ (xa rfl) (pv 0) xL (λ_ _=>rfl)) (pv 9) (λ_ _=>rfl)) (xh (n:=4) rfl rfl (xM (xN (i:=10) nd rfl (by first | exact Or.inl rfl | exact Or.inr rfl)) (xM (xN (i:=11) nd rfl (by first | exact Or.inl rfl | exact Or.inr rfl)) (xM (xN (i:=12) nd rfl (by first | exact Or.inl rfl | exact Or.inr rfl)) (xM (xN (i:=13) nd rfl (by first | exact Or.inl rfl | exact Or.inr rfl)) xg)))))) (@xU _ _ _ _ _ _ (@xj _ _ _ _ _ _ _ _ (@PW.pt _ _ _ (@pw_or _ _ _ _ _ _ _ (@xc _ _ _ _ _ _ _ _ op_notIn_seq (pv 7) (@xo _ _ _ _ _ (@xG _ _ _ (@xH _ _ _ _ _ (pv 10) (@xH _ _ _ _ _ (pv 11) xS rfl) rfl))) rfl) (@pw_or1 _ _ _ _ (@xc _ _ _ _ _ _ _ _ op_le (pv 12) (pv 8) (nomark _))))) (@xQ _ _ _ (@xb _ _ _ (@xV _ _ _ _ wZ))) xY) (@xU _ _ _ _ _ _ (xT (i:=7) nd rfl (by first | exact Or.inl rfl | exact Or.inr rfl) (xP IO (hr.mono (by decide)) rfl T.Ij T.Iq T.Iz .nil pass0 (@xG _ _ _ (@xH _ _ _ _ _ (pv 0) (@xH _ _ _ _ _ (pv 9) (@xH _ _ _ _ _ (pv 7) xS rfl) rfl) rfl)))) (@xb _ _ _ (xT (i:=8) nd rfl (by first | exact Or.inl rfl | exact Or.inr rfl) (pv 12))))))))) (@xb _ _ _ (@xV _ _ _ _ (@pe_and _ _ _ _ _ _ _ (@pe_cmpR _ _ _ _ _ _ _ _ op_eq (pv 7) (pv 5) (nomark _)) (@pe_one _ _ _ _ _ (@pe_cmpR _ _ _ _ _ _ _ _ op_le (pv 8) (pv 6) (nomark _)))))))))))),?_⟩
  have line:=line9
  have hlt:=hL.1
  refine (zr rfl (zr rfl (ex7 b (.ref lt) _ rooms tr tm ps ⟨rfl,hb,hL.th,zr rfl (iteB0 (by rw [hL.yes];rfl) (zr rfl ⟨_, "list", "list", rfl,tyS_lst hc,.inr (.inr (.inl rfl)),zr rfl (iteB0 rfl ?_)⟩))⟩)))
  refine (zr rfl (un4 hlt ?_))
  refine (zr rfl (zr rfl (zr rfl ⟨lc,rfl,⟨_,SqL.of hc⟩,?_⟩)))
  refine for_list (K:=K) (a:=lc) (xs:=List.map V.int ns) (λj σ H4=>(∃ v:Nat,∃ t A:Int,∃ v9 v10 v11 v12 v13,σ=[some (.ref b),some (.ref lt),some (.ref lc),some (.int s0),some (.int a0),some (.int w0),some (.int z0),some (.int v),some (.int t),v9,v10,v11,v12,v13]/\walkM (ps.map (·.2)) v t A (ns.drop j)=some (w0,e0))/\Same H H4)
   ⟨⟨s0,a0,-1,_,_,_,zr1 rfl wk0⟩,Same.refl _⟩ (λj σ H4 _ h4=>SqL.of (h4.2 _ _ hc)) ?_ ?_
  ·rintro j x σ H4 hx ⟨⟨v,t,A,v9,v10,v11,v12,v13,rfl,wk⟩,sm⟩
   obtain ⟨n,hn,rfl⟩:=xl hx
   have dr:ns.drop j=n::ns.drop (j + 1):=by
    obtain ⟨h1,h2⟩:=zB.mp hn
    rw [List.drop_eq_getElem_cons h1,h2]
   rw [dr] at wk
   obtain ⟨m,hm,an,n0,vi,tm',wk⟩:=walk_step wk
   obtain ⟨k,rfl⟩:=zb n0
   rw [zy] at hm
   have hk:k < ps.length:=by
    have:=(zB.mp hm).1
    simpa using this
   have em:ps[k].2=m:=by
    have hm2:=hm
    rw [zR,zU hk] at hm2
    exact Option.some.inj hm2
   have hb4:=hb.same sm
   have hrow:=hb4.rows _ (zq hk)
   rw [em] at hrow
   obtain ⟨b1,b2,b3,_⟩:=gd.each m (zC hm)
   refine (zr rfl (zr rfl ⟨b,.int k,ex5 ("int") rooms tr tm ps ⟨rfl,hb4,rfl,zr rfl (iteB0 ?_ ?_)⟩⟩))
   ·have:inB 0 ((ps.length:Int) - 1) (.int (k:Int))=true:=by
     simp only [inB,yS,decide_eq_true_eq];omega
    rw [this];rfl
   refine (zr rfl (ixt hb4.book rfl (zr rfl (ixt hb4.meets (xr (v:=V.ref ps[k].1) (by simp [hk])) (un4 hrow ?_)))))
   have vlo:(m.lo=(v:Int)\/m.hi=(v:Int)):=by
    rcases vi with rfl | rfl
    ·exact .inl (yh b1).symm
    ·exact .inr (yh (by omega)).symm
   refine (zr rfl (zr rfl (zr rfl ⟨by show 2<=sizeLine;omega,λtt htt=>⟨tt,[.int m.lo,.int m.hi],rfl,.inr (SqT.of xI),rfl,rfl,zr rfl (iteB0 ?_ (zr rfl (zr rfl (zr2 rfl rfl (zr rfl (iteD (λc=>absurd c (by omega)) (λc=>?_)))))))⟩⟩)))
   ·show (!inV (.int (v:Int)) [.int m.lo,.int m.hi])=false
    rw [inV_two]
    rcases vlo with h | h
    ·rw [decide_eq_true h];rfl
    ·rw [decide_eq_true h,Bool.or_true];rfl
   have ev:(if (v:Int)=m.lo then m.hi else m.lo)=((if v=m.lo.toNat then m.hi.toNat else m.lo.toNat:Nat):Int):=by
    split <;> split <;> omega
   refine (zr rfl (zr rfl (zr rfl (ex8 b k v rooms tr tm ps m ⟨rfl,hb4.same (xK htt),hm,(zr rfl ⟨⟨_,m.t,(k:Int),some (.int k),some (.int m.lo),some (.int m.hi),some (.int m.t),some (.int m.m),?_,wk⟩,sm.trans (xK htt)⟩)⟩))))
   rw [<-ev];rfl
  ·rintro σ H4 ⟨⟨v,t,A,v9,v10,v11,v12,v13,rfl,wk⟩,sm⟩
   rw [zA,List.drop_length] at wk
   unfold walkM at wk
   obtain ⟨e1,e2⟩:=Prod.mk.inj (Option.some.inj wk)
   subst e1;subst e2
   have:=q _ sm
   rw [<-decide_eq_true lez] at this
   exact (zr rfl (zr rfl ⟨rfl,zr rfl (iteB1 (by simp) (zr rfl (zr rfl (zr2 rfl rfl this))))⟩))
theorem FY:FnScope ["book", "letter", "chain", "sender", "since", "wish", "last"] ["book", "letter", "chain"] (defScope Fa):=⟨rfl,rfl,rfl,by decide +kernel,rfl,by decide +kernel,by decide +kernel⟩
theorem Ih (T:Tx K mg a t_LAST_TIME t_MOST_WALKERS t_MOST_ROOM t_MOST_MEETINGS t_MOST_MANY t_LONGEST_DAY) (B:BmAt mg base):FnOk P w K mg base CX0 1 a.B8 a.CG ["book", "letter", "chain"] (spArrival):=by
 refine T.Cp.ok FY (λvs H Q E h=>?_) (λcdv A outer s H vs Q E hr h=>?_)
 ·obtain ⟨b,lt,lc,_,_,_,_,_,_,_,_,_,_,rfl,_⟩:=h;rfl
 ·have nd:=FY.nd
  have hu:=hr.units
  obtain ⟨b,lt,lc,s0,w0,a0,z0,e0,rooms,tr,tm,ps,ns,rfl,hb,gd,hlt,hc,wk,q⟩:=h
  refine ⟨_,(@xQ _ _ _ (@xU _ _ _ _ _ _ (xv (pv 1) (xh (n:=4) rfl rfl (xM (xN (i:=3) nd rfl (by first | exact Or.inl rfl | exact Or.inr rfl)) (xM (xN (i:=4) nd rfl (by first | exact Or.inl rfl | exact Or.inr rfl)) (xM (xN (i:=5) nd rfl (by first | exact Or.inl rfl | exact Or.inr rfl)) (xM (xN (i:=6) nd rfl (by first | exact Or.inl rfl | exact Or.inr rfl)) xg)))))) (@xb _ _ _ (@xV _ _ _ _ (@pe_ifExp _ _ _ _ _ _ _ _ (pt_truth (pv 2) (λ_=>rfl)) (@xf _ _ _ _ _ _ _ (xa rfl) (@xf _ _ _ _ _ _ _ (xa rfl) (@xf _ _ _ _ _ _ _ (xa rfl) (pv 0) xL (λ_ _=>rfl)) (@xf _ _ _ _ _ _ _ (xi rfl) (pv 2) (@pe_un _ _ _ _ _ _ un_neg xL) (λ_ _=>rfl)) (λ_ _=>rfl)) xL (λ_ _=>rfl)) (pv 4)))))),?_⟩
  refine (zr rfl (un4 hlt ?_))
  rcases walk_last wk with ⟨rfl,rfl⟩ | ⟨n,m,k,h1,rfl,h3,h4⟩
  ·exact (zr rfl ⟨false,.inl ⟨_,SqL.of hc,rfl⟩,zr rfl q⟩)
  ·have hk:k < ps.length:=by
    have:=(zB.mp h3).1
    simpa using this
   have em:ps[k].2=m:=by
    rw [zR,zU hk] at h3
    exact Option.some.inj h3
   have hrow:=hb.rows _ (zq hk)
   rw [em] at hrow
   have ne:(true:Bool)=!(List.map V.int ns).isEmpty:=by
    cases ns with
    | nil=>cases h1
    | cons a b=>rfl
   have atl:atI (List.map V.int ns) (-1)=some (V.int k):=atI_last (by rw [yu,h1];rfl)
   rw [<-h4] at q
   exact (zr rfl ⟨true,.inl ⟨_,SqL.of hc,ne⟩,zr rfl (ixt hb.book rfl (zr rfl (zr rfl (ixl hc atl (ixt hb.meets (xr (v:=V.ref ps[k].1) (by simp [hk])) (ixt hrow rfl q))))))⟩)
theorem CY:FnScope ["book", "sender", "since", "times", "came", "number", "giver", "other", "when"] ["book", "sender", "since"] (defScope Cs):=⟨rfl,rfl,rfl,by decide +kernel,rfl,by decide +kernel,by decide +kernel⟩
theorem C1 (T:Tx K mg a t_LAST_TIME t_MOST_WALKERS t_MOST_ROOM t_MOST_MEETINGS t_MOST_MANY t_LONGEST_DAY) (B:BmAt mg base):FnOk P w K mg base CX0 2 a.Au a.AM ["book", "sender", "since"] (spFirst2):=by
 have EH:=@Fz P w _ _ base _ _ _ _ _ _ _ T B
 have Gk:=@GR P w _ _ base _ _ _ _ _ _ _ T B
 have CL:=@DA P w _ _ base _ _ _ _ _ _ _ T B
 refine T.AD.ok CY (λvs H Q E h=>?_) (λcdv A outer s H vs Q E hr h=>?_)
 ·obtain ⟨b,k,x,_,_,_,_,rfl,_⟩:=h;rfl
 ·have nd:=CY.nd
  have hu:=hr.units
  obtain ⟨b,k,x,rooms,tr,tm,ps,rfl,hb,hn,gd,q⟩:=h
  refine ⟨_,(@xQ _ _ _ (@xU _ _ _ _ _ _ (xT (i:=3) nd rfl (by first | exact Or.inl rfl | exact Or.inr rfl) (xP CL (hr.mono (by decide)) rfl T.Ek T.En T.Er .nil pass0 (@xG _ _ _ (@xH _ _ _ _ _ (pv 0) (@xH _ _ _ _ _ (pv 1) (@xH _ _ _ _ _ (pv 2) xS rfl) rfl) rfl)))) (@xU _ _ _ _ _ _ (xT (i:=4) nd rfl (by first | exact Or.inl rfl | exact Or.inr rfl) pe_dnewK) (@xU _ _ _ _ _ _ (wJ PassesOwn.never rfl (@xx _ _ _ _ _ rfl (xP Gk (hr.mono (by decide)) rfl T.Ii T.Ip T.Iy .nil pass0 (@xG _ _ _ (@xH _ _ _ _ _ (pv 0) xS rfl)))) (xh (n:=4) rfl rfl (xM (xN (i:=5) nd rfl (by first | exact Or.inl rfl | exact Or.inr rfl)) (xM (xN (i:=6) nd rfl (by first | exact Or.inl rfl | exact Or.inr rfl)) (xM (xN (i:=7) nd rfl (by first | exact Or.inl rfl | exact Or.inr rfl)) (xM (xN (i:=8) nd rfl (by first | exact Or.inl rfl | exact Or.inr rfl)) xg))))) (@xQ _ _ _ (@xb _ _ _ (@xj _ _ _ _ _ _ _ _ (@PW.pt _ _ _ (@pw_and _ _ _ _ _ _ _ (pt_cmp (@pc_isN _ _ _ _ _ (@xf _ _ _ _ _ _ _ (xi rfl) (pv 3) (pv 7) (λ_ _=>rfl)))) (@pw_and1 _ _ _ _ (xz (xP EH (hr.mono (by decide)) rfl T.F5 T.Ga T.Gf .nil pass0 (@xG _ _ _ (@xH _ _ _ _ _ (@xf _ _ _ _ _ _ _ (xi rfl) (pv 3) (pv 6) (λ_ _=>rfl)) (@xH _ _ _ _ _ (pv 8) xS rfl) rfl))))))) (@xQ _ _ _ (@xU _ _ _ _ _ _ (xv (pv 8) (pg_sub (pv 3) (pv 7) set_list)) (@xb _ _ _ (ps_dput (Nat.lt_of_le_of_lt (Nat.add_le_add_left (by decide) _) hu) (pv 4) (pv 7) (@xo _ _ _ _ _ (@xG _ _ _ (@xH _ _ _ _ _ (pv 5) (@xH _ _ _ _ _ (pv 6) xS rfl) rfl))) rfl)))) xY)))) (@xb _ _ _ (@xV _ _ _ _ (@xo _ _ _ _ _ (@xG _ _ _ (@xH _ _ _ _ _ (pv 3) (@xH _ _ _ _ _ (pv 4) xS rfl) rfl))))))))),?_⟩
  have line:=line9
  have l60:=gd.len
  refine (zr rfl (zr rfl (zr rfl (ex7 b k x rooms tr tm ps ⟨rfl,hb,hn,λl H1 hl sm1 h1=>?_⟩))))
  refine λd hd=>?_
  have ndl:d≠l:=(xJ h1 hd).symm
  have sm1d:=sm1.trans (xK (o:=HO.dK []) hd)
  have hfd:H d=none:=sm1.free hd
  refine (zr rfl (ex5 b rooms tr tm ps ⟨rfl,hb.same sm1d,gd,λlw ws H2 hlw sm2 h2 hr ew=>?_⟩))
  have h1':=sm2 _ _ (xK (o:=HO.dK []) hd _ _ h1)
  have hd':=sm2 _ _ (xI (H:=H1) (a:=d) (o:=HO.dK []))
  have eall:(ws.map (·.2)).map (·.w)=ways2 (ps.map (·.2)):=by
   have:=waysN_all (ps.map (·.2))
   rw [zA] at this
   rw [ew,this]
  have lws:ws.length=2 * ps.length:=by
   have:=congrArg List.length eall
   rw [zA,zA,ways2_len,zA] at this
   exact this
  have nwl:lw≠l:=(xJ (xK (o:=HO.dK []) hd _ _ h1) hlw).symm
  have nwd:lw≠d:=(xJ (xI (H:=H1) (a:=d) (o:=HO.dK [])) hlw).symm
  refine ⟨lw,rfl,⟨_,SqL.of h2⟩,?_⟩
  refine for_list (K:=K) (a:=lw) (xs:=(ws.map λa=>V.ref a.1)) (λi σ H4=>(∃ v5 v6 v7 v8,σ=[some (.ref b),some (.int k),some (.int x),some (.ref l),some (.ref d),v5,v6,v7,v8])/\Same H H4/\H4 l=some (.lst ((rep rooms.length (((ws.take i).map (·.2.w)).foldl fstep (lone k x))).map oV))/\(∃ kvs,H4 d=some (.dK kvs)/\kvs.length<=i/\Came (ps.map (·.2)) k (((ws.take i).map (·.2.w)).foldl fstep (lone k x)) kvs H4)/\(∀ b u,b≠l->b≠d->H2 b=some u->H4 b=some u))
   ?_ ?_ ?_ ?_
  ·exact ⟨⟨_,_,_,_,rfl⟩,sm1d.trans sm2,h1',⟨[],hd',zD _,λo t h=>.inl (by have h:lone k x o=some t:=h;unfold lone at h;split at h;assumption;cases h)⟩,λ_ _ _ _ e=>e⟩
  ·rintro i σ H4 _ ⟨_,_,_,_,kp⟩
   exact SqL.of (kp lw _ nwl nwd h2)
  ·rintro i y σ H4 hy ⟨⟨v5,v6,v7,v8,rfl⟩,sm4,h4,⟨kvs,h4d,lk,cm⟩,kp⟩
   obtain ⟨r,hr1,rfl⟩:=xl hy
   have hi:i < ws.length:=(zB.mp hr1).1
   have rm:r∈ws:=zC hr1
   have hrow0:=hr r rm
   have nl:r.1≠l:=wa hrow0 h1' (by intro z;cases z)
   have nd2:r.1≠d:=wa hrow0 hd' (by intro z;cases z)
   have hrow:=kp r.1 _ nl nd2 hrow0
   have wm:r.2.w∈ways2 (ps.map (·.2)):=by
    rw [<-eall]
    exact zI.mpr ⟨r.2,zI.mpr ⟨r,rm,rfl⟩,rfl⟩
   obtain ⟨g1,g2,g3,g4,g5⟩:=wR gd wm
   have gl:r.2.w.g < rooms.length:=by omega
   have ol:r.2.w.o < rooms.length:=by omega
   have fold:∀ f:Fn,((ws.take i).map (·.2.w)).foldl fstep (lone k x)=f->((ws.take (i + 1)).map (·.2.w)).foldl fstep (lone k x)=fstep f r.2.w:=λf e=>by
    rw [xp hr1,zG,yR,e];rfl
   refine (un4 hrow ?_)
   generalize ef:((ws.take i).map (·.2.w)).foldl fstep (lone k x)=f at h4 cm
   have fo:=fold f ef
   have hg:((rep rooms.length f).map oV)[r.2.w.g]?=some (oV (f r.2.w.g)):=rep_at gl
   have ho:((rep rooms.length f).map oV)[r.2.w.o]?=some (oV (f r.2.w.o)):=rep_at ol
   refine (zr rfl (zr rfl (ixl h4 (xr ho) (zr rfl (iteD (λc=>?_) (λc=>iteB0 rfl ?_))))))
   ·have c':=oV_non.mp c
    refine (zr rfl (zr rfl (ixl h4 (xr hg) (zr rfl ⟨f r.2.w.g,r.2.w.t,rfl,zr rfl (iteB (λc2=>?_) (λc2=>?_))⟩))))
    ·refine (zr rfl (zr rfl (zr rfl ⟨l,_,_,r.2.w.o,rfl,rfl,h4,ixN_nat (by rw [zA,xy];exact ol),?_⟩)))
     refine (zr rfl (zr rfl ⟨by show 2<=sizeLine;omega,λtt htt=>(zr rfl (zr rfl ⟨d,zr rfl ⟨DPut.k (k:=Sum.inl (r.2.w.o:Int)) (xK htt _ _ (by rw [xO ndl];exact h4d)) (by omega),?_⟩⟩))⟩))
     have nlt:l≠tt:=xJ (xI) htt
     have smx:=(Same.put (o:=HO.lst (((rep rooms.length f).map oV).set r.2.w.o (.int r.2.w.t))) hl sm4).trans (xK (o:=HO.tup [.int r.2.n,.int r.2.w.g]) htt)
     have hdx:=xK (o:=HO.tup [.int r.2.n,.int r.2.w.g]) htt _ _ (show (upd H4 l (HO.lst (((rep rooms.length f).map oV).set r.2.w.o (.int r.2.w.t)))) d=some (.dK kvs) by rw [xO ndl];exact h4d)
     have ntd:tt≠d:=(xJ (show (upd H4 l (HO.lst (((rep rooms.length f).map oV).set r.2.w.o (.int r.2.w.t)))) d=some (.dK kvs) by rw [xO ndl];exact h4d) htt).symm
     have lnk:Link (ps.map (·.2)) r.2.n r.2.w.g r.2.w.o r.2.w.t:=waysN_link (i:=ps.length) (by rw [<-ew];exact zI.mpr ⟨r,rm,rfl⟩)
     have cmN:Came (ps.map (·.2)) k (((ws.take (i + 1)).map (·.2.w)).foldl fstep (lone k x)) (putK kvs (Sum.inl (r.2.w.o:Int)) (.ref tt)) (upd (upd (upd H4 l (HO.lst (((rep rooms.length f).map oV).set r.2.w.o (.int r.2.w.t)))) tt (HO.tup [.int r.2.n,.int r.2.w.g])) d (HO.dK (putK kvs (Sum.inl (r.2.w.o:Int)) (.ref tt)))):=by
      rw [fo]
      unfold fstep
      rw [if_pos ⟨c',c2⟩]
      exact Came.step (x:=r.2) (cm.tups (((Tups.set h4).trans (Tups.new htt)).trans (Tups.setD hdx))) c' c2 lnk (by rw [xO ntd,xI])
     refine ⟨⟨_,_,_,_,rfl⟩,Same.put hfd smx,?_,⟨_,xI,z6 (length_putK _ _ _) (by omega),cmN⟩,λb u nb nb' e=>?_⟩
     ·rw [xO ndl.symm,xO nlt,xI,fo]
      unfold fstep
      rw [if_pos ⟨c',c2⟩,<- rep_set ol,List.map_set];rfl
     ·rw [xO nb']
      exact xK htt _ _ (by rw [xO nb];exact kp b u nb nb' e)
    ·refine ⟨⟨_,_,_,_,rfl⟩,sm4,?_,⟨kvs,h4d,by omega,by rw [fo];unfold fstep;rw [if_neg λz=>by rw [z.2] at c2;cases c2];exact cm⟩,kp⟩
     rw [fo]
     unfold fstep
     rw [if_neg λz=>by rw [z.2] at c2;cases c2]
     exact h4
   ·refine ⟨⟨_,_,_,_,rfl⟩,sm4,?_,⟨kvs,h4d,by omega,by rw [fo];unfold fstep;rw [if_neg λz=>c (oV_non.mpr z.1)];exact cm⟩,kp⟩
    rw [fo]
    unfold fstep
    rw [if_neg λz=>c (oV_non.mpr z.1)]
    exact h4
  ·rintro σ H4 ⟨⟨v5,v6,v7,v8,rfl⟩,sm4,h4,⟨kvs,h4d,lk,cm⟩,kp⟩
   rw [zA,zf] at h4 cm
   have e:((ws.map (·.2.w)).foldl fstep (lone k x))=fwd (ps.map (·.2)) (lone k x):=by
    unfold fwd
    rw [<-eall,zn];rfl
   rw [e] at h4 cm
   exact (zr rfl (zr rfl ⟨by show 2<=sizeLine;omega,λtt htt=>q tt l d kvs _ hl (sm4.trans (xK htt)) xI (xK htt _ _ h4) (xK htt _ _ h4d) (cm.tups (Tups.new htt))⟩))
theorem CM:FnScope ["book", "sender", "since", "times", "came"] ["book", "sender", "since"] (defScope Cb):=⟨rfl,rfl,rfl,by decide +kernel,rfl,by decide +kernel,by decide +kernel⟩
theorem EW (T:Tx K mg a t_LAST_TIME t_MOST_WALKERS t_MOST_ROOM t_MOST_MEETINGS t_MOST_MANY t_LONGEST_DAY) (B:BmAt mg base):FnOk P w K mg base CX0 3 a.As a.AJ ["book", "sender", "since"] (spTimes):=by
 have Cy:=@C1 P w _ _ base _ _ _ _ _ _ _ T B
 refine T.AA.ok CM (λvs H Q E h=>?_) (λcdv A outer s H vs Q E hr h=>?_)
 ·obtain ⟨b,k,x,_,_,_,_,rfl,_⟩:=h;rfl
 ·have nd:=CM.nd
  have hu:=hr.units
  obtain ⟨b,k,x,rooms,tr,tm,ps,rfl,hk,hb,hn,gd,q⟩:=h
  refine ⟨_,(@xQ _ _ _ (@xU _ _ _ _ _ _ (xv (xP Cy (hr.mono (by decide)) rfl T.Dg T.Dh T.Di .nil pass0 (@xG _ _ _ (@xH _ _ _ _ _ (pv 0) (@xH _ _ _ _ _ (pv 1) (@xH _ _ _ _ _ (pv 2) xS rfl) rfl) rfl))) (xh (n:=2) rfl rfl (xM (xN (i:=3) nd rfl (by first | exact Or.inl rfl | exact Or.inr rfl)) (xM (xN (i:=4) nd rfl (by first | exact Or.inl rfl | exact Or.inr rfl)) xg)))) (@xb _ _ _ (@xV _ _ _ _ (pv 3))))),?_⟩
  refine (zr rfl (zr rfl (zr rfl (ex7 b k x rooms tr tm ps ⟨rfl,hb,hn,gd,λt l d kvs H1 hl sm ht h1 _ _=>?_⟩))))
  exact (un2 ht (zr rfl (q l _ hl sm h1)))
theorem Fw:FnScope ["book", "letter", "sender", "since", "wish", "last", "times", "came", "chain", "walker", "number"] ["book", "letter"] (defScope Ei):=⟨rfl,rfl,rfl,by decide +kernel,rfl,by decide +kernel,by decide +kernel⟩
theorem Hl (T:Tx K mg a t_LAST_TIME t_MOST_WALKERS t_MOST_ROOM t_MOST_MEETINGS t_MOST_MANY t_LONGEST_DAY) (B:BmAt mg base):FnOk P w K mg base CX0 5 a.Bw a.Ck ["book", "letter"] (spEarliest):=by
 have Ji:=@Id P w _ _ base _ _ _ _ _ _ _ T B
 have DN:=@EV P w _ _ base _ _ _ _ _ _ _ T B
 have Cy:=@C1 P w _ _ base _ _ _ _ _ _ _ T B
 refine T.BW.ok Fw (λvs H Q E h=>?_) (λcdv A outer s H vs Q E hr h=>?_)
 ·obtain ⟨b,lt,_,_,_,_,_,_,_,_,rfl,_⟩:=h;rfl
 ·have nd:=Fw.nd
  have hu:=hr.units
  obtain ⟨b,lt,s0,w0,a0,z0,rooms,tr,tm,ps,rfl,hb,hn,gd,hL,qn,qy⟩:=h
  refine ⟨_,(@xQ _ _ _ (@xU _ _ _ _ _ _ (@xj _ _ _ _ _ _ _ _ (@wF _ _ _ _ (xz (xP DN (hr.mono (by decide)) rfl T.FB T.FD T.FF .nil pass0 (@xG _ _ _ (@xH _ _ _ _ _ (pv 0) (@xH _ _ _ _ _ (pv 1) xS rfl) rfl))))) (@xQ _ _ _ (@xb _ _ _ (@xV _ _ _ _ pe_non))) xY) (@xU _ _ _ _ _ _ (xv (pv 1) (xh (n:=4) rfl rfl (xM (xN (i:=2) nd rfl (by first | exact Or.inl rfl | exact Or.inr rfl)) (xM (xN (i:=3) nd rfl (by first | exact Or.inl rfl | exact Or.inr rfl)) (xM (xN (i:=4) nd rfl (by first | exact Or.inl rfl | exact Or.inr rfl)) (xM (xN (i:=5) nd rfl (by first | exact Or.inl rfl | exact Or.inr rfl)) xg)))))) (@xU _ _ _ _ _ _ (xv (xP Cy (hr.mono (by decide)) rfl T.Dg T.Dh T.Di .nil pass0 (@xG _ _ _ (@xH _ _ _ _ _ (pv 0) (@xH _ _ _ _ _ (pv 2) (@xH _ _ _ _ _ (pv 3) xS rfl) rfl) rfl))) (xh (n:=2) rfl rfl (xM (xN (i:=6) nd rfl (by first | exact Or.inl rfl | exact Or.inr rfl)) (xM (xN (i:=7) nd rfl (by first | exact Or.inl rfl | exact Or.inr rfl)) xg)))) (@xU _ _ _ _ _ _ (@xj _ _ _ _ _ _ _ _ (@wF _ _ _ _ (xz (xP Ji (hr.mono (by decide)) rfl T.IV T.IZ T.Jb .nil pass0 (@xG _ _ _ (@xH _ _ _ _ _ (@xf _ _ _ _ _ _ _ (xi rfl) (pv 6) (pv 4) (λ_ _=>rfl)) (@xH _ _ _ _ _ (pv 5) xS rfl) rfl))))) (@xQ _ _ _ (@xb _ _ _ (@xV _ _ _ _ pe_non))) xY) (@xU _ _ _ _ _ _ (xT (i:=8) nd rfl (by first | exact Or.inl rfl | exact Or.inr rfl) (@wG _ _ _ _ wX)) (@xU _ _ _ _ _ _ (xT (i:=9) nd rfl (by first | exact Or.inl rfl | exact Or.inr rfl) (pv 4)) (@xU _ _ _ _ _ _ (@ps_while _ _ _ _ _ _ PassesOwn.never (@xc _ _ _ _ _ _ _ _ op_ne (pv 9) (pv 2) (nomark _)) (@xQ _ _ _ (@xU _ _ _ _ _ _ (xv (pe_dget (Nat.lt_of_le_of_lt (Nat.add_le_add_left (by decide) _) hu) (pv 7) (pv 9) (λ_ _=>rfl)) (xh (n:=2) rfl rfl (xM (xN (i:=10) nd rfl (by first | exact Or.inl rfl | exact Or.inr rfl)) (xM (xN (i:=9) nd rfl (by first | exact Or.inl rfl | exact Or.inr rfl)) xg)))) (@xb _ _ _ (wP (pe_bm zo zl zm wQ (pv 8) (@xG _ _ _ (@xH _ _ _ _ _ (pv 10) xS rfl)))))))) (@xb _ _ _ (@xV _ _ _ _ (@pe_revL _ _ _ _ _ _ _ _ _ rfl (pv 8)))))))))))),?_⟩
  have line:=line9
  obtain ⟨hlt,hs1,hw1,_⟩:=id hL
  refine (zr rfl (zr rfl (ex7 b (.ref lt) _ rooms tr tm ps ⟨rfl,hb,hL.th,zr rfl (iteB0 (by rw [hL.yes];rfl) ?_)⟩)))
  refine (zr rfl (un4 hlt ?_))
  refine (zr rfl (zr rfl (zr rfl (ex7 b s0 a0 rooms tr tm ps ⟨rfl,hb,hn,gd,λt l d kvs H1 hl sm1 ht h1 hd cm=>(un2 ht ?_)⟩))))
  generalize eE:fwd (ps.map (·.2)) (lone s0 a0)=E0 at qn qy h1 cm
  have er:=early_fwd (s:=s0) (x:=a0) gd
  rw [eE] at er
  refine (zr rfl (zr rfl (ixl h1 (xr (rep_at hw1)) (zr rfl ⟨E0 w0,z0,rfl,zr rfl (iteB (λc=>?_) (λc=>?_))⟩))))
  ·exact qn (by cases e:upto (E0 w0) z0 with
    | false=>rfl
    | true=>rw [e] at c;cases c) _ sm1
  obtain ⟨ew,hew,lez⟩:∃ e,E0 w0=some e/\e<=z0:=upto_iff.mp (by cases e:upto (E0 w0) z0 with
    | true=>rfl
    | false=>rw [e] at c;cases c)
  refine ⟨zT _,λlc hlc=>(zr rfl ?_)⟩
  have hlcH:H lc=none:=sm1.free hlc
  refine while_by (fun σ H4=>∃ (v:Nat) (e:Int) (cs:List Int),∃ v10,σ=[some (.ref b),some (.ref lt),some (.int s0),some (.int a0),some (.int w0),some (.int z0),some (.ref l),some (.ref d),some (.ref lc),some (.int v),v10]/\E0 v=some e/\H4 lc=some (.lst (List.map V.int cs.reverse)) /\
    (∀ b u,b≠lc->H1 b=some u->H4 b=some u)/\cs.length + rankE rooms.length E0 e<=rooms.length /\
    (∀ A:Int,(A=-1\/∃ n:Nat,∃ m,A=n/\(ps.map (·.2))[n]?=some m/\m.t<=e)->walkM (ps.map (·.2)) v e A cs=some (w0,ew)))
   (fun σ _=>mu rooms.length E0 σ) ?_ ?_ ?_
  ·exact ⟨w0,ew,[],zr rfl ⟨hew,xI,λb u nb e=>by rw [xO nb];exact e,by have:=rank_le rooms.length E0 ew;simpa using this,λA _=>rfl⟩⟩
  ·rintro σ H4 ⟨v,e,cs,v10,rfl,he,hc,kp,lrk,wk⟩
   refine (zr rfl (zr rfl ⟨rfl,zr rfl ?_⟩))
   by_cases hv:v=s0
   ·subst hv
    rw [er.self] at he;cases he
    refine iteNS2 rfl ?_
    refine (zr rfl ⟨lc,zr rfl ⟨SqL.of hc,λlr hlr=>?_⟩⟩)
    have e1:(List.map V.int cs.reverse).reverse=List.map V.int cs:=by rw [<-yU,List.reverse_reverse]
    rw [e1]
    have smH:Same H H4:=λb u eb=>kp b u (xJ eb hlcH) (sm1 b u eb)
    exact qy ew lr cs _ hew lez (smH.free hlr) (smH.trans (xK hlr)) xI (by omega) (wk (-1) (.inl rfl))
   ·refine iteB1 (by have:¬ V.int (v:Int)=V.int (s0:Int):=λz=>hv (by have:=V.int.inj z;omega);simp [this]) ?_
    obtain hv' | ⟨tt,n,g,y,c1,c2,c3,c4,c5⟩:=cm v e he
    ·exact absurd hv' hv
    obtain ⟨gi,vi,gv⟩:=c3.inside gd
    have hd4:=kp d _ (λz=>by rw [z] at hd;rw [hd] at hlc;cases hlc) hd
    have ht4:=kp tt _ (λz=>by rw [z] at c2;rw [c2] at hlc;cases hlc) c2
    have dg:DGet H4 d (.int (v:Int)) (some (.ref tt)):=by
     have:=DGet.k (k:=Sum.inl (v:Int)) hd4
     rw [c1] at this;exact this
    have rl:=rank_lt gi c4 c5
    refine (zr rfl (zr rfl ⟨d,.ref tt,rfl,dg,un2 ht4 ?_⟩))
    refine (zr rfl ⟨.inl ⟨rfl,_,SqL.of hc⟩,zr rfl ⟨lc,zr2 rfl rfl ⟨hc,by rw [zA,yg];omega,⟨g,y,(n:Int)::cs,zr rfl ⟨c4,?_,λb u nb eb=>by rw [xO nb];exact kp b u nb eb,by rw [za];omega,λA hA=>?_⟩⟩,?_⟩⟩⟩)
    ·rw [xI,List.reverse_cons,zG];rfl
    ·obtain ⟨m,hm,mt,_⟩:=id c3
     have an:A < n:=by
      rcases hA with rfl | ⟨n',m',rfl,hm',lt'⟩
      ·omega
      ·have:=idx_lt gd.ord.2 hm' hm (by omega)
       omega
     rw [walk_cons c3 gv c5 an]
     exact wk n (.inr ⟨n,m,rfl,hm,by omega⟩)
    ·show mu rooms.length E0 _ < mu rooms.length E0 _
     unfold mu
     simp only [yZ,yY,yC,yK,zy,c4,he]
     exact rl
  ·rintro σ H4 Q1 Q2 hq ⟨x,hx,y,hy,hsc,k1,hk1,h⟩
   exact ⟨x,hx,y,hy,hsc,k1,hk1,hq _ _ h⟩
theorem Fs:FnScope ["book", "wish", "last", "left", "number", "giver", "other", "when"] ["book", "wish", "last"] (defScope Ee):=⟨rfl,rfl,rfl,by decide +kernel,rfl,by decide +kernel,by decide +kernel⟩
theorem Hi (T:Tx K mg a t_LAST_TIME t_MOST_WALKERS t_MOST_ROOM t_MOST_MEETINGS t_MOST_MANY t_LONGEST_DAY) (B:BmAt mg base):FnOk P w K mg base CX0 2 a.Bs a.Cg ["book", "wish", "last"] (spLeavings):=by
 have Jj:=@Ig P w _ _ base _ _ _ _ _ _ _ T B
 have Gk:=@GR P w _ _ base _ _ _ _ _ _ _ T B
 have CL:=@DA P w _ _ base _ _ _ _ _ _ _ T B
 refine T.BR.ok Fs (λvs H Q E h=>?_) (λcdv A outer s H vs Q E hr h=>?_)
 ·obtain ⟨b,k,x,_,_,_,_,rfl,_⟩:=h;rfl
 ·have nd:=Fs.nd
  have hu:=hr.units
  obtain ⟨b,k,x,rooms,tr,tm,ps,rfl,hb,hn,gd,q⟩:=h
  refine ⟨_,(@xQ _ _ _ (@xU _ _ _ _ _ _ (xT (i:=3) nd rfl (by first | exact Or.inl rfl | exact Or.inr rfl) (xP CL (hr.mono (by decide)) rfl T.Ek T.En T.Er .nil pass0 (@xG _ _ _ (@xH _ _ _ _ _ (pv 0) (@xH _ _ _ _ _ (pv 1) (@xH _ _ _ _ _ (pv 2) xS rfl) rfl) rfl)))) (@xU _ _ _ _ _ _ (wJ PassesOwn.never rfl (@xx _ _ _ _ _ rfl (@pe_revL _ _ _ _ _ _ _ _ _ rfl (xP Gk (hr.mono (by decide)) rfl T.Ii T.Ip T.Iy .nil pass0 (@xG _ _ _ (@xH _ _ _ _ _ (pv 0) xS rfl))))) (xh (n:=4) rfl rfl (xM (xN (i:=4) nd rfl (by first | exact Or.inl rfl | exact Or.inr rfl)) (xM (xN (i:=5) nd rfl (by first | exact Or.inl rfl | exact Or.inr rfl)) (xM (xN (i:=6) nd rfl (by first | exact Or.inl rfl | exact Or.inr rfl)) (xM (xN (i:=7) nd rfl (by first | exact Or.inl rfl | exact Or.inr rfl)) xg))))) (@xQ _ _ _ (@xb _ _ _ (@xj _ _ _ _ _ _ _ _ (@PW.pt _ _ _ (@pw_and _ _ _ _ _ _ _ (pt_cmp (@pc_isN _ _ _ _ _ (@xf _ _ _ _ _ _ _ (xi rfl) (pv 3) (pv 5) (λ_ _=>rfl)))) (@pw_and1 _ _ _ _ (xz (xP Jj (hr.mono (by decide)) rfl T.IW T.I0 T.Jc .nil pass0 (@xG _ _ _ (@xH _ _ _ _ _ (@xf _ _ _ _ _ _ _ (xi rfl) (pv 3) (pv 6) (λ_ _=>rfl)) (@xH _ _ _ _ _ (pv 7) xS rfl) rfl))))))) (@xQ _ _ _ (@xb _ _ _ (xv (@xZ _ _ _ _ _ _ _ _ op_sub (pv 7) xL) (pg_sub (pv 3) (pv 5) set_list)))) xY)))) (@xb _ _ _ (@xV _ _ _ _ (pv 3)))))),?_⟩
  have line:=line9
  refine (zr rfl (zr rfl (zr rfl (ex7 b k x rooms tr tm ps ⟨rfl,hb,hn,λl H1 hl sm1 h1=>?_⟩))))
  refine (zr rfl (ex5 b rooms tr tm ps ⟨rfl,hb.same sm1,gd,λlw ws H2 hlw sm2 h2 hr ew=>?_⟩))
  refine ⟨lw,zr rfl ⟨SqL.of h2,λlr hlr=>?_⟩⟩
  have h1':=sm2 _ _ h1
  have eall:(ws.map (·.2)).map (·.w)=ways2 (ps.map (·.2)):=by
   have:=waysN_all (ps.map (·.2))
   rw [zA] at this
   rw [ew,this]
  refine ⟨lr,rfl,⟨_,SqL.of xI⟩,?_⟩
  refine for_list (K:=K) (a:=lr) (xs:=(ws.reverse.map λa=>V.ref a.1)) (λi σ H4=>(∃ v4 v5 v6 v7,σ=[some (.ref b),some (.int k),some (.int x),some (.ref l),v4,v5,v6,v7])/\Same H H4/\H4 l=some (.lst ((rep rooms.length (((ws.reverse.take i).map (·.2.w)).foldl bstep (lone k x))).map oV))/\(∀ b u,b≠l->(upd H2 lr (.lst (ws.map λa=>V.ref a.1).reverse)) b=some u->H4 b=some u))
   ?_ ?_ ?_ ?_
  ·exact ⟨⟨_,_,_,_,rfl⟩,(sm1.trans sm2).trans (xK hlr),xK hlr _ _ h1',λ_ _ _ e=>e⟩
  ·rintro i σ H4 _ ⟨_,_,_,kp⟩
   have nl:lr≠l:=(xJ h1' hlr).symm
   exact SqL.of (by rw [kp lr _ nl xI,yU])
  ·rintro i y σ H4 hy ⟨⟨v4,v5,v6,v7,rfl⟩,sm4,h4,kp⟩
   obtain ⟨r,hr1,rfl⟩:=xl hy
   have rm:r∈ws:=List.mem_reverse.mp (zC hr1)
   have hrow0:=hr r rm
   have nl:r.1≠l:=wa hrow0 h1' (by intro z;cases z)
   have hrow:=kp r.1 _ nl (xK hlr _ _ hrow0)
   have wm:r.2.w∈ways2 (ps.map (·.2)):=by
    rw [<-eall]
    exact zI.mpr ⟨r.2,zI.mpr ⟨r,rm,rfl⟩,rfl⟩
   obtain ⟨g1,g2,g3,g4,g5⟩:=wR gd wm
   have gl:r.2.w.g < rooms.length:=by omega
   have ol:r.2.w.o < rooms.length:=by omega
   have fold:∀ f:Fn,((ws.reverse.take i).map (·.2.w)).foldl bstep (lone k x)=f->((ws.reverse.take (i + 1)).map (·.2.w)).foldl bstep (lone k x)=bstep f r.2.w:=λf e=>by
    rw [xp hr1,zG,yR,e];rfl
   refine (un4 hrow ?_)
   generalize ef:((ws.reverse.take i).map (·.2.w)).foldl bstep (lone k x)=f at h4
   have fo:=fold f ef
   have hg:((rep rooms.length f).map oV)[r.2.w.g]?=some (oV (f r.2.w.g)):=rep_at gl
   have ho:((rep rooms.length f).map oV)[r.2.w.o]?=some (oV (f r.2.w.o)):=rep_at ol
   refine (zr rfl (zr rfl (ixl h4 (xr hg) (zr rfl (iteD (λc=>?_) (λc=>iteB0 rfl ?_))))))
   ·have c':=oV_non.mp c
    refine (zr rfl (zr rfl (ixl h4 (xr ho) (zr rfl ⟨f r.2.w.o,r.2.w.t,rfl,zr rfl (iteB (λc2=>?_) (λc2=>?_))⟩))))
    ·refine (zr rfl (zr2 rfl rfl (zr rfl (zr rfl ⟨l,_,_,r.2.w.g,rfl,rfl,h4,ixN_nat (by rw [zA,xy];exact gl),⟨_,_,_,_,rfl⟩,Same.put hl sm4,?_,λb u nb e=>by rw [xO nb];exact kp b u nb e⟩))))
     rw [xI,fo]
     unfold bstep
     rw [if_pos ⟨c',c2⟩,<- rep_set gl,List.map_set];rfl
    ·refine ⟨⟨_,_,_,_,rfl⟩,sm4,?_,kp⟩
     rw [fo]
     unfold bstep
     rw [if_neg λz=>by rw [z.2] at c2;cases c2]
     exact h4
   ·refine ⟨⟨_,_,_,_,rfl⟩,sm4,?_,kp⟩
    rw [fo]
    unfold bstep
    rw [if_neg λz=>c (oV_non.mpr z.1)]
    exact h4
  ·rintro σ H4 ⟨⟨v4,v5,v6,v7,rfl⟩,sm4,h4,kp⟩
   refine (zr rfl (q l _ hl sm4 ?_))
   rw [zA,zf] at h4
   have e:((ws.reverse.map (·.2.w)).foldl bstep (lone k x))=bwd (ps.map (·.2)) k x:=by
    unfold bwd
    rw [<-eall,zn,<- yU];rfl
   rw [e] at h4
   exact h4
theorem Hg:FnScope ["book", "day", "walker", "other", "told", "whens", "since", "time"] ["book", "day", "walker", "other"] (defScope EU):=⟨rfl,rfl,rfl,by decide +kernel,rfl,by decide +kernel,by decide +kernel⟩
theorem Jn (T:Tx K mg a t_LAST_TIME t_MOST_WALKERS t_MOST_ROOM t_MOST_MEETINGS t_MOST_MANY t_LONGEST_DAY) (B:BmAt mg base):FnOk P w K mg base CX0 5 a.CP a.DO ["book", "day", "walker", "other"] (spWaits):=by
 have GJ:=@FZ P w _ _ base _ _ _ _ _ _ _ T B
 have CW:=@DC P w _ _ base _ _ _ _ _ _ _ T B
 refine T.Dd.ok Hg (λvs H Q E h=>?_) (λcdv A outer s H vs Q E hr h=>?_)
 ·obtain ⟨b,day,k,w,_,_,_,_,rfl,_⟩:=h;rfl
 ·have nd:=Hg.nd
  have hu:=hr.units
  obtain ⟨b,day,k,w0,rooms,tr,tm,ps,rfl,hb,hn,gd,hk,hw,d1,d6,hd,qn,qy⟩:=h
  refine ⟨_,(@xQ _ _ _ (@xU _ _ _ _ _ _ (xT (i:=4) nd rfl (by first | exact Or.inl rfl | exact Or.inr rfl) (@wG _ _ _ _ wX)) (@xU _ _ _ _ _ _ (ps_setComp (ix:=5) nd rfl (by first | exact Or.inl rfl | exact Or.inr rfl) (own:=["number"]) (caps:=[0]) rfl (show CompScope ["number"] [0] ["book", "day", "walker", "other", "told", "whens", "since", "time"] (defScope EU) _ from ⟨rfl,by decide +kernel,by decide +kernel,by decide +kernel,by decide +kernel⟩) (@xx _ _ _ _ _ rfl (xP GJ (hr.mono (by decide)) rfl T.Gw T.Gy T.GA .nil pass0 (@xG _ _ _ (@xH _ _ _ _ _ (pv 0) (@xH _ _ _ _ _ (pv 2) xS rfl) rfl)))) (λ_ _ _ _=>(xN (i:=0) (show List.Nodup (["number", "book"]:List Str) from by decide +kernel) rfl (by first | exact Or.inl rfl | exact Or.inr rfl))) (λ_ _ _ _=>pts_nil) (λ_ _ _ _=>(@xf _ _ _ _ _ _ _ (xa rfl) (@xf _ _ _ _ _ _ _ (xa rfl) (@xf _ _ _ _ _ _ _ (xa rfl) (pv 1) xL (λ_ _=>rfl)) (pv 0) (λ_ _=>rfl)) xL (λ_ _=>rfl)))) (@xU _ _ _ _ _ _ (wJ PassesOwn.never rfl (@xx _ _ _ _ _ rfl (@xZ _ _ _ _ _ _ _ _ op_cat (@wG _ _ _ _ (@xG _ _ _ (@xH _ _ _ _ _ xL xS rfl))) (pe_comp (own:=["when"]) (caps:=[1]) rfl (show CompScope ["when"] [1] ["book", "day", "walker", "other", "told", "whens", "since", "time"] (defScope EU) _ from ⟨rfl,by decide +kernel,by decide +kernel,by decide +kernel,by decide +kernel⟩) (@xx _ _ _ _ _ rfl (pv 5)) (λ_ _ _ _=>(xN (i:=0) (show List.Nodup (["when", "day"]:List Str) from by decide +kernel) rfl (by first | exact Or.inl rfl | exact Or.inr rfl))) (λ_ _ _ _=>pts_one (@xc _ _ _ _ _ _ _ _ op_ne (pv 0) (pv 1) (nomark _))) (λ_ _ _ _=>(pv 0))))) (xN (i:=6) nd rfl (by first | exact Or.inl rfl | exact Or.inr rfl)) (@xQ _ _ _ (@xU _ _ _ _ _ _ (xT (i:=7) nd rfl (by first | exact Or.inl rfl | exact Or.inr rfl) (@xf _ _ _ _ _ _ _ (xi rfl) (xP CW (hr.mono (by decide)) rfl T.Ea T.Eb T.Ec .nil pass0 (@xG _ _ _ (@xH _ _ _ _ _ (pv 0) (@xH _ _ _ _ _ (pv 1) (@xH _ _ _ _ _ (pv 2) (@xH _ _ _ _ _ (pv 6) xS rfl) rfl) rfl) rfl))) (pv 3) (λ_ _=>rfl))) (@xU _ _ _ _ _ _ (@xj _ _ _ _ _ _ _ _ (pt_cmp (@pc_isN _ _ _ _ _ (pv 7))) (@xQ _ _ _ (@xb _ _ _ (@xV _ _ _ _ pe_non))) xY) (@xb _ _ _ (@xj _ _ _ _ _ _ _ _ (@PW.pt _ _ _ (@pw_or _ _ _ _ _ _ _ (@wF _ _ _ _ (pt_truth (pv 4) (λ_=>rfl))) (@pw_or1 _ _ _ _ (@xc _ _ _ _ _ _ _ _ op_ne (@xf _ _ _ _ _ _ _ (xa rfl) (@xf _ _ _ _ _ _ _ (xi rfl) (pv 4) (@pe_un _ _ _ _ _ _ un_neg xL) (λ_ _=>rfl)) xL (λ_ _=>rfl)) (pv 7) (nomark _))))) (@xQ _ _ _ (@xb _ _ _ (wP (pe_bm zo zl zm wQ (pv 4) (@xG _ _ _ (@xH _ _ _ _ _ (@xo _ _ _ _ _ (@xG _ _ _ (@xH _ _ _ _ _ (pv 6) (@xH _ _ _ _ _ (pv 7) xS rfl) rfl))) xS rfl)))))) xY)))))) (@xb _ _ _ (@xV _ _ _ _ (pv 4))))))),?_⟩
  have line:=line9
  have l60:=gd.len
  refine ⟨zT _,λlt hlt=>?_⟩
  have sm1:=xK (o:=HO.lst []) hlt
  have h1:(upd H lt (HO.lst [])) lt=some (.lst []):=xI
  generalize upd H lt (HO.lst [])=H1 at sm1 h1 ⊢
  have hb1:=hb.same sm1
  refine (zr rfl (zr rfl (ex6 b k rooms tr tm ps ⟨rfl,hb1,by omega,λlm H2 hlm sm2 h2=>⟨lm,rfl,⟨_,SqL.of h2⟩,?_⟩⟩)))
  have lnum:=numsTo_len (ps.map (·.2)) k ps.length
  have sm12:=sm1.trans sm2
  have hb2:=hb.same sm12
  refine comp_list (K:=K) (a:=lm) (xs:=(numsTo (ps.map (·.2)) k ps.length).map V.int) (λi τ acc H5=>(∃ t0,τ=[t0,some (.ref b)])/\acc=(((numsTo (ps.map (·.2)) k ps.length).take i).map (whenOf (ps.map (·.2)))).map V.int/\H2=H5) ?_ (by rw [zA];omega) ?_ ?_ ?_
  ·exact ⟨⟨_,rfl⟩,rfl,rfl⟩
  ·rintro i τ acc H5 ⟨⟨t0,rfl⟩,rfl,rfl⟩
   exact ⟨by rw [zA,zA,zZ];omega,SqL.of h2⟩
  ·rintro i y τ acc H5 C hx ⟨⟨t0,rfl⟩,rfl,rfl⟩ hC
   obtain ⟨j,hj,rfl⟩:=xl hx
   obtain ⟨n,rfl,ln,r,hr,_⟩:=nums_mem (zC hj)
   have em:ps[n].2=r:=by
    rw [zR,zU ln] at hr
    exact Option.some.inj hr
   have hrow:=hb2.rows _ (zq ln)
   rw [em] at hrow
   refine (zr rfl (ixt hb2.book rfl (zr rfl (ixt hb2.meets (xr (v:=V.ref ps[n].1) (by simp [ln])) (ixt hrow rfl (hC _ _ _ ⟨⟨_,rfl⟩,?_,rfl⟩))))))
   rw [xp hj,zG,zG,<- whenOf_nat hr];rfl
  ·rintro τ acc H5 ⟨⟨t0,rfl⟩,rfl,rfl⟩ lw hlw
   rw [zA,zf]
   have ew:((numsTo (ps.map (·.2)) k ps.length).map (whenOf (ps.map (·.2))))=whens (ps.map (·.2)) k:=by unfold whens;rw [zA]
   rw [ew]
   have sm3:=xK (o:=HO.lst ((whens (ps.map (·.2)) k).map V.int)) hlw
   have h3:(upd H2 lw (HO.lst ((whens (ps.map (·.2)) k).map V.int))) lw=some (.lst ((whens (ps.map (·.2)) k).map V.int)):=xI
   generalize upd H2 lw (HO.lst ((whens (ps.map (·.2)) k).map V.int))=H3 at sm3 h3 ⊢
   refine ⟨by show 1<=sizeLine;omega,λl0 hl0=>?_⟩
   have sm4:=sm3.trans (xK (o:=HO.lst [V.int 0]) hl0)
   have h4:=xK (o:=HO.lst [V.int 0]) hl0 _ _ h3
   have h40:(upd H3 l0 (HO.lst [V.int 0])) l0=some (.lst [V.int 0]):=xI
   generalize upd H3 l0 (HO.lst [V.int 0])=H4 at sm4 h4 h40 ⊢
   have lwh:(whens (ps.map (·.2)) k).length<=ps.length:=by unfold whens;rw [zA,zA];exact lnum
   refine (zr rfl ⟨lw,rfl,⟨_,SqL.of h4⟩,?_⟩)
   refine comp_list (K:=K) (a:=lw) (xs:=(whens (ps.map (·.2)) k).map V.int) (λi τ acc H5=>(∃ t0,τ=[t0,some (.int day)])/\acc=(((whens (ps.map (·.2)) k).take i).filter λx=>decide (x≠day)).map V.int/\H4=H5) ?_ (by rw [zA];omega) ?_ ?_ ?_
   ·exact ⟨⟨_,rfl⟩,rfl,rfl⟩
   ·rintro i τ acc H5 ⟨⟨t0,rfl⟩,rfl,rfl⟩
    refine ⟨?_,SqL.of h4⟩
    have:=ya (λx=>decide (x≠day)) ((whens (ps.map (·.2)) k).take i)
    rw [zZ] at this
    rw [zA];omega
   ·rintro i y τ acc H5 C hx ⟨⟨t0,rfl⟩,rfl,rfl⟩ hC
    obtain ⟨j,hj,rfl⟩:=xl hx
    refine (zr rfl (zr rfl ⟨rfl,zr rfl (iteB (λc=>(zr rfl (hC _ _ _ ⟨⟨_,rfl⟩,?_,rfl⟩))) (λc=>hC _ _ _ ⟨⟨_,rfl⟩,?_,rfl⟩))⟩))
    ·have c':j≠day:=λe=>by rw [e] at c;simp at c
     rw [xp hj,yI,zG];simp [c']
    ·have c':j=day:=by
      have:V.int j=V.int day:=by simpa using c
      exact V.int.inj this
     rw [xp hj,yI];simp [c']
   ·rintro τ acc H5 ⟨⟨t0,rfl⟩,rfl,rfl⟩ lc hlc
    rw [zA,zf]
    generalize ef:(whens (ps.map (·.2)) k).filter (λx=>decide (x≠day))=fs
    have lfs:fs.length<=ps.length:=by
     have:=ya (λx=>decide (x≠day)) (whens (ps.map (·.2)) k)
     rw [ef] at this;omega
    have sm5:=sm4.trans (xK (o:=HO.lst (fs.map V.int)) hlc)
    have h50:=xK (o:=HO.lst (fs.map V.int)) hlc _ _ h40
    have h5:(upd H4 lc (HO.lst (fs.map V.int))) lc=some (.lst (fs.map V.int)):=xI
    generalize upd H4 lc (HO.lst (fs.map V.int))=H5 at sm5 h50 h5 ⊢
    refine ⟨l0,lc,zr2 rfl rfl ⟨h50,h5,by rw [zA];show 1 + fs.length<=sizeLine;omega,λl3 hl3=>?_⟩⟩
    have ea:anch (ps.map (·.2)) day k=0::fs:=by unfold anch;rw [ef]
    rw [show [V.int 0]++fs.map V.int=(anch (ps.map (·.2)) day k).map V.int by rw [ea];rfl]
    have sm6:=sm5.trans (xK (o:=HO.lst ((anch (ps.map (·.2)) day k).map V.int)) hl3)
    have h6:(upd H5 l3 (HO.lst ((anch (ps.map (·.2)) day k).map V.int))) l3=some (.lst ((anch (ps.map (·.2)) day k).map V.int)):=xI
    generalize upd H5 l3 (HO.lst ((anch (ps.map (·.2)) day k).map V.int))=H6 at sm6 h6 ⊢
    have sm26:=sm2.trans sm6
    have sm16:=sm1.trans sm26
    have h6t:=sm26 _ _ h1
    have n3t:l3≠lt:=λe=>by
     rw [e,h6t] at h6
     have:=Option.some.inj h6
     injection this with this
     rw [ea] at this;cases this
    have each:∀ x∈anch (ps.map (·.2)) day k,0<=x/\x<=1000000:=λx hx=>by
     rw [ea] at hx
     rcases zF.mp hx with rfl | hx
     ·exact ⟨by decide,by decide⟩
     ·rw [<-ef] at hx
      obtain ⟨m,hm,e⟩:=whens_mem gd (yn.mp hx).1
      have h1:=(gd.each m hm).2.2.2.1
      have h2:=hd m hm
      omega
    refine ⟨l3,rfl,⟨_,SqL.of h6⟩,?_⟩
    by_cases z0:tOf (ps.map (·.2)) day rooms.length k w0 0=none
    ·refine for_list (K:=K) (a:=l3) (xs:=(anch (ps.map (·.2)) day k).map V.int) (λi σ H7=>i=0/\σ=[some (.ref b),some (.int day),some (.int k),some (.int w0),some (.ref lt),some (.ref lw),none,none]/\H7=H6)
      ⟨rfl,rfl,rfl⟩ (λi σ H7 _ h7=>by rw [h7.2.2];exact SqL.of h6) ?_ ?_
     ·rintro i y σ H7 hx ⟨rfl,rfl,rfl⟩
      rw [ea] at hx
      cases hx
      refine (zr rfl (zr rfl (zr rfl (zr rfl (ex8 b day k 0 rooms tr tm ps ⟨rfl,hb.same sm16,hn,gd,d1,d6,hd,by omega,by omega,λl H8 hl sm8 h8=>(zr rfl (ixl h8 (show atI _ _=some V.non by rw [xr (rep_at hw)];rw [show agF (ps.map (·.2)) day (0 / day) (lone k 0) rooms.length w0=none from z0];rfl) ?_))⟩)))))
      exact (zr rfl (zr rfl (iteB1 rfl (qn z0 _ (sm16.trans sm8)))))
     ·rintro σ H7 ⟨e,_⟩
      rw [ea] at e;cases e
    ·refine for_list (K:=K) (a:=l3) (xs:=(anch (ps.map (·.2)) day k).map V.int) (λi σ H7=>∃ qs:List (Addr×Int×Int),(∃ v6 v7,σ=[some (.ref b),some (.int day),some (.int k),some (.int w0),some (.ref lt),some (.ref lw),v6,v7])/\H7 lt=some (.lst (qs.map λa=>V.ref a.1))/\(∀ a∈qs,H7 a.1=some (.tup [.int a.2.1,.int a.2.2]))/\qs.map (·.2)=toldF (tOf (ps.map (·.2)) day rooms.length k w0) ((anch (ps.map (·.2)) day k).take i)/\But lt H6 H7)
      ⟨[],⟨_,_,rfl⟩,h6t,λ_ h=>(nomatch h),rfl,But.refl _ _⟩ (λi σ H7 _ h7=>by obtain ⟨_,_,_,_,_,bt⟩:=h7;exact SqL.of (bt l3 _ n3t h6)) ?_ ?_
     ·rintro i y σ H7 hx ⟨qs,⟨v6,v7,rfl⟩,h7,hqs,eqs,bt⟩
      obtain ⟨x,hx1,rfl⟩:=xl hx
      have hi:=(zB.mp hx1).1
      obtain ⟨x0,x6⟩:=each x (zC hx1)
      have sm7:Same H H7:=λb u e=>bt b u (xJ e hlt) (sm16 b u e)
      obtain ⟨yy,hyy⟩:∃ yy,tOf (ps.map (·.2)) day rooms.length k w0 x=some yy:=zw.mp λe=>z0 (((agDE (x:=0) gd hk d1 hd).same (agDE (x:=x) gd hk d1 hd) d1 w0).mpr e)
      have lqs:qs.length<=ps.length + 1:=by
       have h1:=congrArg List.length eqs
       have h2:=told_len (T:=tOf (ps.map (·.2)) day rooms.length k w0) ((anch (ps.map (·.2)) day k).take i) []
       have h3:=anch_len (ms:=ps.map (·.2)) (day:=day) (k:=k)
       rw [zA] at h1 h3
       rw [zZ] at h2
       unfold toldF at h1
       rw [yM] at h2
       omega
      refine (zr rfl (zr rfl (zr rfl (zr rfl (ex8 b day k x rooms tr tm ps ⟨rfl,hb.same sm7,hn,gd,d1,d6,hd,x0,by omega,λl H8 hl sm8 h8=>(zr rfl (ixl h8 (show atI _ _=some (V.int yy) by rw [xr (rep_at hw)];rw [show agF (ps.map (·.2)) day (x / day) (lone k x) rooms.length w0=some yy from hyy];rfl) ?_))⟩)))))
      refine (zr rfl (zr rfl (iteB0 rfl ?_)))
      have h8t:=sm8 _ _ h7
      have hqs8:∀ a∈qs,H8 a.1=some (.tup [.int a.2.1,.int a.2.2]):=λa ha=>sm8 _ _ (hqs a ha)
      have bt8:But lt H6 H8:=λb u nb e=>sm8 _ _ (bt b u nb e)
      have est:toldF (tOf (ps.map (·.2)) day rooms.length k w0) ((anch (ps.map (·.2)) day k).take (i + 1))=toldStep (tOf (ps.map (·.2)) day rooms.length k w0) (qs.map (·.2)) x:=by
       rw [xp hx1,eqs];unfold toldF;rw [yR];rfl
      have app:∀ (c:(qs.map (·.2)).getLast?.map (·.2)≠some yy),toldF (tOf (ps.map (·.2)) day rooms.length k w0) ((anch (ps.map (·.2)) day k).take (i + 1))=qs.map (·.2)++[(x,yy)]:=λc=>by
       rw [est];unfold toldStep;rw [hyy];dsimp only;rw [if_neg c]
      have tail:(qs.map (·.2)).getLast?.map (·.2)≠some yy->∀ t,H8 t=none->∃ qs':List (Addr×Int×Int),(upd (upd H8 t (.tup [.int x,.int yy])) lt (.lst (qs.map (λa=>V.ref a.1)++[V.ref t]))) lt=some (.lst (qs'.map λa=>V.ref a.1))/\(∀ a∈qs',(upd (upd H8 t (.tup [.int x,.int yy])) lt (.lst (qs.map (λa=>V.ref a.1)++[V.ref t]))) a.1=some (.tup [.int a.2.1,.int a.2.2]))/\qs'.map (·.2)=toldF (tOf (ps.map (·.2)) day rooms.length k w0) ((anch (ps.map (·.2)) day k).take (i + 1))/\But lt H6 (upd (upd H8 t (.tup [.int x,.int yy])) lt (.lst (qs.map (λa=>V.ref a.1)++[V.ref t]))):=λc t ht=>by
       have h9:=xK (o:=HO.tup [.int x,.int yy]) ht _ _ h8t
       refine ⟨qs++[(t,x,yy)],by rw [xI,zG];rfl,λa ha=>?_,by rw [app c,zG];rfl,λb u nb e=>by rw [xO nb];exact xK ht _ _ (bt8 b u nb e)⟩
       rcases zS.mp ha with h | h
       ·exact Tups.set h9 _ _ (xK ht _ _ (hqs8 a h))
       ·cases zH.mp h
        exact Tups.set h9 _ _ xI
      cases eq:qs.getLast? with
      | none=>
       have e0:qs=[]:=by
        cases qs with
        | nil=>rfl
        | cons a b=>rw [List.getLast?_cons] at eq;cases eq
       refine (zr rfl ⟨false,.inl ⟨_,SqL.of h8t,by rw [e0];rfl⟩,iteB1 rfl ?_⟩)
       refine (zr rfl ⟨.inl ⟨rfl,_,SqL.of h8t⟩,zr rfl (zr rfl ⟨by show 2<=sizeLine;omega,λt ht=>⟨lt,zr2 rfl rfl ⟨xK ht _ _ h8t,by rw [zA];omega,?_⟩⟩⟩)⟩)
       obtain ⟨qs',a1,a2,a3,a4⟩:=tail (by rw [e0];rintro ⟨⟩) t ht
       exact ⟨qs',⟨_,_,rfl⟩,a1,a2,a3,a4⟩
      | some a=>
       have am:=ye eq
       have ne:(true:Bool)=!(qs.map λa=>V.ref a.1).isEmpty:=by
        cases qs with
        | nil=>cases eq
        | cons a b=>rfl
       have atl:atI (qs.map λa=>V.ref a.1) (-1)=some (V.ref a.1):=atI_last (by rw [yu,eq];rfl)
       refine (zr rfl ⟨true,.inl ⟨_,SqL.of h8t,ne⟩,iteB0 rfl (zr rfl (zr rfl (ixl h8t atl (ixt (hqs8 a am) rfl (zr rfl ⟨rfl,zr rfl ?_⟩)))))⟩)
       have el:(qs.map (·.2)).getLast?.map (·.2)=some a.2.2:=by rw [yu,eq];rfl
       by_cases c:a.2.2=yy
       ·refine iteNS2 (by rw [c]) ?_
        refine ⟨qs,⟨_,_,rfl⟩,h8t,hqs8,?_,bt8⟩
        rw [est];unfold toldStep;rw [hyy];dsimp only;rw [if_pos (by rw [el,c])]
       ·refine iteB1 (by have:¬ V.int a.2.2=V.int yy:=λz=>c (V.int.inj z);simp [this]) ?_
        refine (zr rfl ⟨.inl ⟨rfl,_,SqL.of h8t⟩,zr rfl (zr rfl ⟨by show 2<=sizeLine;omega,λt ht=>⟨lt,zr2 rfl rfl ⟨xK ht _ _ h8t,by rw [zA];omega,?_⟩⟩⟩)⟩)
        obtain ⟨qs',a1,a2,a3,a4⟩:=tail (by rw [el];exact λz=>c (Option.some.inj z)) t ht
        exact ⟨qs',⟨_,_,rfl⟩,a1,a2,a3,a4⟩
     ·rintro σ H7 ⟨qs,⟨v6,v7,rfl⟩,h7,hqs,eqs,bt⟩
      rw [zA,zf] at eqs
      exact (zr rfl (qy lt qs H7 z0 hlt (λb u e=>bt b u (xJ e hlt) (sm16 b u e)) h7 hqs eqs))
theorem CZ:FnScope ["_law_purse_here", "_law_book_here", "_law_found", "_law_now", "_law_ahead", "_law_wide", "_law_low", "_law_high", "_law_when", "_law_passed"] ["_law_purse_here", "_law_book_here"] (defScope Ct):=⟨rfl,rfl,rfl,by decide +kernel,rfl,by decide +kernel,by decide +kernel⟩
theorem Fb (T:Tx K mg a t_LAST_TIME t_MOST_WALKERS t_MOST_ROOM t_MOST_MEETINGS t_MOST_MANY t_LONGEST_DAY) (B:BmAt mg base):FnOk P w K mg base CX0 2 a.Av a.AN ["_law_purse_here", "_law_book_here"] (spSqz):=by
 have Aa:=@wC P w _ _ base _ _ _ _ _ _ _ T B
 refine T.AE.ok CZ (λvs H Q E h=>?_) (λcdv A outer s H vs Q E hr h=>?_)
 ·obtain ⟨p,b,_,_,_,_,rfl,_⟩:=h;rfl
 ·have nd:=CZ.nd
  have hu:=hr.units
  obtain ⟨p,b,rooms,tr,tm,ps,rfl,hb,r6,gd,pu,q⟩:=h
  refine ⟨_,(@xQ _ _ _ (@xU _ _ _ _ _ _ (xT (i:=2) nd rfl (by first | exact Or.inl rfl | exact Or.inr rfl) (@wG _ _ _ _ wX)) (@xU _ _ _ _ _ _ (xT (i:=3) nd rfl (by first | exact Or.inl rfl | exact Or.inr rfl) xL) (@xU _ _ _ _ _ _ (xT (i:=4) nd rfl (by first | exact Or.inl rfl | exact Or.inr rfl) xL) (@xU _ _ _ _ _ _ (xT (i:=5) nd rfl (by first | exact Or.inl rfl | exact Or.inr rfl) (@xf _ _ _ _ _ _ _ (xi rfl) (@wG _ _ _ _ (@xG _ _ _ (@xH _ _ _ _ _ xL (@xH _ _ _ _ _ xL (@xH _ _ _ _ _ xL xS rfl) rfl) rfl))) (xP Aa (hr.mono (by decide)) rfl T.Ab T.Ac T.Ae .nil pass0 (@xG _ _ _ (@xH _ _ _ _ _ (pv 0) (@xH _ _ _ _ _ xL xS rfl) rfl))) (λ_ _=>rfl))) (@xU _ _ _ _ _ _ (wJ PassesOwn.never rfl (@pi_tup'' _ _ _ _ _ rfl (@xf _ _ _ _ _ _ _ (xa rfl) (pv 1) xL (λ_ _=>rfl))) (xh (n:=4) rfl rfl (xM (xN (i:=6) nd rfl (by first | exact Or.inl rfl | exact Or.inr rfl)) (xM (xN (i:=7) nd rfl (by first | exact Or.inl rfl | exact Or.inr rfl)) (xM (xN (i:=8) nd rfl (by first | exact Or.inl rfl | exact Or.inr rfl)) (xM (xN (i:=9) nd rfl (by first | exact Or.inl rfl | exact Or.inr rfl)) xg))))) (@xQ _ _ _ (@xU _ _ _ _ _ _ (@xj _ _ _ _ _ _ _ _ (@xc _ _ _ _ _ _ _ _ op_ne (pv 8) (pv 4) (nomark _)) (@xQ _ _ _ (@xb _ _ _ (xT (i:=3) nd rfl (by first | exact Or.inl rfl | exact Or.inr rfl) (@xZ _ _ _ _ _ _ _ _ xq (@xZ _ _ _ _ _ _ _ _ xq (pv 3) xL) (xP Aa (hr.mono (by decide)) rfl T.Ab T.Ac T.Ae .nil pass0 (@xG _ _ _ (@xH _ _ _ _ _ (pv 0) (@xH _ _ _ _ _ (pv 5) xS rfl) rfl))))))) xY) (@xU _ _ _ _ _ _ (xT (i:=4) nd rfl (by first | exact Or.inl rfl | exact Or.inr rfl) (pv 8)) (@xb _ _ _ (wP (pe_bm zo zl zm wQ (pv 2) (@xG _ _ _ (@xH _ _ _ _ _ (@xo _ _ _ _ _ (@xG _ _ _ (@xH _ _ _ _ _ (pv 6) (@xH _ _ _ _ _ (pv 7) (@xH _ _ _ _ _ (pv 3) (@xH _ _ _ _ _ (pv 9) xS rfl) rfl) rfl) rfl))) xS rfl))))))))) (@xb _ _ _ (@xV _ _ _ _ (@xo _ _ _ _ _ (@xG _ _ _ (@xH _ _ _ _ _ (@xf _ _ _ _ _ _ _ (xa rfl) (pv 1) xL (λ_ _=>rfl)) (@xH _ _ _ _ _ (pe_callTy (wE) (by rfl) T.b_tuple zx (@xG _ _ _ (@xH _ _ _ _ _ (pv 2) xS rfl))) xS rfl) rfl))))))))))),?_⟩
  have line:=line9
  have e200:(2:Int) ^ 200 > 1000000:=by decide
  have l60:=gd.len
  refine ⟨zT _,λlf hlf=>?_⟩
  have npf:lf≠p:=pu.ne hlf
  have g1:=(Go.refl pu).new (o:=HO.lst []) hlf
  have hf1:(upd H lf (HO.lst [])) lf=some (.lst []):=xI
  generalize upd H lf (HO.lst [])=H1 at g1 hf1 ⊢
  refine ⟨by show 3<=sizeLine;omega,λl3 hl3=>?_⟩
  have n3p:l3≠p:=g1.2.ne hl3
  have g2:=g1.new (o:=HO.lst [V.int 1,V.int 9,V.int 16000]) hl3
  have hf2:=xK (o:=HO.lst [V.int 1,V.int 9,V.int 16000]) hl3 _ _ hf1
  have h3:(upd H1 l3 (HO.lst [V.int 1,V.int 9,V.int 16000])) l3=some (.lst [V.int 1,V.int 9,V.int 16000]):=xI
  generalize upd H1 l3 (HO.lst [V.int 1,V.int 9,V.int 16000])=H2 at g2 hf2 h3 ⊢
  refine (zr rfl ⟨p,3,rfl,by decide,by decide,g2.2,λd H3 d0 d1 g3=>?_⟩)
  obtain ⟨wd,hwd,wd1,wd2⟩:∃ wd:Int,atI [V.int 1,V.int 9,V.int 16000] d=some (V.int wd)/\1<=wd/\wd<=16000:=by
   obtain rfl | rfl | rfl:d=0\/d=1\/d=2:=by omega
   ·exact ⟨1,rfl,by decide,by decide⟩
   ·exact ⟨9,rfl,by decide,by decide⟩
   ·exact ⟨16000,rfl,by decide,by decide⟩
  have g13:=g2.trans g3
  have hf3:=g3.1 lf _ npf hf2
  refine (ixl (g3.1 l3 _ n3p h3) hwd ?_)
  have hb3:=hb.tups (g13.tups pu)
  refine (zr rfl (ixt hb3.book rfl ⟨tm,rfl,⟨_,SqT.of hb3.meets⟩,?_⟩))
  refine for_tup (K:=K) (a:=tm) (xs:=ps.map λa=>V.ref a.1) (λi σ H4=>∃ now ahead,∃ fs:List (Addr×M4),∃ qs:List (M4×M4),(∃ v6 v7 v8 v9,σ=[some (.ref p),some (.ref b),some (.ref lf),some (.int now),some (.int ahead),some (.int wd),v6,v7,v8,v9])/\H4 lf=some (.lst (fs.map λa=>V.ref a.1))/\RowsAt H4 fs/\fs.map (·.2)=qs.map (·.2)/\SqOk rooms.length (ps.map (·.2)) i now ahead qs/\Go p H H4)
   ⟨0,0,[],[],⟨_,_,_,_,rfl⟩,hf3,λ_ h=>(nomatch h),rfl,⟨rfl,λ_ h=>(nomatch h),.nil,.inr rfl,zX _,by omega⟩,g13⟩
   (λi σ H4 _ h4=>by obtain ⟨_,_,_,_,_,_,_,_,_,g⟩:=h4;exact SqT.of (hb.tups (g.tups pu)).meets) ?_ ?_
  ·rintro i y σ H4 hy ⟨now,ahead,fs,qs,⟨v6,v7,v8,v9,rfl⟩,hf,hr,efs,S,g⟩
   obtain ⟨r,hr1,rfl⟩:=xl hy
   have hi:i < ps.length:=(zB.mp hr1).1
   have hm:(ps.map (·.2))[i]?=some r.2:=by rw [zR,hr1];rfl
   have hb4:=hb.tups (g.tups pu)
   have hrow:=hb4.rows r (zC hr1)
   have lfs:fs.length=i:=by
    have h1:=congrArg List.length efs
    have h2:=congrArg List.length S.old
    rw [zA,zA] at h1
    rw [zA,zZ,zA] at h2
    omega
   refine (un4 hrow ?_)
   refine (zr rfl (zr rfl ⟨rfl,zr rfl (iteN (fun σ H5=>∃ add,σ=[some (.ref p),some (.ref b),some (.ref lf),some (.int (now + add)),some (.int ahead),some (.int wd),some (.int r.2.lo),some (.int r.2.hi),some (.int r.2.t),some (.int r.2.m)]/\((r.2.t=ahead/\add=0)\/(r.2.t≠ahead/\1<=add/\add<=16000))/\H5 lf=some (.lst (fs.map λa=>V.ref a.1))/\RowsAt H5 fs/\Go p H H5) ?_ (λc k0=>?_) (λc=>?_))⟩))
   ·rintro σ H5 ⟨add,rfl,hadd,hf5,hr5,g5⟩
    refine (zr rfl (zr rfl ⟨.inl ⟨rfl,_,SqL.of hf5⟩,zr rfl (zr rfl (zr rfl (zr rfl ⟨by show 4<=sizeLine;omega,λt ht=>?_⟩)))⟩))
    have hf6:=xK (o:=HO.tup [V.int r.2.lo,V.int r.2.hi,V.int (now + add),V.int r.2.m]) ht _ _ hf5
    have hr6:RowsAt (upd H5 t (HO.tup [V.int r.2.lo,V.int r.2.hi,V.int (now + add),V.int r.2.m])) fs:=λa ha=>xK ht _ _ (hr5 a ha)
    have ht6:(upd H5 t (HO.tup [V.int r.2.lo,V.int r.2.hi,V.int (now + add),V.int r.2.m])) t=some (.tup [V.int r.2.lo,V.int r.2.hi,V.int (now + add),V.int r.2.m]):=xI
    have g6:=g5.new (o:=HO.tup [V.int r.2.lo,V.int r.2.hi,V.int (now + add),V.int r.2.m]) ht
    generalize upd H5 t (HO.tup [V.int r.2.lo,V.int r.2.hi,V.int (now + add),V.int r.2.m])=H6 at hf6 hr6 ht6 g6 ⊢
    refine ⟨lf,zr2 rfl rfl ⟨hf6,by rw [zA];omega,?_⟩⟩
    refine ⟨now + add,r.2.t,fs++[(t,⟨r.2.lo,r.2.hi,now + add,r.2.m⟩)],qs++[(r.2,⟨r.2.lo,r.2.hi,now + add,r.2.m⟩)],⟨_,_,_,_,rfl⟩,by rw [xI,zG];rfl,λa ha=>?_,by rw [zG,zG,efs];rfl,S.step gd hm hadd,g6.put hlf npf⟩
    rcases zS.mp ha with h | h
    ·exact Tups.set hf6 _ _ (hr6 a h)
    ·cases zH.mp h
     exact Tups.set hf6 _ _ ht6
   ·refine (zr rfl (zr2 rfl rfl (zr rfl (zr rfl ⟨p,wd,rfl,by omega,by omega,g.2,λd4 H5 d40 d41 g5=>(zr2 rfl rfl ?_)⟩))))
    refine k0 _ _ ⟨1 + d4,?_,.inr ⟨λe=>?_,by omega,by omega⟩,g5.1 lf _ npf hf,λa ha=>g5.tups g.2 _ _ (hr a ha),g.trans g5⟩
    ·rw [<-Int.add_assoc];rfl
    ·rw [e] at c;simp at c
   ·refine ⟨0,by rw [Int.add_zero];rfl,.inl ⟨?_,rfl⟩,hf,hr,g⟩
    have:V.int r.2.t=V.int ahead:=by simpa using c
    exact V.int.inj this
  ·rintro σ H4 ⟨now,ahead,fs,qs,⟨v6,v7,v8,v9,rfl⟩,hf,hr,efs,S,g⟩
   have hb4:=hb.tups (g.tups pu)
   have el:(ps.map λa=>V.ref a.1).length=(ps.map (·.2)).length:=by rw [zA,zA]
   rw [el] at S
   obtain ⟨gd2,m6⟩:=S.good gd
   rw [<-efs] at gd2 m6
   refine (zr rfl (ixt hb4.book rfl (zr rfl ⟨lf,zr rfl (.inl ⟨SqL.of hf,λt ht=>⟨by show 2<=sizeLine;omega,λb' hb'=>?_⟩⟩)⟩)))
   have tn:=Tups.trans (Tups.new (o:=HO.tup (fs.map λa=>V.ref a.1)) ht) (Tups.new (o:=HO.tup [V.ref tr,V.ref t]) hb')
   exact q b' t fs _ ((g.new ht).new hb') ⟨xI,tn _ _ hb4.rooms,xK hb' _ _ xI,λa ha=>tn _ _ (hr a ha)⟩ gd2 m6
theorem Fx:FnScope ["_law_purse_here", "_law_book_here", "_law_least"] ["_law_purse_here", "_law_book_here"] (defScope Ej):=⟨rfl,rfl,rfl,by decide +kernel,rfl,by decide +kernel,by decide +kernel⟩
theorem Hm (T:Tx K mg a t_LAST_TIME t_MOST_WALKERS t_MOST_ROOM t_MOST_MEETINGS t_MOST_MANY t_LONGEST_DAY) (B:BmAt mg base):FnOk P w K mg base CX0 2 a.Bx a.Cl ["_law_purse_here", "_law_book_here"] (spDayOf):=by
 have Aa:=@wC P w _ _ base _ _ _ _ _ _ _ T B
 refine T.BX.ok Fx (λvs H Q E h=>?_) (λcdv A outer s H vs Q E hr h=>?_)
 ·obtain ⟨p,b,_,_,_,_,rfl,_⟩:=h;rfl
 ·have nd:=Fx.nd
  have hu:=hr.units
  obtain ⟨p,b,rooms,tr,tm,ps,rfl,hb,gd,m6,pu,q⟩:=h
  refine ⟨_,(@xQ _ _ _ (@xU _ _ _ _ _ _ (xT (i:=2) nd rfl (by first | exact Or.inl rfl | exact Or.inr rfl) xL) (@xU _ _ _ _ _ _ (@xj _ _ _ _ _ _ _ _ (@xc _ _ _ _ _ _ _ _ (op_neUnit hu) (@xf _ _ _ _ _ _ _ (xa rfl) (pv 1) xL (λ_ _=>rfl)) (@xo _ _ _ _ _ wX) (nomark _)) (@xQ _ _ _ (@xb _ _ _ (xT (i:=2) nd rfl (by first | exact Or.inl rfl | exact Or.inr rfl) (@xf _ _ _ _ _ _ _ (xa rfl) (@xf _ _ _ _ _ _ _ (xa rfl) (@xf _ _ _ _ _ _ _ (xa rfl) (pv 1) xL (λ_ _=>rfl)) (@pe_un _ _ _ _ _ _ un_neg xL) (λ_ _=>rfl)) xL (λ_ _=>rfl))))) xY) (@xb _ _ _ (@xV _ _ _ _ (xW (call_min2 rfl) (by rfl) T.b_min yP (@xG _ _ _ (@xH _ _ _ _ _ (@xZ _ _ _ _ _ _ _ _ op_pow xL xL) (@xH _ _ _ _ _ (@xZ _ _ _ _ _ _ _ _ xq (pv 2) (@xf _ _ _ _ _ _ _ (xi rfl) (@wG _ _ _ _ (@xG _ _ _ (@xH _ _ _ _ _ xL (@xH _ _ _ _ _ xL (@xH _ _ _ _ _ (@xZ _ _ _ _ _ _ _ _ op_pow xL xL) (@xH _ _ _ _ _ (xP Aa (hr.mono (by decide)) rfl T.Ab T.Ac T.Ae .nil pass0 (@xG _ _ _ (@xH _ _ _ _ _ (pv 0) (@xH _ _ _ _ _ xL xS rfl) rfl))) xS rfl) rfl) rfl) rfl))) (xP Aa (hr.mono (by decide)) rfl T.Ab T.Ac T.Ae .nil pass0 (@xG _ _ _ (@xH _ _ _ _ _ (pv 0) (@xH _ _ _ _ _ xL xS rfl) rfl))) (λ_ _=>rfl))) xS rfl) rfl)))))))),?_⟩
  have line:=line9
  have c6:CPow 10 6:=⟨by decide,by decide,by decide⟩
  have e6:(10:Int) ^ Int.toNat 6=1000000:=by decide
  refine (zr rfl (ixt hb.book rfl ⟨zT _,λu hu2=>?_⟩))
  have hb1:=hb.tups (Tups.new (o:=HO.tup []) hu2)
  have g1:=(Go.refl pu).new (o:=HO.tup []) hu2
  have hu1:(upd H u (HO.tup [])) u=some (.tup []):=xI
  generalize upd H u (HO.tup [])=H1 at hb1 g1 hu1 ⊢
  refine ⟨tm,u,zr rfl ⟨rfl,SqT.of hb1.meets,SqT.of hu1,zr rfl (iteN (fun σ H5=>∃ least,σ=[some (.ref p),some (.ref b),some (.int least)]/\1<=least/\least<=1000000/\(∀ m∈ps.map (·.2),m.t<=least)/\Go p H H5) ?_ (λc k0=>?_) (λc=>?_))⟩⟩
  ·rintro σ H5 ⟨least,rfl,le1,le6,hle,g5⟩
   refine (zr2 rfl rfl ⟨c6,zr rfl (zr2 rfl rfl ⟨c6,zr rfl ⟨p,9,rfl,by decide,by decide,g5.2,λd9 H6 d90 d91 g6=>⟨by show 4<=sizeLine;omega,λl hl=>?_⟩⟩⟩)⟩)
   have npl:l≠p:=g6.2.ne hl
   have g7:=(g5.trans g6).new (o:=HO.lst [V.int 0,V.int 1,V.int (10 ^ Int.toNat 6),V.int d9]) hl
   have h7:(upd H6 l (HO.lst [V.int 0,V.int 1,V.int (10 ^ Int.toNat 6),V.int d9])) l=some (.lst [V.int 0,V.int 1,V.int (10 ^ Int.toNat 6),V.int d9]):=xI
   generalize upd H6 l (HO.lst [V.int 0,V.int 1,V.int (10 ^ Int.toNat 6),V.int d9])=H7 at g7 h7 ⊢
   refine (zr rfl ⟨p,4,rfl,by decide,by decide,g7.2,λd H8 d0 d1 g8=>?_⟩)
   obtain ⟨v,hv,v0⟩:∃ v:Int,atI [V.int 0,V.int 1,V.int (10 ^ Int.toNat 6),V.int d9] d=some (V.int v)/\0<=v:=by
    obtain rfl | rfl | rfl | rfl:d=0\/d=1\/d=2\/d=3:=by omega
    ·exact ⟨0,rfl,by decide⟩
    ·exact ⟨1,rfl,by decide⟩
    ·exact (zr rfl (by decide))
    ·exact ⟨d9,rfl,d90⟩
   refine (ixl (g8.1 l _ npl h7) hv (zr2 rfl rfl (zr1 rfl ?_)))
   rw [e6]
   refine q _ _ (g7.trans g8) ?_ ?_ λm hm=>?_
   ·split <;> omega
   ·split <;> omega
   ·have h1:=hle m hm
    have h2:=m6 m hm
    split <;> omega
  ·have hp:ps≠[]:=λe=>by rw [e] at c;cases c
   obtain ⟨r,hr⟩:∃ r,ps.getLast?=some r:=⟨_,List.getLast?_eq_getLast hp⟩
   have rm:r∈ps:=ye hr
   have hrow:=hb1.rows r rm
   obtain ⟨a1,a2,a3,a4,a5,_⟩:=gd.at rm
   refine (zr rfl (ixt hb1.book rfl (zr rfl (ixt hb1.meets (atI_last (v:=V.ref r.1) (by rw [yu,hr];rfl)) (ixt hrow rfl ?_)))))
   refine k0 _ _ ⟨r.2.t,rfl,a4,m6 r.2 (zI.mpr ⟨r,rm,rfl⟩),λm hm=>?_,g1⟩
   exact last_most gd.ord.2 (by rw [yu,hr];rfl) hm
  ·have hp:ps=[]:=by
    cases ps with
    | nil=>rfl
    | cons _ _=>cases c
   subst hp
   exact ⟨1,rfl,by decide,by decide,λ_ h=>(nomatch h),g1⟩
theorem Df:FnScope ["_law_book_here", "_law_day_here", "_law_rounds", "_law_found", "_law_turn", "_law_one", "_law_other", "_law_when", "_law_passed"] ["_law_book_here", "_law_day_here", "_law_rounds"] (defScope CI):=⟨rfl,rfl,rfl,by decide +kernel,rfl,by decide +kernel,by decide +kernel⟩
theorem FJ (T:Tx K mg a t_LAST_TIME t_MOST_WALKERS t_MOST_ROOM t_MOST_MEETINGS t_MOST_MANY t_LONGEST_DAY) (B:BmAt mg base):FnOk P w K mg base CX0 1 a.AC a.A2 ["_law_book_here", "_law_day_here", "_law_rounds"] (spWrit96):=by
 refine T.AL.ok Df (λvs H Q E h=>?_) (λcdv A outer s H vs Q E hr h=>?_)
 ·obtain ⟨_,_,_,_,_,_,_,rfl,_⟩:=h;rfl
 ·have nd:=Df.nd
  have hu:=hr.units
  obtain ⟨b,day,R,rooms,tr,tm,ps,rfl,hb,few,r12,d0,d1,q⟩:=h
  refine ⟨_,(@xQ _ _ _ (@xU _ _ _ _ _ _ (xT (i:=3) nd rfl (by first | exact Or.inl rfl | exact Or.inr rfl) (@wG _ _ _ _ wX)) (@xU _ _ _ _ _ _ (wJ PassesOwn.never rfl (pi_range1 rfl T.b_range (@xG _ _ _ (@xH _ _ _ _ _ (pv 2) xS rfl))) (xN (i:=4) nd rfl (by first | exact Or.inl rfl | exact Or.inr rfl)) (@xQ _ _ _ (@xb _ _ _ (wJ PassesOwn.never rfl (@pi_tup'' _ _ _ _ _ rfl (@xf _ _ _ _ _ _ _ (xa rfl) (pv 0) xL (λ_ _=>rfl))) (xh (n:=4) rfl rfl (xM (xN (i:=5) nd rfl (by first | exact Or.inl rfl | exact Or.inr rfl)) (xM (xN (i:=6) nd rfl (by first | exact Or.inl rfl | exact Or.inr rfl)) (xM (xN (i:=7) nd rfl (by first | exact Or.inl rfl | exact Or.inr rfl)) (xM (xN (i:=8) nd rfl (by first | exact Or.inl rfl | exact Or.inr rfl)) xg))))) (@xQ _ _ _ (@xb _ _ _ (wP (pe_bm zo zl zm wQ (pv 3) (@xG _ _ _ (@xH _ _ _ _ _ (@xo _ _ _ _ _ (@xG _ _ _ (@xH _ _ _ _ _ (pv 5) (@xH _ _ _ _ _ (pv 6) (@xH _ _ _ _ _ (@xZ _ _ _ _ _ _ _ _ xq (pv 7) (@xZ _ _ _ _ _ _ _ _ wW (pv 4) (pv 1))) (@xH _ _ _ _ _ (pv 8) xS rfl) rfl) rfl) rfl))) xS rfl)))))))))) (@xb _ _ _ (@xV _ _ _ _ (pv 3)))))),?_⟩
  have line:=line9
  have lp:(ps.map λa=>V.ref a.1).length=ps.length:=zA ..
  refine ⟨zT _,λl hl=>?_⟩
  have k0:upd H l (HO.lst []) l=some (.lst []):=xI
  have s0:=xK (o:=HO.lst []) hl
  generalize upd H l (HO.lst [])=H0 at k0 s0 ⊢
  refine (zr rfl ⟨(R:Int),rfl,by omega,by omega,?_⟩)
  refine for_range (lo:=0) (n:=((R:Int)).toNat) (λi σ H5=>∃ fs:List (Addr×M4),(∃ v4 v5 v6 v7 v8,σ=[some (.ref b),some (.int day),some (.int (R:Int)),some (.ref l),v4,v5,v6,v7,v8])/\fs.map (·.2)=again (ps.map (·.2)) day 0 i/\ListAt H5 l fs/\Same H H5) ⟨[],⟨_,_,_,_,_,rfl⟩,rfl,⟨k0,nofun⟩,s0⟩ ?_ ?_
  ·rintro i σ H5 hi ⟨fs,⟨v4,v5,v6,v7,v8,rfl⟩,ef,hL,sm⟩
   rw [zy] at hi
   have lf:fs.length=i * ps.length:=by have:=congrArg List.length ef;rw [zA,again_len,zA] at this;exact this
   have lf6:fs.length + ps.length<=60:=by rw [lf,<- Nat.succ_mul];exact z6 (Nat.mul_le_mul_right _ hi) few
   have hb5:=hb.same sm
   refine (zr rfl (ixt hb5.book rfl ⟨tm,rfl,⟨_,SqT.of hb5.meets⟩,?_⟩))
   refine for_tup (K:=K) (a:=tm) (xs:=ps.map λa=>V.ref a.1) (λj σ H6=>∃ gs:List (Addr×M4),(∃ v5 v6 v7 v8,σ=[some (.ref b),some (.int day),some (.int (R:Int)),some (.ref l),some (.int (0 + (i:Int))),v5,v6,v7,v8])/\gs.map (·.2)=again (ps.map (·.2)) day 0 i++((ps.map (·.2)).take j).map (M4.late ((0 + (i:Int)) * day))/\ListAt H6 l gs/\Same H H6) ⟨fs,⟨_,_,_,_,rfl⟩,by rw [ef];simp,hL,sm⟩ ?_ ?_ ?_
   ·rintro j σ H6 _ ⟨gs,_,_,_,s6⟩
    exact SqT.of (s6 _ _ hb.meets)
   ·rintro j v σ H6 hv ⟨gs,⟨v5,v6,v7,v8,rfl⟩,eg,hL6,s6⟩
    obtain ⟨r,hr,rfl⟩:=xl hv
    have hj:j < ps.length:=(zB.mp hr).1
    have lg:gs.length=fs.length + j:=by
     have:=congrArg List.length eg
     rw [zA,zP,zA,zZ,zA,again_len,zA] at this
     omega
    have hrow:H6 r.1=some (.tup [.int r.2.lo,.int r.2.hi,.int r.2.t,.int r.2.m]):=s6 _ _ (hb.rows r (zC hr))
    refine (un4 hrow ?_)
    refine (zr rfl ⟨.inl ⟨rfl,_,SqL.of hL6.1⟩,zr rfl (zr rfl (zr rfl (zr rfl (zr rfl (zr2 rfl rfl ⟨.inr ⟨?_,?_⟩,zr2 rfl rfl (zr rfl ⟨by show 4<=_;omega,λu hu=>?_⟩)⟩)))))⟩)
    ·omega
    ·omega
    have su:=xK (o:=HO.tup [V.int r.2.lo,V.int r.2.hi,V.int (r.2.t + (0 + (i:Int)) * day),V.int r.2.m]) hu
    have nl:l≠u:=xJ hL6.1 hu
    refine ⟨l,zr2 rfl rfl ⟨su _ _ hL6.1,by rw [zA];omega,gs++[(u,r.2.late ((0 + (i:Int)) * day))],⟨_,_,_,_,rfl⟩,?_,⟨?_,λx hx=>?_⟩,Same.put hl (s6.trans su)⟩⟩
    ·rw [zG,eg,xp (show (ps.map (·.2))[j]?=some r.2 by rw [zR,hr];rfl),zG,List.append_assoc];rfl
    ·rw [xI,zG];rfl
    ·have e:upd H6 u (HO.tup [V.int r.2.lo,V.int r.2.hi,V.int (r.2.t + (0 + (i:Int)) * day),V.int r.2.m]) x.1=some (.tup x.2.vs):=by
      rcases zS.mp hx with h | h
      ·exact su _ _ (hL6.2 x h)
      ·rw [zH.mp h];exact xI
     rw [xO (wa e (su _ _ hL6.1) (by intro z;cases z))];exact e
   ·rintro σ H6 ⟨gs,⟨v5,v6,v7,v8,rfl⟩,eg,hL6,s6⟩
    refine ⟨gs,⟨_,_,_,_,_,rfl⟩,?_,hL6,s6⟩
    rw [eg,lp,List.take_of_length_le (by rw [zA];exact zD _)];rfl
  ·rintro σ H5 ⟨fs,⟨v4,v5,v6,v7,v8,rfl⟩,ef,hL,sm⟩
   rw [zy] at ef
   exact (zr rfl (q l fs H5 hl sm hL ef))
theorem CA:FnScope ["_law_again", "_law_once", "_law_end", "_law_one", "_law_other", "_law_due"] ["_law_again", "_law_once", "_law_end"] (defScope wY):=⟨rfl,rfl,rfl,by decide +kernel,rfl,by decide +kernel,by decide +kernel⟩
theorem DQ (T:Tx K mg a t_LAST_TIME t_MOST_WALKERS t_MOST_ROOM t_MOST_MEETINGS t_MOST_MANY t_LONGEST_DAY) (B:BmAt mg base):FnOk P w K mg base CX0 1 a.Al a.Az ["_law_again", "_law_once", "_law_end"] (spAlike96):=by
 refine T.Ar.ok CA (λvs H Q E h=>?_) (λcdv A outer s H vs Q E hr h=>?_)
 ·obtain ⟨_,_,_,_,_,_,rfl,_⟩:=h;rfl
 ·have nd:=CA.nd
  have hu:=hr.units
  obtain ⟨l,m,n,f,g,z,rfl,hl,hm,n12,eq,q⟩:=h
  refine ⟨_,(@xQ _ _ _ (@xU _ _ _ _ _ _ (wJ PassesOwn.never rfl (pi_zipL rfl rfl T.b_zip (@xG _ _ _ (@xH _ _ _ _ _ (pv 0) (@xH _ _ _ _ _ (pv 1) xS rfl) rfl))) (xh (n:=2) rfl rfl (xM (xN (i:=3) nd rfl (by first | exact Or.inl rfl | exact Or.inr rfl)) (xM (xN (i:=4) nd rfl (by first | exact Or.inl rfl | exact Or.inr rfl)) xg))) (@xQ _ _ _ (@xU _ _ _ _ _ _ (xT (i:=5) nd rfl (by first | exact Or.inl rfl | exact Or.inr rfl) (pv 3)) (@xU _ _ _ _ _ _ (@xj _ _ _ _ _ _ _ _ (@PW.pt _ _ _ (@pw_and _ _ _ _ _ _ _ (pt_cmp (@pc_notN _ _ _ _ _ (pv 3))) (@pw_and1 _ _ _ _ (@xc _ _ _ _ _ _ _ _ op_gt (pv 3) (pv 2) (nomark _))))) (@xQ _ _ _ (@xb _ _ _ (xT (i:=5) nd rfl (by first | exact Or.inl rfl | exact Or.inr rfl) pe_non))) xY) (@xb _ _ _ (@xj _ _ _ _ _ _ _ _ (@xc _ _ _ _ _ _ _ _ op_ne (pv 4) (pv 5) (nomark _)) (@xQ _ _ _ (@xb _ _ _ (@xV _ _ _ _ wZ))) xY)))))) (@xb _ _ _ (@xV _ _ _ _ (@pe_cmpR _ _ _ _ _ _ _ _ op_eq (xW (xX rfl) (by rfl) T.b_len PySem.boot_len (@xG _ _ _ (@xH _ _ _ _ _ (pv 0) xS rfl))) (xW (xX rfl) (by rfl) T.b_len PySem.boot_len (@xG _ _ _ (@xH _ _ _ _ _ (pv 1) xS rfl))) (nomark _)))))),?_⟩
  have line:=line9
  refine (zr rfl (zr rfl ⟨l,m,rfl,⟨_,SqL.of hl⟩,⟨_,SqL.of hm⟩,?_⟩))
  refine for_zipL (K:=K) (a:=l) (b:=m) (xs:=(rep n f).map oV) (ys:=(rep n g).map oV) (by rw [zA,zA,xy,xy]) (λi σ H5=>(∃ v3 v4 v5,σ=[some (.ref l),some (.ref m),some (.int z),v3,v4,v5])/\Same H H5) ⟨⟨_,_,_,rfl⟩,Same.refl _⟩ ?_ ?_ ?_
  ·rintro i σ H5 _ ⟨_,sm⟩
   exact ⟨SqL.of (sm _ _ hl),SqL.of (sm _ _ hm)⟩
  ·rintro i x y p σ H5 hx hy hp ⟨⟨v3,v4,v5,rfl⟩,sm⟩
   have hi:i < n:=by have:=(zB.mp hx).1;rwa [zA,xy] at this
   rw [rep_at hi] at hx hy
   cases hx;cases hy
   have sn:=sm.trans (xK (o:=HO.tup [oV (f i),oV (g i)]) hp)
   refine (un2 xI (zr rfl ?_))
   have eqi:=eq i hi
   cases ef:f i with
   | none=>
    rw [ef] at eqi sn
    rw [show g i=none from eqi] at sn ⊢
    exact (zr rfl (zr rfl (iteB0 rfl (iteB0 rfl (zr rfl (zr rfl ⟨rfl,zr rfl (iteB0 rfl ⟨⟨_,_,_,rfl⟩,sn⟩)⟩))))))
   | some y=>
    rw [ef] at eqi sn
    have eqi:g i=if y<=z then some y else none:=eqi
    refine (zr rfl (zr rfl (iteB1 rfl (zr rfl (zr rfl (zr2 rfl rfl (zr rfl ?_)))))))
    by_cases c:y<=z
    ·rw [if_pos c] at eqi
     rw [eqi] at sn ⊢
     exact iteB0 (decide_eq_false (by omega)) (zr rfl (zr rfl ⟨rfl,zr rfl (iteB0 (by simp [oV]) ⟨⟨_,_,_,rfl⟩,sn⟩)⟩))
    ·rw [if_neg c] at eqi
     rw [eqi] at sn ⊢
     exact iteB1 (decide_eq_true (by omega)) (zr rfl (zr rfl ⟨rfl,zr rfl (iteB0 rfl ⟨⟨_,_,_,rfl⟩,sn⟩)⟩))
  ·rintro σ H5 ⟨⟨v3,v4,v5,rfl⟩,sm⟩
   refine (zr rfl ⟨l,zr rfl ⟨.inl (SqL.of (sm _ _ hl)),zr rfl ⟨m,zr rfl ⟨.inl (SqL.of (sm _ _ hm)),rfl,?_⟩⟩⟩⟩)
   have:=q _ sm
   have e:((((rep n f).map oV).length:Int))=((((rep n g).map oV).length:Int)):=by rw [zA,zA,xy,xy]
   rw [e]
   simpa using this
theorem Cz:FnScope ["_law_two_books", "_law_day_here", "_law_asked", "_law_when", "_law_book_here", "_law_rows", "_law_sender", "_law_since_here", "_law_wish", "_law_steps", "_law_ahead", "_law_gone", "_law_latest"] ["_law_two_books", "_law_day_here", "_law_asked", "_law_when"] (defScope wB):=⟨rfl,rfl,rfl,by decide +kernel,rfl,by decide +kernel,by decide +kernel⟩
theorem DP (T:Tx K mg a t_LAST_TIME t_MOST_WALKERS t_MOST_ROOM t_MOST_MEETINGS t_MOST_MANY t_LONGEST_DAY) (B:BmAt mg base):FnOk P w K mg base CX0 6 a.Ak a.Ay ["_law_two_books", "_law_day_here", "_law_asked", "_law_when"] (spWaits96):=by
 have IQ:=@Hi P w _ _ base _ _ _ _ _ _ _ T B
 have Js:=@Jn P w _ _ base _ _ _ _ _ _ _ T B
 refine T.Aq.ok Cz (λvs H Q E h=>?_) (λcdv A outer s H vs Q E hr h=>?_)
 ·obtain ⟨_,_,_,_,_,_,_,_,_,_,_,_,_,_,_,_,rfl,_⟩:=h;rfl
 ·have nd:=Cz.nd
  have hu:=hr.units
  obtain ⟨t2,t3,day,k,w0,x,e,b,br,rooms,tr,tm,ps,trr,tmr,qs,rfl,⟨R,D,x0,xR,fe⟩,k3,kw,⟨hk,hw⟩,q⟩:=h
  refine ⟨_,(@xQ _ _ _ (@xU _ _ _ _ _ _ (xv (pv 0) (xh (n:=2) rfl rfl (xM (xN (i:=4) nd rfl (by first | exact Or.inl rfl | exact Or.inr rfl)) (xM (xN (i:=5) nd rfl (by first | exact Or.inl rfl | exact Or.inr rfl)) xg)))) (@xU _ _ _ _ _ _ (xv (pv 2) (xh (n:=3) rfl rfl (xM (xN (i:=6) nd rfl (by first | exact Or.inl rfl | exact Or.inr rfl)) (xM (xN (i:=7) nd rfl (by first | exact Or.inl rfl | exact Or.inr rfl)) (xM (xN (i:=8) nd rfl (by first | exact Or.inl rfl | exact Or.inr rfl)) xg))))) (@xU _ _ _ _ _ _ (xT (i:=9) nd rfl (by first | exact Or.inl rfl | exact Or.inr rfl) (xP Js (hr.mono (by decide)) rfl T.Jo T.Jp T.Jq .nil pass0 (@xG _ _ _ (@xH _ _ _ _ _ (pv 4) (@xH _ _ _ _ _ (pv 1) (@xH _ _ _ _ _ (pv 6) (@xH _ _ _ _ _ (pv 8) xS rfl) rfl) rfl) rfl)))) (@xU _ _ _ _ _ _ (xT (i:=10) nd rfl (by first | exact Or.inl rfl | exact Or.inr rfl) (@xZ _ _ _ _ _ _ _ _ wW (@xZ _ _ _ _ _ _ _ _ op_fdivB (pv 7) (pv 1)) (pv 1))) (@xU _ _ _ _ _ _ (ps_setComp (ix:=11) nd rfl (by first | exact Or.inl rfl | exact Or.inr rfl) (own:=["_law_step_here"]) (caps:=[7,10]) rfl (show CompScope ["_law_step_here"] [7,10] ["_law_two_books", "_law_day_here", "_law_asked", "_law_when", "_law_book_here", "_law_rows", "_law_sender", "_law_since_here", "_law_wish", "_law_steps", "_law_ahead", "_law_gone", "_law_latest"] (defScope wB) _ from ⟨rfl,by decide +kernel,by decide +kernel,by decide +kernel,by decide +kernel⟩) (@xx _ _ _ _ _ rfl (pv 9)) (λ_ _ _ _=>(xN (i:=0) (show List.Nodup (["_law_step_here", "_law_since_here", "_law_ahead"]:List Str) from by decide +kernel) rfl (by first | exact Or.inl rfl | exact Or.inr rfl))) (λ_ _ _ _=>pts_one (@xc _ _ _ _ _ _ _ _ op_le (@xf _ _ _ _ _ _ _ (xa rfl) (pv 0) xL (λ_ _=>rfl)) (@xZ _ _ _ _ _ _ _ _ op_sub (pv 1) (pv 2)) (nomark _))) (λ_ _ _ _=>(pv 0))) (@xU _ _ _ _ _ _ (@xj _ _ _ _ _ _ _ _ (@PW.pt _ _ _ (@pw_or _ _ _ _ _ _ _ (@xc _ _ _ _ _ _ _ _ (op_eqNil hu) (pv 11) (@wG _ _ _ _ wX) (nomark _)) (@pw_or1 _ _ _ _ (@xc _ _ _ _ _ _ _ _ op_ne (@xZ _ _ _ _ _ _ _ _ xq (@xf _ _ _ _ _ _ _ (xa rfl) (@xf _ _ _ _ _ _ _ (xi rfl) (pv 11) (@pe_un _ _ _ _ _ _ un_neg xL) (λ_ _=>rfl)) xL (λ_ _=>rfl)) (pv 10)) (pv 3) (nomark _))))) (@xQ _ _ _ (@xb _ _ _ (@xV _ _ _ _ wZ))) xY) (@xU _ _ _ _ _ _ (@xj _ _ _ _ _ _ _ _ (@xc _ _ _ _ _ _ _ _ op_eq (xW (xX rfl) (by rfl) T.b_len PySem.boot_len (@xG _ _ _ (@xH _ _ _ _ _ (pv 11) xS rfl))) (xW (xX rfl) (by rfl) T.b_len PySem.boot_len (@xG _ _ _ (@xH _ _ _ _ _ (pv 9) xS rfl))) (nomark _)) (@xQ _ _ _ (@xb _ _ _ (@xV _ _ _ _ wZ))) xY) (@xU _ _ _ _ _ _ (xT (i:=12) nd rfl (by first | exact Or.inl rfl | exact Or.inr rfl) (@xZ _ _ _ _ _ _ _ _ xq (@xZ _ _ _ _ _ _ _ _ op_sub (@xf _ _ _ _ _ _ _ (xa rfl) (@xf _ _ _ _ _ _ _ (xi rfl) (pv 9) (xW (xX rfl) (by rfl) T.b_len PySem.boot_len (@xG _ _ _ (@xH _ _ _ _ _ (pv 11) xS rfl))) (λ_ _=>rfl)) xL (λ_ _=>rfl)) xL) (pv 10))) (@xb _ _ _ (@xV _ _ _ _ (@pe_cmpR _ _ _ _ _ _ _ _ op_eq (@xf _ _ _ _ _ _ _ (xi rfl) (xP IQ (hr.mono (by decide)) rfl T.Ik T.Ir T.IA .nil pass0 (@xG _ _ _ (@xH _ _ _ _ _ (pv 5) (@xH _ _ _ _ _ (pv 8) (@xH _ _ _ _ _ (pv 3) xS rfl) rfl) rfl))) (pv 6) (λ_ _=>rfl)) (pv 12) (nomark _))))))))))))),?_⟩
  have line:=line9
  have d1:=D.d1
  have d6:=D.d6
  have hE:=agDE (x:=x) D.gd hk d1 D.hd
  have gM:Good rooms.length (again (ps.map (·.2)) day 0 R):=by rw [<-D.eq];exact D.gr
  obtain ⟨Ew,eR⟩:=(again_iff hE D.gd d1 D.hd gM x0 xR).mp fe
  refine (zr rfl (un2 D.at_ ?_))
  refine (zr rfl (un3 k3 ?_))
  obtain ⟨h00,j,pj,jp,jl,jf,hpj,ep,late⟩:=waits_math D.gd hk kw d1 D.hd gM x0 eR Ew
  refine (zr rfl (zr rfl (zr rfl (zr rfl (ex8 b day k w0 rooms tr tm ps ⟨rfl,D.hb,by have:=D.rm;omega,D.gd,hk,hw,d1,d6,D.hd,λh0=>absurd h0 h00,λl ts H1 h0 hl s1 kl kt et=>?_⟩)))))
  rw [<-et] at jl jf hpj late
  rw [zA] at jl
  have D1:=D.same s1
  have lt:(ts.map λa=>V.ref a.1).length=ts.length:=zA ..
  have l99:ts.length<=1000:=by
   have:=congrArg List.length et
   rw [zA] at this
   have l2:(toldF (tOf (ps.map (·.2)) day rooms.length k w0) (anch (ps.map (·.2)) day k)).length<=0 + (anch (ps.map (·.2)) day k).length:=told_len _ []
   have l3:=anch_len (ms:=ps.map (·.2)) (day:=day) (k:=k)
   have:=D.gd.len
   rw [zA] at l3
   omega
  refine (zr rfl (zr rfl (zr2 rfl rfl ⟨⟨by omega,Int.lt_of_le_of_lt d6 (by decide)⟩,zr rfl (zr2 rfl rfl ⟨.inr ⟨by omega,by omega⟩,?_⟩)⟩)))
  refine (zr rfl ⟨l,rfl,⟨_,SqL.of kl⟩,?_⟩)
  refine comp_list (K:=K) (a:=l) (xs:=ts.map λa=>V.ref a.1) (λi τ acc H5=>(∃ t0,τ=[t0,some (.int x),some (.int (x / day * day))])/\acc=(((ts.take i).filter λa=>decide (a.2.1<=x - x / day * day)).map λa=>V.ref a.1)/\H5=H1) ⟨⟨_,rfl⟩,rfl,rfl⟩ (by omega) ?_ ?_ ?_
  ·rintro i τ acc H5 ⟨_,rfl,rfl⟩
   exact ⟨by rw [zA];exact z6 (ya _ _) (by rw [zZ];omega),SqL.of kl⟩
  ·rintro i v τ acc H5 C hv ⟨⟨t0,rfl⟩,rfl,rfl⟩ hC
   obtain ⟨r,hr,rfl⟩:=xl hv
   have hrow:=kt r (zC hr)
   refine (zr rfl (ixt hrow rfl (zr rfl (zr rfl (zr2 rfl rfl (zr2 rfl rfl (zr rfl (iteB (λc=>?_) λc=>?_))))))))
   ·exact (zr rfl (hC _ _ _ ⟨⟨_,rfl⟩,by rw [xp hr,yI,zG,List.filter_cons,if_pos c];rfl,rfl⟩))
   ·exact hC _ _ _ ⟨⟨_,rfl⟩,by rw [xp hr,yI,zG,List.filter_cons,if_neg (by rw [c];exact zM)];simp,rfl⟩
  rintro τ acc H5 ⟨⟨t0,rfl⟩,rfl,rfl⟩ lg hlg
  have fe2:(ts.filter λa=>decide (a.2.1<=x - x / day * day))=ts.take j:=filter_map_take jf
  rw [lt,zf,fe2]
  have s2:=xK (o:=HO.lst ((ts.take j).map λa=>V.ref a.1)) hlg
  have D2:=D1.same s2
  have kg:upd H5 lg (HO.lst ((ts.take j).map λa=>V.ref a.1)) lg=some (.lst ((ts.take j).map λa=>V.ref a.1)):=xI
  have kl2:=s2 _ _ kl
  have kt2:∀ a∈ts,upd H5 lg (HO.lst ((ts.take j).map λa=>V.ref a.1)) a.1=some (.tup [.int a.2.1,.int a.2.2]):=λa ha=>s2 _ _ (kt a ha)
  have s12:=s1.trans s2
  generalize upd H5 lg (HO.lst ((ts.take j).map λa=>V.ref a.1))=H2 at kg kl2 kt2 D2 s12 ⊢
  have lj:((ts.take j).map λa=>V.ref a.1).length=j:=by rw [zA,zZ];omega
  rw [zR] at hpj
  obtain ⟨r,hr,er⟩:∃ r,ts[j - 1]?=some r/\r.2=pj:=by
   cases z:ts[j - 1]? with
   | none=>rw [z] at hpj;cases hpj
   | some r=>rw [z] at hpj;cases hpj;exact ⟨r,rfl,rfl⟩
  have hat:atI ((ts.take j).map λa=>V.ref a.1) (-1)=some (V.ref r.1):=atI_end96 (n:=j - 1) (by omega) (by rw [zR,List.getElem?_take_of_lt (by omega),hr];rfl)
  have hrow:=kt2 r (zC hr)
  refine (zr rfl ⟨zT _,λl4 hl4=>⟨lg,l4,zr rfl ⟨rfl,SqL.of (xK hl4 _ _ kg),SqL.of xI,zr rfl (iteB0 ?_ ?_)⟩⟩⟩)
  ·cases z:(ts.take j).map λa=>V.ref a.1 with
   | nil=>rw [z] at lj;simp at lj;omega
   | cons _ _=>rfl
  have s3:=xK (o:=HO.lst []) hl4
  have D3:=D2.same s3
  have kg:=s3 _ _ kg
  have kl3:=s3 _ _ kl2
  have hrow:=s3 _ _ hrow
  have kt3:∀ a∈ts,upd H2 l4 (HO.lst []) a.1=some (.tup [.int a.2.1,.int a.2.2]):=λa ha=>s3 _ _ (kt2 a ha)
  have s13:=s12.trans s3
  generalize upd H2 l4 (HO.lst [])=H3 at kg kl3 kt3 hrow D3 s13 ⊢
  refine (zr rfl (zr rfl (ixl kg hat (ixt hrow rfl (zr rfl (zr2 rfl rfl (zr rfl ⟨rfl,zr rfl (iteB0 (ne_int96 (by show V.int (r.2.2 + x / day * day)=V.int e;rw [er,ep])) ?_)⟩)))))))
  refine (zr rfl ⟨lg,zr rfl ⟨.inl (SqL.of kg),zr rfl ⟨l,zr rfl ⟨.inl (SqL.of kl3),rfl,zr rfl (iteB (λ_=>q _ s13) λc=>?_)⟩⟩⟩⟩)
  have jlt:j < ts.length:=by
   rcases ym j ts.length with h | h
   ·exact h
   ·rw [lj,lt,show j=ts.length by omega] at c;simp at c
  obtain ⟨u,hu⟩:∃ u,ts[j]?=some u:=⟨_,zU jlt⟩
  have bw:=late u.2 (by rw [zR,hu];rfl)
  have hurow:=kt3 u (zC hu)
  have hatu:(ts.map λa=>V.ref a.1)[j]?=some (V.ref u.1):=by rw [zR,hu];rfl
  refine (zr rfl (zr rfl ⟨lg,zr rfl ⟨.inl (SqL.of kg),ixl kl3 (by rw [lj];exact xr hatu) (ixt hurow rfl (zr2 rfl rfl (zr rfl (zr2 rfl rfl ?_))))⟩⟩))
  refine (zr rfl (zr rfl (zr rfl ⟨br,w0,e,rooms,trr,tmr,qs,rfl,D3.hr,by have:=D.rm;omega,D.gr,λl9 H9 hl9 s9 k9=>?_⟩)))
  refine (zr rfl (ixl k9 (xr (rep_at hk)) (zr rfl ?_)))
  have e9:bwd (qs.map (·.2)) w0 e k=some (u.2.1 - 1 + x / day * day):=by rw [D.eq];exact bw
  rw [e9]
  refine ⟨rfl,?_⟩
  show Q (V.bl (decide (V.int (u.2.1 - 1 + x / day * day)=V.int (u.2.1 - 1 + x / day * day)))) H9
  rw [decide_eq_true rfl]
  exact q _ (s13.trans s9)
theorem DZ:FnScope ["_law_two_books", "_law_day_here", "_law_rounds", "_law_asked", "_law_book_here", "_law_rows", "_law_sender", "_law_since_here", "_law_wish", "_law_again", "_law_once", "_law_when", "_law_letter_here", "_law_chain", "_law_told"] ["_law_two_books", "_law_day_here", "_law_rounds", "_law_asked"] (defScope CB):=⟨rfl,rfl,rfl,by decide +kernel,rfl,by decide +kernel,by decide +kernel⟩
theorem Gu (T:Tx K mg a t_LAST_TIME t_MOST_WALKERS t_MOST_ROOM t_MOST_MEETINGS t_MOST_MANY t_LONGEST_DAY) (B:BmAt mg base):FnOk P w K mg base CX0 7 a.AW a.BJ ["_law_two_books", "_law_day_here", "_law_rounds", "_law_asked"] (spRight96):=by
 have CW:=@DC P w _ _ base _ _ _ _ _ _ _ T B
 have GL:=@F1 P w _ _ base _ _ _ _ _ _ _ T B
 have IS:=@Hk P w _ _ base _ _ _ _ _ _ _ T B
 have Jk:=@Ih P w _ _ base _ _ _ _ _ _ _ T B
 have Fm:=@EW P w _ _ base _ _ _ _ _ _ _ T B
 have Gn:=@Hl P w _ _ base _ _ _ _ _ _ _ T B
 have EJ:=@DQ P w _ _ base _ _ _ _ _ _ _ T B
 have EI:=@DP P w _ _ base _ _ _ _ _ _ _ T B
 refine T.Bf.ok DZ (λvs H Q E h=>?_) (λcdv A outer s H vs Q E hr h=>?_)
 ·obtain ⟨_,_,_,_,_,_,_,_,_,_,_,_,_,_,_,_,rfl,_⟩:=h;rfl
 ·have nd:=DZ.nd
  have hu:=hr.units
  obtain ⟨t2,t3,day,k,w0,x,b,br,rooms,tr,tm,ps,trr,tmr,qs,R,rfl,⟨D,x0,xR,hk,hw⟩,k3,q⟩:=h
  refine ⟨_,(@xQ _ _ _ (@xU _ _ _ _ _ _ (xv (pv 0) (xh (n:=2) rfl rfl (xM (xN (i:=4) nd rfl (by first | exact Or.inl rfl | exact Or.inr rfl)) (xM (xN (i:=5) nd rfl (by first | exact Or.inl rfl | exact Or.inr rfl)) xg)))) (@xU _ _ _ _ _ _ (xv (pv 3) (xh (n:=3) rfl rfl (xM (xN (i:=6) nd rfl (by first | exact Or.inl rfl | exact Or.inr rfl)) (xM (xN (i:=7) nd rfl (by first | exact Or.inl rfl | exact Or.inr rfl)) (xM (xN (i:=8) nd rfl (by first | exact Or.inl rfl | exact Or.inr rfl)) xg))))) (@xU _ _ _ _ _ _ (xT (i:=9) nd rfl (by first | exact Or.inl rfl | exact Or.inr rfl) (xP CW (hr.mono (by decide)) rfl T.Ea T.Eb T.Ec .nil pass0 (@xG _ _ _ (@xH _ _ _ _ _ (pv 4) (@xH _ _ _ _ _ (pv 1) (@xH _ _ _ _ _ (pv 6) (@xH _ _ _ _ _ (pv 7) xS rfl) rfl) rfl) rfl)))) (@xU _ _ _ _ _ _ (xT (i:=10) nd rfl (by first | exact Or.inl rfl | exact Or.inr rfl) (xP Fm (hr.mono (by decide)) rfl T.Fd T.Fe T.Ff .nil pass0 (@xG _ _ _ (@xH _ _ _ _ _ (pv 5) (@xH _ _ _ _ _ (pv 6) (@xH _ _ _ _ _ (pv 7) xS rfl) rfl) rfl)))) (@xU _ _ _ _ _ _ (@xj _ _ _ _ _ _ _ _ (@wF _ _ _ _ (xz (xP EJ (hr.mono (by decide)) rfl T.Em T.Ep T.Et .nil pass0 (@xG _ _ _ (@xH _ _ _ _ _ (pv 9) (@xH _ _ _ _ _ (pv 10) (@xH _ _ _ _ _ (@xZ _ _ _ _ _ _ _ _ wW (pv 2) (pv 1)) xS rfl) rfl) rfl))))) (@xQ _ _ _ (@xb _ _ _ (@xV _ _ _ _ wZ))) xY) (@xU _ _ _ _ _ _ (xT (i:=11) nd rfl (by first | exact Or.inl rfl | exact Or.inr rfl) (@xf _ _ _ _ _ _ _ (xi rfl) (pv 10) (pv 8) (λ_ _=>rfl))) (@xU _ _ _ _ _ _ (@xj _ _ _ _ _ _ _ _ (pt_cmp (@pc_isN _ _ _ _ _ (pv 11))) (@xQ _ _ _ (@xb _ _ _ (@xV _ _ _ _ (pe_cmp (@pc_isN _ _ _ _ _ (xP Gn (hr.mono (by decide)) rfl T.F6 T.Gb T.Gg .nil pass0 (@xG _ _ _ (@xH _ _ _ _ _ (pv 5) (@xH _ _ _ _ _ (@xo _ _ _ _ _ (@xG _ _ _ (@xH _ _ _ _ _ (pv 6) (@xH _ _ _ _ _ (pv 7) (@xH _ _ _ _ _ (pv 8) (@xH _ _ _ _ _ (@xZ _ _ _ _ _ _ _ _ op_pow xL xL) xS rfl) rfl) rfl) rfl))) xS rfl) rfl)))))))) xY) (@xU _ _ _ _ _ _ (xT (i:=12) nd rfl (by first | exact Or.inl rfl | exact Or.inr rfl) (@xo _ _ _ _ _ (@xG _ _ _ (@xH _ _ _ _ _ (pv 6) (@xH _ _ _ _ _ (pv 7) (@xH _ _ _ _ _ (pv 8) (@xH _ _ _ _ _ (pv 11) xS rfl) rfl) rfl) rfl)))) (@xU _ _ _ _ _ _ (ps_setComp (ix:=13) nd rfl (by first | exact Or.inl rfl | exact Or.inr rfl) (own:=["_law_number", "_law_turn"]) (caps:=[4]) rfl (show CompScope ["_law_number", "_law_turn"] [4] ["_law_two_books", "_law_day_here", "_law_rounds", "_law_asked", "_law_book_here", "_law_rows", "_law_sender", "_law_since_here", "_law_wish", "_law_again", "_law_once", "_law_when", "_law_letter_here", "_law_chain", "_law_told"] (defScope CB) _ from ⟨rfl,by decide +kernel,by decide +kernel,by decide +kernel,by decide +kernel⟩) (@xx _ _ _ _ _ rfl (xP GL (hr.mono (by decide)) rfl T.Gx T.Gz T.GB .nil pass0 (@xG _ _ _ (@xH _ _ _ _ _ (pv 4) (@xH _ _ _ _ _ (pv 1) (@xH _ _ _ _ _ (pv 6) (@xH _ _ _ _ _ (pv 7) (@xH _ _ _ _ _ (pv 8) xS rfl) rfl) rfl) rfl) rfl)))) (λ_ _ _ _=>(xh (n:=2) rfl rfl (xM (xN (i:=0) (show List.Nodup (["_law_number", "_law_turn", "_law_book_here"]:List Str) from by decide +kernel) rfl (by first | exact Or.inl rfl | exact Or.inr rfl)) (xM (xN (i:=1) (show List.Nodup (["_law_number", "_law_turn", "_law_book_here"]:List Str) from by decide +kernel) rfl (by first | exact Or.inl rfl | exact Or.inr rfl)) xg)))) (λ_ _ _ _=>pts_nil) (λ_ _ _ _=>(@xZ _ _ _ _ _ _ _ _ xq (@xZ _ _ _ _ _ _ _ _ wW (pv 1) (xW (xX rfl) (by rfl) T.b_len PySem.boot_len (@xG _ _ _ (@xH _ _ _ _ _ (@xf _ _ _ _ _ _ _ (xa rfl) (pv 2) xL (λ_ _=>rfl)) xS rfl)))) (pv 0)))) (@xU _ _ _ _ _ _ (@xj _ _ _ _ _ _ _ _ (@xc _ _ _ _ _ _ _ _ op_notB (xP IS (hr.mono (by decide)) rfl T.Im T.Iw T.IC .nil pass0 (@xG _ _ _ (@xH _ _ _ _ _ (pv 5) (@xH _ _ _ _ _ (pv 12) (@xH _ _ _ _ _ (pv 13) xS rfl) rfl) rfl))) wZ (nomark _)) (@xQ _ _ _ (@xb _ _ _ (@xV _ _ _ _ wZ))) xY) (@xU _ _ _ _ _ _ (xT (i:=14) nd rfl (by first | exact Or.inl rfl | exact Or.inr rfl) (xP Gn (hr.mono (by decide)) rfl T.F6 T.Gb T.Gg .nil pass0 (@xG _ _ _ (@xH _ _ _ _ _ (pv 5) (@xH _ _ _ _ _ (pv 12) xS rfl) rfl)))) (@xU _ _ _ _ _ _ (@xj _ _ _ _ _ _ _ _ (@PW.pt _ _ _ (@pw_or _ _ _ _ _ _ _ (pt_cmp (@pc_isN _ _ _ _ _ (pv 14))) (@pw_or1 _ _ _ _ (@xc _ _ _ _ _ _ _ _ op_ne (xP Jk (hr.mono (by decide)) rfl T.IY T.Ja T.Jd .nil pass0 (@xG _ _ _ (@xH _ _ _ _ _ (pv 5) (@xH _ _ _ _ _ (pv 12) (@xH _ _ _ _ _ (pv 14) xS rfl) rfl) rfl))) (pv 11) (nomark _))))) (@xQ _ _ _ (@xb _ _ _ (@xV _ _ _ _ wZ))) xY) (@xb _ _ _ (@xV _ _ _ _ (@pe_or _ _ _ _ _ _ _ (@pe_cmpR _ _ _ _ _ _ _ _ op_eq (pv 6) (pv 8) (nomark _)) (@pe_one _ _ _ _ _ (xP EI (hr.mono (by decide)) rfl T.El T.Eo T.Es .nil pass0 (@xG _ _ _ (@xH _ _ _ _ _ (pv 0) (@xH _ _ _ _ _ (pv 1) (@xH _ _ _ _ _ (pv 3) (@xH _ _ _ _ _ (pv 11) xS rfl) rfl) rfl) rfl)))))))))))))))))))),?_⟩
  have line:=line9
  have d1:=D.d1
  have d6:=D.d6
  have R12:=D.R12
  have rm:=D.rm
  have hE:=agDE (x:=x) D.gd hk d1 D.hd
  have gM:Good rooms.length (again (ps.map (·.2)) day 0 R):=by rw [<-D.eq];exact D.gr
  have far:(R:Int) * day<=12000000:=by
   have:=Int.mul_le_mul (show (R:Int)<=12 by omega) d6 (by omega) (by omega)
   omega
  have c9:CPow 10 9:=⟨by decide,by decide,by decide⟩
  have iff:=λ(i:Nat) (y:Int)=>again_iff (i:=i) (y:=y) hE D.gd d1 D.hd gM x0 xR
  refine (zr rfl (un2 D.at_ ?_))
  refine (zr rfl (un3 k3 ?_))
  refine (zr rfl (zr rfl (zr rfl (zr rfl (ex8 b day k x rooms tr tm ps ⟨rfl,D.hb,by omega,D.gd,d1,d6,D.hd,x0,by omega,λl1 H1 hl1 s1 k1=>?_⟩)))))
  have D1:=D.same s1
  refine (zr rfl (zr rfl (zr rfl ⟨br,k,x,rooms,trr,tmr,qs,rfl,hk,D1.hr,by omega,D.gr,λl2 H2 hl2 s2 k2=>?_⟩)))
  rw [D.eq] at k2
  have D2:=D1.same s2
  have k1:=s2 _ _ k1
  refine (zr rfl (zr rfl (zr rfl (zr rfl (zr2 rfl rfl ⟨.inr ⟨by omega,by omega⟩,l1,l2,rooms.length,_,zr1 rfl ⟨k1,k2,rm,λi hi=>?_,λH3 s3=>(zr rfl (iteB0 rfl ?_))⟩⟩)))))
  ·cases ef:agF (ps.map (·.2)) day (x / day) (lone k x) rooms.length i with
   | none=>
    show _=none
    cases eg:fwd (again (ps.map (·.2)) day 0 R) (lone k x) i with
    | none=>rfl
    | some y=>rw [((iff i y).mp eg).1] at ef;cases ef
   | some y=>
    show _=if y<=(R:Int) * day then some y else none
    by_cases c:y<=(R:Int) * day
    ·rw [if_pos c];exact (iff i y).mpr ⟨ef,c⟩
    ·rw [if_neg c]
     cases eg:fwd (again (ps.map (·.2)) day 0 R) (lone k x) i with
     | none=>rfl
     | some z=>
      obtain ⟨h1,h2⟩:=(iff i z).mp eg
      rw [ef] at h1;cases h1
      exact absurd h2 c
  have D3:=D2.same s3
  have k2:=s3 _ _ k2
  have s13:=(s1.trans s2).trans s3
  have k33:=s13 _ _ k3
  refine (zr rfl (zr rfl (ixl k2 (xr (rep_at hw)) ?_)))
  cases fe:fwd (again (ps.map (·.2)) day 0 R) (lone k x) w0 with
  | none=>
   refine (zr rfl (zr rfl (iteB1 rfl ?_)))
   refine (zr rfl (zr rfl (zr rfl (zr rfl (zr2 rfl rfl ⟨c9,by show 4<=_;omega,λt4 ht4=>?_⟩)))))
   have s4:=xK (o:=HO.tup [V.int (k:Int),V.int x,V.int (w0:Int),V.int (10 ^ Int.toNat 9)]) ht4
   refine ⟨br,t4,k,w0,x,_,rooms,trr,tmr,qs,rfl,D3.hr.same s4,by omega,D.gr,⟨xI,hk,hw,x0,by omega,by decide,by decide⟩,λ_ H5 s5=>?_,λe' l' ns' H5 he=>?_⟩
   ·exact q _ ((s13.trans s4).trans s5)
   ·rw [D.eq,fe] at he;cases he
  | some e=>
   refine (zr rfl (zr rfl (iteB0 rfl ?_)))
   obtain ⟨Ew,eR⟩:=(iff w0 e).mp fe
   have xe:=hE.low _ _ Ew
   refine (zr rfl (zr rfl (zr rfl (zr rfl ⟨by show 4<=_;omega,λt4 ht4=>?_⟩))))
   have s4:=xK (o:=HO.tup [V.int (k:Int),V.int x,V.int (w0:Int),oV (some e)]) ht4
   have k4:upd H3 t4 (HO.tup [V.int (k:Int),V.int x,V.int (w0:Int),oV (some e)]) t4=some (.tup [V.int (k:Int),V.int x,V.int (w0:Int),oV (some e)]):=xI
   have D4:=D3.same s4
   have s14:=s13.trans s4
   generalize upd H3 t4 (HO.tup [V.int (k:Int),V.int x,V.int (w0:Int),oV (some e)])=H4 at k4 D4 s14 ⊢
   refine (zr rfl (zr rfl (zr rfl (zr rfl (zr rfl (ex9 b day k w0 x rooms tr tm ps ⟨rfl,D4.hb,by omega,D.gd,hw,d1,d6,D.hd,x0,by omega,λno=>?_,λe' l5 cs H5 he hl5 s5 k5 kc w00 lc wk=>?_⟩))))))
   ·rw [Ew] at no;cases no
   rw [Ew] at he;cases he
   have D5:=D4.same s5
   have s15:=s14.trans s5
   have lcs:(cs.map λc=>V.ref c.1).length=cs.length:=zA ..
   refine ⟨l5,rfl,⟨_,SqL.of k5⟩,?_⟩
   refine comp_list (K:=K) (a:=l5) (xs:=cs.map λc=>V.ref c.1) (λi τ acc H6=>(∃ t0 t1,τ=[t0,t1,some (.ref b)])/\acc=((cs.take i).map λc=>c.2.2 * ((ps.map (·.2)).length:Int) + c.2.1).map V.int/\H6=H5) ⟨⟨_,_,rfl⟩,rfl,rfl⟩ (by omega) ?_ ?_ ?_
   ·rintro i τ acc H6 ⟨_,rfl,rfl⟩
    exact ⟨by simp;omega,SqL.of k5⟩
   ·rintro i v τ acc H6 C hv ⟨⟨t0,t1,rfl⟩,rfl,rfl⟩ hC
    obtain ⟨c,hc,rfl⟩:=xl hv
    refine (un2 (kc c (zC hc)) ?_)
    refine (zr rfl (zr rfl (ixt D5.hb.book rfl ⟨tm,zr rfl ⟨.inr (SqT.of D5.hb.meets),zr2 rfl rfl ⟨.inr ⟨?_,?_⟩,zr rfl (zr2 rfl rfl (hC _ _ _ ⟨⟨_,_,rfl⟩,?_,rfl⟩))⟩⟩⟩)))
    ·have:=D.gd.len;rw [zA] at *;omega
    ·have:=D.gd.len;rw [zA] at *;omega
    ·rw [xp hc,zG,zG,zA,zA];rfl
   rintro τ acc H6 ⟨⟨t0,t1,rfl⟩,rfl,rfl⟩ l6 hl6
   rw [lcs,zf]
   have ens:(cs.map λc=>c.2.2 * ((ps.map (·.2)).length:Int) + c.2.1)=(cs.map (·.2)).map λc=>c.2 * ((ps.map (·.2)).length:Int) + c.1:=by rw [zn];rfl
   rw [ens]
   have wM:=walk_again D.gd d1 gM (cs.map (·.2)) k x (-1) (.inl rfl) wk eR
   have s6:=xK (o:=HO.lst (((cs.map (·.2)).map λc=>c.2 * ((ps.map (·.2)).length:Int) + c.1).map V.int)) hl6
   have k6:upd H6 l6 (HO.lst (((cs.map (·.2)).map λc=>c.2 * ((ps.map (·.2)).length:Int) + c.1).map V.int)) l6=some (.lst (((cs.map (·.2)).map λc=>c.2 * ((ps.map (·.2)).length:Int) + c.1).map V.int)):=xI
   have D6:=D5.same s6
   have k46:=s6 _ _ (s5 _ _ k4)
   have s16:=s15.trans s6
   generalize upd H6 l6 (HO.lst (((cs.map (·.2)).map λc=>c.2 * ((ps.map (·.2)).length:Int) + c.1).map V.int))=H7 at k6 D6 k46 s16 ⊢
   have LT:∀ {H':Hp},H' t4=some (.tup [V.int (k:Int),V.int x,V.int (w0:Int),oV (some e)])->LetAt H' t4 rooms.length k w0 x e:=λh=>⟨h,hk,hw,x0,by omega,by omega,by omega⟩
   refine (zr rfl (zr rfl (zr rfl ⟨br,t4,l6,k,w0,x,e,e,rooms,trr,tmr,qs,zr rfl ⟨D6.hr,D.gr,LT k46,k6,by rw [D.eq];exact wM,zX _,λH8 s8=>?_⟩⟩)))
   refine (zr2 rfl rfl (zr rfl (iteB0 rfl ?_)))
   have D8:=D6.same s8
   have k48:=s8 _ _ k46
   have s18:=s16.trans s8
   refine (zr rfl (zr rfl ⟨br,t4,k,w0,x,e,rooms,trr,tmr,qs,rfl,D8.hr,by omega,D.gr,LT k48,λno=>?_,λe' l9 ns H9 he le hl9 s9 k9 ln wk9=>?_⟩))
   ·rw [D.eq,fe] at no
    simp [upto] at no
   rw [D.eq,fe] at he;cases he
   have D9:=D8.same s9
   have k49:=s9 _ _ k48
   have s19:=s18.trans s9
   refine (zr rfl (zr rfl (iteB0 rfl (zr rfl (zr rfl (zr rfl ⟨br,t4,l9,k,w0,x,e,e,rooms,trr,tmr,qs,ns,rfl,D9.hr,D.gr,k49,k9,wk9,zr rfl ⟨rfl,zr rfl (iteB0 (ne_int96 rfl) ?_)⟩⟩))))))
   refine (zr rfl (zr rfl ⟨rfl,zr rfl (iteB (λc=>?_) λc=>?_)⟩))
   ·exact q _ s19
   ·refine (zr rfl (zr rfl (zr rfl (zr rfl (ex16 t2 t3 day k w0 x e b br rooms tr tm ps trr tmr qs ⟨rfl,⟨R,D9,x0,xR,fe⟩,s19 _ _ k3,λz=>?_,⟨hk,hw⟩,λH' s'=>q _ (s19.trans s')⟩)))))
    rw [z] at c;simp at c
theorem Jl:FnScope ["_law_script", "_law_purse_here", "_law_book_here", "_law_day_here", "_law_rounds", "_law_due", "_law_rows", "_law_walker", "_law_k", "_law_sender", "_law_wish", "_law_since_here", "_law_at", "_law_asked"] ["_law_script"] (defScope Jm):=⟨rfl,rfl,rfl,by decide +kernel,rfl,by decide +kernel,by decide +kernel⟩
theorem Ju (T:Tx K mg a t_LAST_TIME t_MOST_WALKERS t_MOST_ROOM t_MOST_MEETINGS t_MOST_MANY t_LONGEST_DAY) (B:BmAt mg base):FnOk P w K mg base CX0 8 a.E4 a.GP ["_law_script"] (spLawT K a.tP lamPos):=by
 have E6:=@Gv P w _ _ base _ _ _ _ _ _ _ T B
 have Aa:=@wC P w _ _ base _ _ _ _ _ _ _ T B
 have Ia:=@GW P w _ _ base _ _ _ _ _ _ _ T B
 have HX:=@GS P w _ _ base _ _ _ _ _ _ _ T B
 have E5:=@Gr P w _ _ base _ _ _ _ _ _ _ T B
 have FT:=@Fb P w _ _ base _ _ _ _ _ _ _ T B
 have IT:=@Hm P w _ _ base _ _ _ _ _ _ _ T B
 have Gp:=@FJ P w _ _ base _ _ _ _ _ _ _ T B
 have Hf:=@Gu P w _ _ base _ _ _ _ _ _ _ T B
 refine T.FH.ok Jl (λvs H Q E h=>?_) (λcdv A outer s H vs Q E hr h=>?_)
 ·obtain ⟨_,_,rfl,_⟩:=h;rfl
 ·have nd:=Jl.nd
  have hu:=hr.units
  obtain ⟨sa,ns,rfl,hS,hn,mt,q⟩:=h
  refine ⟨_,(@xQ _ _ _ (@xU _ _ _ _ _ _ (@xT _ _ 1 _ _ _ _ nd rfl (by first | exact Or.inl rfl | exact Or.inr rfl) (xP E6 (hr.mono (by decide)) rfl T.EY T.E1 T.E3 .nil pass0 (@xG _ _ _ (@xH _ _ _ _ _ (pv 0) (@xH _ _ _ _ _ xL xS rfl) rfl))) rfl (by first | exact .inl rfl | exact .inr rfl | assumption)) (@xU _ _ _ _ _ _ (@xT _ _ 2 _ _ _ _ nd rfl (by first | exact Or.inl rfl | exact Or.inr rfl) (xP FT (hr.mono (by decide)) rfl T.FK T.FM T.FO .nil pass0 (@xG _ _ _ (@xH _ _ _ _ _ (pv 1) (@xH _ _ _ _ _ (xP Ia (hr.mono (by decide)) rfl T.Hr T.Hv T.HM .nil pass0 (@xG _ _ _ (@xH _ _ _ _ _ (pv 1) (@xH _ _ _ _ _ xL (@xH _ _ _ _ _ xL xS rfl) rfl) rfl))) xS rfl) rfl))) rfl (by first | exact .inl rfl | exact .inr rfl | assumption)) (@xU _ _ _ _ _ _ (@xT _ _ 3 _ _ _ _ nd rfl (by first | exact Or.inl rfl | exact Or.inr rfl) (xP IT (hr.mono (by decide)) rfl T.Io T.Ix T.ID .nil pass0 (@xG _ _ _ (@xH _ _ _ _ _ (pv 1) (@xH _ _ _ _ _ (pv 2) xS rfl) rfl))) rfl (by first | exact .inl rfl | exact .inr rfl | assumption)) (@xU _ _ _ _ _ _ (@xT _ _ 4 _ _ _ _ nd rfl (by first | exact Or.inl rfl | exact Or.inr rfl) (xW (call_min2 rfl) (by rfl) T.b_min yP (@xG _ _ _ (@xH _ _ _ _ _ xL (@xH _ _ _ _ _ (@xZ _ _ _ _ _ _ _ _ op_fdivB xL (xW (call_max2 rfl) (by rfl) T.b_max yO (@xG _ _ _ (@xH _ _ _ _ _ xL (@xH _ _ _ _ _ (xW (xX rfl) (by rfl) T.b_len PySem.boot_len (@xG _ _ _ (@xH _ _ _ _ _ (@xf _ _ _ _ _ _ _ (xa rfl) (pv 2) xL (λ_ _=>rfl)) xS rfl))) xS rfl) rfl)))) xS rfl) rfl))) rfl (by first | exact .inl rfl | exact .inr rfl | assumption)) (@xU _ _ _ _ _ _ (@xT _ _ 5 _ _ _ _ nd rfl (by first | exact Or.inl rfl | exact Or.inr rfl) (xP Gp (hr.mono (by decide)) rfl T.F7 T.Gc T.Gh .nil pass0 (@xG _ _ _ (@xH _ _ _ _ _ (pv 2) (@xH _ _ _ _ _ (pv 3) (@xH _ _ _ _ _ (pv 4) xS rfl) rfl) rfl))) rfl (by first | exact .inl rfl | exact .inr rfl | assumption)) (@xU _ _ _ _ _ _ (@xT _ _ 6 _ _ _ _ nd rfl (by first | exact Or.inl rfl | exact Or.inr rfl) (xP HX (hr.mono (by decide)) rfl T.Hn T.Hs T.Hw .nil pass0 (@xG _ _ _ (@xH _ _ _ _ _ (pe_callTy (call_list_of' rfl) (by rfl) T.b_list PyProof.Rows.boot_list (@xG _ _ _ (@xH _ _ _ _ _ (@xf _ _ _ _ _ _ _ (xa rfl) (pv 2) xL (λ_ _=>rfl)) xS rfl))) (@xH _ _ _ _ _ (@pe_revL _ _ _ _ _ _ _ _ _ rfl (pv 5)) xS rfl) rfl))) rfl (by first | exact .inl rfl | exact .inr rfl | assumption)) (@xU _ _ _ _ _ _ (@xj _ _ _ _ _ _ _ _ (@xc _ _ _ _ _ _ _ _ (op_neE hu) (pv 6) (@xo _ _ _ _ _ (@xG _ _ _ (@xH _ _ _ _ _ (@xf _ _ _ _ _ _ _ (xa rfl) (pv 2) xL (λ_ _=>rfl)) (@xH _ _ _ _ _ (pe_callTy (wE) (by rfl) T.b_tuple zx (@xG _ _ _ (@xH _ _ _ _ _ (pv 5) xS rfl))) xS rfl) rfl))) (nomark _)) (@xQ _ _ _ (@xb _ _ _ (@xV _ _ _ _ wZ))) xY) (@xU _ _ _ _ _ _ (wJ PassesOwn.never rfl (pi_range1 rfl T.b_range (@xG _ _ _ (@xH _ _ _ _ _ (xW (xX rfl) (by rfl) T.b_len PySem.boot_len (@xG _ _ _ (@xH _ _ _ _ _ (@xf _ _ _ _ _ _ _ (xa rfl) (pv 2) xL (λ_ _=>rfl)) xS rfl))) xS rfl))) (xN (i:=7) nd rfl (by first | exact Or.inl rfl | exact Or.inr rfl)) (@xQ _ _ _ (@xb _ _ _ (@xj _ _ _ _ _ _ _ _ (@xc _ _ _ _ _ _ _ _ (op_neE hu) (xP E5 (hr.mono (by decide)) rfl T.EX T.EZ T.E2 .nil pass0 (@xG _ _ _ (@xH _ _ _ _ _ (pv 2) (@xH _ _ _ _ _ (pv 7) xS rfl) rfl))) (xP E5 (hr.mono (by decide)) rfl T.EX T.EZ T.E2 .nil pass0 (@xG _ _ _ (@xH _ _ _ _ _ (pv 6) (@xH _ _ _ _ _ (pv 7) xS rfl) rfl))) (nomark _)) (@xQ _ _ _ (@xb _ _ _ (@xV _ _ _ _ wZ))) xY)))) (@xU _ _ _ _ _ _ (wJ PassesOwn.never rfl (pi_range2 rfl T.b_range (@xG _ _ _ (@xH _ _ _ _ _ xL (@xH _ _ _ _ _ (xW (call_max2 rfl) (by rfl) T.b_max yO (@xG _ _ _ (@xH _ _ _ _ _ xL (@xH _ _ _ _ _ (xW (call_min2 rfl) (by rfl) T.b_min yP (@xG _ _ _ (@xH _ _ _ _ _ (xW (xX rfl) (by rfl) T.b_len PySem.boot_len (@xG _ _ _ (@xH _ _ _ _ _ (pv 0) xS rfl))) (@xH _ _ _ _ _ xL xS rfl) rfl))) xS rfl) rfl))) xS rfl) rfl))) (xN (i:=8) nd rfl (by first | exact Or.inl rfl | exact Or.inr rfl)) (@xQ _ _ _ (@xU _ _ _ _ _ _ (@xT _ _ 1 _ _ _ _ nd rfl (by first | exact Or.inl rfl | exact Or.inr rfl) (xP E6 (hr.mono (by decide)) rfl T.EY T.E1 T.E3 .nil pass0 (@xG _ _ _ (@xH _ _ _ _ _ (pv 0) (@xH _ _ _ _ _ (pv 8) xS rfl) rfl))) rfl (by first | exact .inl rfl | exact .inr rfl | assumption)) (@xU _ _ _ _ _ _ (@xT _ _ 9 _ _ _ _ nd rfl (by first | exact Or.inl rfl | exact Or.inr rfl) (xP Aa (hr.mono (by decide)) rfl T.Ab T.Ac T.Ae .nil pass0 (@xG _ _ _ (@xH _ _ _ _ _ (pv 1) (@xH _ _ _ _ _ (xW (xX rfl) (by rfl) T.b_len PySem.boot_len (@xG _ _ _ (@xH _ _ _ _ _ (@xf _ _ _ _ _ _ _ (xa rfl) (pv 2) xL (λ_ _=>rfl)) xS rfl))) xS rfl) rfl))) rfl (by first | exact .inl rfl | exact .inr rfl | assumption)) (@xU _ _ _ _ _ _ (@xT _ _ 10 _ _ _ _ nd rfl (by first | exact Or.inl rfl | exact Or.inr rfl) (xP Aa (hr.mono (by decide)) rfl T.Ab T.Ac T.Ae .nil pass0 (@xG _ _ _ (@xH _ _ _ _ _ (pv 1) (@xH _ _ _ _ _ (xW (xX rfl) (by rfl) T.b_len PySem.boot_len (@xG _ _ _ (@xH _ _ _ _ _ (@xf _ _ _ _ _ _ _ (xa rfl) (pv 2) xL (λ_ _=>rfl)) xS rfl))) xS rfl) rfl))) rfl (by first | exact .inl rfl | exact .inr rfl | assumption)) (@xU _ _ _ _ _ _ (@xT _ _ 11 _ _ _ _ nd rfl (by first | exact Or.inl rfl | exact Or.inr rfl) (@xZ _ _ _ _ _ _ _ _ wW (xP Aa (hr.mono (by decide)) rfl T.Ab T.Ac T.Ae .nil pass0 (@xG _ _ _ (@xH _ _ _ _ _ (pv 1) (@xH _ _ _ _ _ (pv 4) xS rfl) rfl))) (pv 3)) rfl (by first | exact .inl rfl | exact .inr rfl | assumption)) (@xU _ _ _ _ _ _ (@xj _ _ _ _ _ _ _ _ (@PW.pt _ _ _ (@pw_and _ _ _ _ _ _ _ (@xc _ _ _ _ _ _ _ _ (op_neUnit hu) (@xf _ _ _ _ _ _ _ (xa rfl) (pv 2) xL (λ_ _=>rfl)) (@xo _ _ _ _ _ wX) (nomark _)) (@pw_and1 _ _ _ _ (@xc _ _ _ _ _ _ _ _ op_gt (xP Aa (hr.mono (by decide)) rfl T.Ab T.Ac T.Ae .nil pass0 (@xG _ _ _ (@xH _ _ _ _ _ (pv 1) (@xH _ _ _ _ _ xL xS rfl) rfl))) xL (nomark _))))) (@xQ _ _ _ (@xU _ _ _ _ _ _ (@xT _ _ 12 _ _ _ _ nd rfl (by first | exact Or.inl rfl | exact Or.inr rfl) (xP Aa (hr.mono (by decide)) rfl T.Ab T.Ac T.Ae .nil pass0 (@xG _ _ _ (@xH _ _ _ _ _ (pv 1) (@xH _ _ _ _ _ (xW (xX rfl) (by rfl) T.b_len PySem.boot_len (@xG _ _ _ (@xH _ _ _ _ _ (@xf _ _ _ _ _ _ _ (xa rfl) (pv 2) xL (λ_ _=>rfl)) xS rfl))) xS rfl) rfl))) rfl (by first | exact .inl rfl | exact .inr rfl | assumption)) (@xb _ _ _ (@xT _ _ 11 _ _ _ _ nd rfl (by first | exact Or.inl rfl | exact Or.inr rfl) (@xZ _ _ _ _ _ _ _ _ op_sub (@xZ _ _ _ _ _ _ _ _ xq (pv 11) (@xf _ _ _ _ _ _ _ (xa rfl) (@xf _ _ _ _ _ _ _ (xa rfl) (@xf _ _ _ _ _ _ _ (xa rfl) (pv 2) xL (λ_ _=>rfl)) (pv 12) (λ_ _=>rfl)) xL (λ_ _=>rfl))) (xP Aa (hr.mono (by decide)) rfl T.Ab T.Ac T.Ae .nil pass0 (@xG _ _ _ (@xH _ _ _ _ _ (pv 1) (@xH _ _ _ _ _ xL xS rfl) rfl)))) rfl (by first | exact .inl rfl | exact .inr rfl | assumption))))) xY) (@xU _ _ _ _ _ _ (@xT _ _ 13 _ _ _ _ nd rfl (by first | exact Or.inl rfl | exact Or.inr rfl) (@xo _ _ _ _ _ (@xG _ _ _ (@xH _ _ _ _ _ (pv 9) (@xH _ _ _ _ _ (pv 11) (@xH _ _ _ _ _ (pv 10) xS rfl) rfl) rfl))) rfl (by first | exact .inl rfl | exact .inr rfl | assumption)) (@xb _ _ _ (@xj _ _ _ _ _ _ _ _ (@wF _ _ _ _ (xz (xP Hf (hr.mono (by decide)) rfl T.GZ T.G2 T.G6 .nil pass0 (@xG _ _ _ (@xH _ _ _ _ _ (@xo _ _ _ _ _ (@xG _ _ _ (@xH _ _ _ _ _ (pv 2) (@xH _ _ _ _ _ (pv 6) xS rfl) rfl))) (@xH _ _ _ _ _ (pv 3) (@xH _ _ _ _ _ (pv 4) (@xH _ _ _ _ _ (pv 13) xS rfl) rfl) rfl) rfl))))) (@xQ _ _ _ (@xb _ _ _ (@xV _ _ _ _ wZ))) xY)))))))))) (@xb _ _ _ (@xV _ _ _ _ wZ)))))))))))),?_⟩
  have line:=line9
  refine ⟨_,rfl,sa,ns,0,rfl,hS,by decide,λp H1 hp1 pu1 s1=>?_⟩
  have mt1:=L2.MT.same mt s1
  refine ⟨_,rfl,_,rfl,p,12,15,rfl,by decide,by decide,by decide,pu1,λb0 rooms tr tm0 ps0 H2 g2 hb0 rm1 rm2 rm9 gd0 n15=>?_⟩
  refine ⟨p,b0,rooms,tr,tm0,ps0,rfl,hb0,by omega,gd0,g2.2,λb tm ps H3 g3 hb gd h6=>?_⟩
  refine ⟨_,rfl,_,rfl,p,b,rooms,tr,tm,ps,rfl,hb,gd,h6,g3.2,λday H4 g4 d1 d6 hd=>?_⟩
  have G4:=(g2.trans g3).trans g4
  have mt4:=L2.MT.go mt1 pu1 G4
  have hb4:=hb.tups (g4.tups g3.2)
  have sA:Same H H4:=λx u e=>G4.1 x u (xJ e hp1) (s1 _ _ e)
  have hS4:=sA.seq hS
  have n60:=gd.len
  obtain ⟨R,eR,R1,R12,Rl⟩:=rounds96 ps.length n60
  refine ⟨_,rfl,b,_,_,_,rfl,rfl,SqT.of hb4.book,rfl,tm,_,rfl,.inr (SqT.of hb4.meets),_,_,rfl,_,_,rfl,rfl,⟨by split <;> omega,Int.lt_of_le_of_lt (b:=60) (by rw [zA];split <;> omega) (by decide)⟩,_,_,rfl,?_⟩
  rw [zA,eR]
  have far:(R:Int) * day<=12000000:=by
   have:=Int.mul_le_mul (show (R:Int)<=12 by omega) d6 (by omega) (by omega)
   omega
  have gM:Good rooms.length (again (ps.map (·.2)) day 0 R):=again_good gd d1 hd (by rw [zA];exact Rl) (by omega)
  refine ⟨_,rfl,_,rfl,_,rfl,b,day,R,rooms,tr,tm,ps,rfl,hb4,Rl,R12,d1,d6,λl1 fs H5 hl1 s5 L5 e5=>?_⟩
  have hb5:=hb4.same s5
  refine ⟨_,rfl,b,_,_,_,rfl,rfl,SqT.of hb5.book,rfl,tr,_,rfl,.inr (SqT.of hb5.rooms),λl2 hl2=>?_⟩
  have s6:=xK (o:=HO.lst (rooms.map V.int)) hl2
  have k2:upd H5 l2 (HO.lst (rooms.map V.int)) l2=some (.lst (rooms.map V.int)):=xI
  have L6:=L5.same s6
  have s46:=s5.trans s6
  generalize upd H5 l2 (HO.lst (rooms.map V.int))=H6 at k2 L6 s46 ⊢
  refine ⟨_,rfl,l1,_,rfl,SqL.of L6.1,λl3 hl3=>?_⟩
  have s7:=xK (o:=HO.lst (fs.map λa=>V.ref a.1).reverse) hl3
  have s47:=s46.trans s7
  have L7:ListAt (upd H6 l3 (HO.lst (fs.map λa=>V.ref a.1).reverse)) l3 fs.reverse:=⟨by rw [xI,yU],λx hx=>s7 _ _ (L6.2 x (List.mem_reverse.mp hx))⟩
  have LD:=L6.same s7
  have k2:=s7 _ _ k2
  have mt7:=L2.MT.same mt4 s47
  have hb7:=hb4.same s47
  have hS7:=s47.seq hS4
  generalize upd H6 l3 (HO.lst (fs.map λa=>V.ref a.1).reverse)=H7 at L7 LD k2 mt7 hb7 hS7 ⊢
  refine ⟨l2,l3,rooms,fs.reverse,rfl,k2,rm1,by omega,rm9,L7,by rw [yU,e5];exact raw_rev gM,mt7,λbr trr tmr qs H8 b8 mt8 hbr gr pm=>?_⟩
  have eq8:qs.map (·.2)=again (ps.map (·.2)) day 0 R:=by
   refine Good.eq gr gM (pm.trans ?_)
   rw [show (fs.reverse.map λa=>a.2.norm)=(again (ps.map (·.2)) day 0 R).reverse from by
    rw [yU,<- norm_good gM,<- e5,zn];rfl]
   exact List.reverse_perm _
  have tu:Tups H7 H8:=MT.tups' mt7 b8
  have hb8:=hb7.tups tu
  have hS8:=MT.seq mt7 b8 hS7
  have L8:ListAt H8 l1 fs:=⟨MT.keep mt7 b8 LD.1 (by intro ys z;cases z),λx hx=>tu _ _ (LD.2 x hx)⟩
  refine ⟨_,rfl,_,rfl,b,_,_,_,rfl,rfl,SqT.of hb8.book,rfl,_,rfl,l1,_,rfl,.inl ⟨SqL.of L8.1,λt1 ht1=>⟨by show 2<=_;omega,λt2 ht2=>?_⟩⟩⟩
  have s9:=xK (o:=HO.tup (fs.map λa=>V.ref a.1)) ht1
  have s10:=xK (o:=HO.tup [V.ref tr,V.ref t1]) ht2
  have s8A:=s9.trans s10
  have hbX:BookAt (upd (upd H8 t1 (HO.tup (fs.map λa=>V.ref a.1))) t2 (HO.tup [V.ref tr,V.ref t1])) t2 rooms tr t1 fs:=⟨xI,s8A _ _ hb8.rooms,s10 _ _ xI,λx hx=>s8A _ _ (L8.2 x hx)⟩
  have hrX:=hbr.same s8A
  have hbA:=hb8.same s8A
  have mtA:=L2.MT.same mt8 s8A
  have hSA:=s8A.seq hS8
  generalize upd (upd H8 t1 (HO.tup (fs.map λa=>V.ref a.1))) t2 (HO.tup [V.ref tr,V.ref t1])=HA at hbX hrX hbA mtA hSA ⊢
  refine rEqv_book hrX hbX (by rw [eq8,e5]) ⟨_,rfl,iteB0 rfl ?_⟩
  clear hbX s8A s9 s10 ht1 ht2 L8 hS8 hb8 tu LD L7 k2 mt7 hb7 hS7 s47 s46 L6 hl2 hl3 s6 s7 mt8 hbr b8 pm mt4 hS4 hb4 sA G4 s5 hb5 L5 e5 hl1 g2 g3 g4 hb hb0 pu1 s1 mt1
  have hbA':BookAt HA br rooms trr tmr qs:=hrX
  refine ⟨_,rfl,b,_,_,_,rfl,rfl,SqT.of hbA.book,rfl,tr,_,rfl,.inr (SqT.of hbA.rooms),_,rfl,by rw [zA];omega,by rw [zA];omega,?_⟩
  have lr:(rooms.map V.int).length=rooms.length:=zA ..
  refine for_range (lo:=0) (λi σ H9=>(∃ v7,σ=[some (.ref sa),some (.ref p),some (.ref b),some (.int day),some (.int (R:Int)),some (.ref l1),some (.ref br),v7,none,none,none,none,none,none])/\Same HA H9) ⟨⟨_,rfl⟩,Same.refl _⟩ ?_ ?_
  ·rintro i σ H9 hi ⟨⟨v7,rfl⟩,sm⟩
   rw [lr,zy] at hi
   rw [xF]
   have hb9:=hbA.same sm
   refine ⟨_,rfl,_,rfl,b,i,rooms,tr,tm,ps,rfl,hi,hb9,by omega,gd,λl4 f HB ff hl4 sB kB=>?_⟩
   refine ⟨_,rfl,_,rfl,br,i,rooms,trr,tmr,qs,rfl,hi,hrX.same (sm.trans sB),by omega,gr,λl5 g HC gg hl5 sC kC=>?_⟩
   have fg:f=g:=funext λj=>by
    rw [eq8] at gg
    rw [yo,ff,gg,conn_again R1]
   rw [<-fg] at kC
   exact ne_ints96 (sC _ _ kB) kC ⟨_,rfl,iteB0 rfl ⟨⟨_,rfl⟩,(sm.trans sB).trans sC⟩⟩
  rintro σ H9 ⟨⟨v7,rfl⟩,sm⟩
  have hb9:=hbA.same sm
  have hr9:=hrX.same sm
  have mt9:=L2.MT.same mtA sm
  have hS9:=sm.seq hSA
  clear hbA hrX mtA hSA sm hbA' hS mt hp1
  refine ⟨_,rfl,sa,_,rfl,.inl hS9,_,_,rfl,_,_,rfl,_,_,rfl,?_,?_⟩
  ·refine ⟨by decide,by decide,?_,?_⟩
   ·split <;> (try split) <;> omega
   ·rw [zA];split <;> (try split) <;> omega
  refine for_range (lo:=3) (λi σ HB=>(∃ v1 v7 v8 v9 v10 v11 v12 v13,σ=[some (.ref sa),v1,some (.ref b),some (.int day),some (.int (R:Int)),some (.ref l1),some (.ref br),v7,v8,v9,v10,v11,v12,v13])/\Same H9 HB) ⟨⟨_,_,_,_,_,_,_,_,rfl⟩,Same.refl _⟩ ?_ (fun σ H8 _=>q H8)
  rintro i σ HB hi ⟨⟨v1,v7,v8,v9,v10,v11,v12,v13,rfl⟩,sB⟩
  have i60:i < 900:=by
   rw [zA] at hi
   revert hi
   split <;> (try split) <;> intro h <;> omega
  refine ⟨_,rfl,_,rfl,sa,ns,3 + i,by simp,sB.seq hS9,by omega,λp2 HC hp2 pu2 sC=>?_⟩
  have hbC:=hb9.same (sB.trans sC)
  have hrC:=hr9.same (sB.trans sC)
  have BT:∀ {H':Hp},Go p2 HC H'->BookAt H' b rooms tr tm ps:=λg=>hbC.tups (g.tups pu2)
  have RT:∀ {H':Hp},Go p2 HC H'->BookAt H' br rooms trr tmr qs:=λg=>hrC.tups (g.tups pu2)
  have g0:=Go.refl pu2
  refine ⟨_,rfl,_,rfl,b,_,_,_,rfl,rfl,SqT.of hbC.book,rfl,tr,_,rfl,.inr (SqT.of hbC.rooms),p2,_,rfl,by rw [lr];omega,by rw [lr];omega,pu2,λk0 HD a0 a1 gD=>?_⟩
  rw [lr] at a1
  obtain ⟨k,rfl⟩:=zb a0
  refine ⟨_,rfl,_,rfl,b,_,_,_,rfl,rfl,SqT.of (BT gD).book,rfl,tr,_,rfl,.inr (SqT.of (BT gD).rooms),p2,_,rfl,by rw [lr];omega,by rw [lr];omega,gD.2,λw00 HE b0 b1 gE=>?_⟩
  rw [lr] at b1
  obtain ⟨w0,rfl⟩:=zb b0
  have GE:=gD.trans gE
  refine ⟨_,rfl,_,rfl,p2,_,rfl,by omega,by omega,GE.2,λtn HF c0 c1 gF=>⟨_,rfl,_,_,rfl,rfl,.inr ⟨by omega,by omega⟩,?_⟩⟩
  have GF:=GE.trans gF
  have td:0<=tn * day/\tn * day + day<=(R:Int) * day:=by
   have h1:=Int.mul_nonneg c0 (show 0<=day by omega)
   have h2:=yG (show tn + 1<=(R:Int) by omega) (show 0<=day by omega)
   rw [yx,xA] at h2
   exact ⟨h1,h2⟩
  have lp:(ps.map λa=>V.ref a.1).length=ps.length:=zA ..
  refine ⟨_,rfl,b,_,_,_,rfl,rfl,SqT.of (BT GF).book,rfl,zT _,λt0 ht0=>⟨tm,t0,_,rfl,rfl,SqT.of (xK ht0 _ _ (BT GF).meets),SqT.of xI,_,rfl,?_⟩⟩
  have GF0:=GF.new (o:=HO.tup []) ht0
  generalize upd HF t0 (HO.tup [])=HG at GF0 ⊢
  refine iteA (fun σ H'=>∃ x v12,σ=[some (.ref sa),some (.ref p2),some (.ref b),some (.int day),some (.int (R:Int)),some (.ref l1),some (.ref br),v7,some (.int (3 + (i:Int))),some (.int (k:Int)),some (.int (w0:Int)),some (.int x),v12,v13]/\Go p2 HC H'/\0<=x/\x<=(R:Int) * day) ?_ ?_ (λ_=>⟨_,_,rfl,GF0,td.1,by omega⟩)
  rotate_left
  ·intro cne kk
   have pp:1<=ps.length:=by
    cases ps with
    | nil=>cases cne
    | cons _ _=>exact Nat.succ_le_succ (zT _)
   refine ⟨_,rfl,p2,4,rfl,by decide,by decide,GF0.2,λd4 HH e0 e1 gH=>?_⟩
   have GH:=GF0.trans gH
   refine ⟨_,_,rfl,rfl,_,rfl,iteB (λ_=>?_) λ_=>kk _ _ ⟨_,_,rfl,GH,td.1,by omega⟩⟩
   refine ⟨_,rfl,_,rfl,b,_,_,_,rfl,rfl,SqT.of (BT GH).book,rfl,tm,_,rfl,.inr (SqT.of (BT GH).meets),p2,_,rfl,by rw [lp];omega,by rw [lp];omega,GH.2,λat0 HI f0 f1 gI=>?_⟩
   rw [lp] at f1
   obtain ⟨m,rfl⟩:=zb f0
   have GI:=GH.trans gI
   obtain ⟨r,hr⟩:∃ r,ps[m]?=some r:=⟨_,zU (by omega)⟩
   have hat:(ps.map λa=>V.ref a.1)[m]?=some (V.ref r.1):=by rw [zR,hr];rfl
   have rm':r.2∈ps.map (·.2):=zI.mpr ⟨r,zC hr,rfl⟩
   have rt:=(gd.each r.2 rm').2.2.2.1
   have rd:=hd r.2 rm'
   have hrow:HI r.1=some (.tup [.int r.2.lo,.int r.2.hi,.int r.2.t,.int r.2.m]):=(BT GI).rows r (zC hr)
   refine ⟨_,rfl,_,rfl,b,_,_,_,rfl,rfl,SqT.of (BT GI).book,rfl,_,rfl,tm,_,_,_,rfl,rfl,SqT.of (BT GI).meets,xr hat,r.1,_,_,_,rfl,rfl,SqT.of hrow,rfl,_,_,rfl,rfl,_,rfl,p2,2,rfl,by decide,by decide,GI.2,λd2 HJ h0 h1 gJ=>⟨_,_,rfl,rfl,kk _ _ ⟨_,_,rfl,GI.trans gJ,by omega,by omega⟩⟩⟩
  rintro _ HK ⟨x,v12',rfl,GK,x0,xR⟩
  refine ⟨_,rfl,_,rfl,_,rfl,by show 3<=_;omega,λt3 ht3=>?_⟩
  have s3:=xK (o:=HO.tup [V.int (k:Int),V.int x,V.int (w0:Int)]) ht3
  refine ⟨_,rfl,_,rfl,by show 2<=_;omega,λt2 ht2=>?_⟩
  have s2:=xK (o:=HO.tup [V.ref b,V.ref br]) ht2
  have S3:=s3.trans s2
  have sL:Same HB HK:=But.same hp2 sC GK.1
  refine ⟨_,rfl,_,rfl,_,rfl,t2,t3,day,k,w0,x,b,br,rooms,tr,tm,ps,trr,tmr,qs,R,rfl,⟨⟨xI,(BT GK).same S3,(RT GK).same S3,gd,gr,eq8,d1,d6,hd,R12,by omega⟩,x0,xR,by omega,by omega⟩,s2 _ _ xI,λHM sM=>⟨_,rfl,iteB0 rfl ⟨⟨_,_,_,_,_,_,_,_,rfl⟩,((sB.trans sL).trans S3).trans sM⟩⟩⟩
end
theorem all_mk {l:PySem.W.OpenLaw}{w:World}{K:PySem.W.Frag}{h:Heap}{mg:Str->Option Value}{fa Dc DJ Da DK Cw DL Ez DF Fh EB Fg Fi DI C8 Bn CJ DD BL DG CT IE Eu Ex Ev Bo CU CV C9 DH EA Fj Cu Cc EC Ey G7 Cv ED CK BN BM Db Jt tC tP:Addr} (X:K.In h) (G:h.Ns mainGlobals mg) (hfa:mg "law" = some (.ref fa))
  {BK B2 BI B3 AO B4 Ch BY CD Cj CC CF B1 BG Ao A1 A3 At BZ Bh Fk Cd Cf Ce Ap Bi Bj BH B0 Ci CG AM AJ Ck Cg DO AN Cl A2 Az Ay BJ GP:FuncData}{t_LAST_TIME:Tok}{t_MOST_WALKERS:Tok}{t_MOST_ROOM:Tok}{t_MOST_MEETINGS:Tok}{t_MOST_MANY:Tok}{t_LONGEST_DAY:Tok}
  (AX:zE K mainGlobals "_law_purse" = some (some (.ref Dc))) (Bg:Fun K "_law_purse" "_law_purse" C6 Dc BK)
  (A9:zE K mainGlobals "_law_take" = some (some (.ref DJ))) (BD:Fun K "_law_take" "_law_take" Dx DJ B2)
  (AV:zE K mainGlobals "_law_rooms" = some (some (.ref Da))) (Be:Fun K "_law_rooms" "_law_rooms" C5 Da BI)
  (Ba:zE K mainGlobals "_law_step" = some (some (.ref DK))) (BE:Fun K "_law_step" "_law_step" Dy DK B3)
  (Aw:zE K mainGlobals "_law_meetings" = some (some (.ref Cw))) (AF:Fun K "_law_meetings" "_law_meetings" wU Cw AO)
  (Bb:zE K mainGlobals "_law_book" = some (some (.ref DL))) (BF:Fun K "_law_book" "_law_book" Dz DL B4)
  (Bt:zE K mainGlobals "is_whole" = some (some (.ref Ez))) (BS:Fun K "is_whole" "is_whole" Ef Ez Ch)
  (A5:zE K mainGlobals "is_within" = some (some (.ref DF))) (Bz:Fun K "is_within" "is_within" Du DF BY)
  (B6:zE K mainGlobals "is_time" = some (some (.ref Fh))) (Cn:Fun K "is_time" "is_time" E8 Fh CD)
  (Bv:zE K mainGlobals "is_below" = some (some (.ref EB))) (BV:Fun K "is_below" "is_below" Eh EB Cj)
  (B5:zE K mainGlobals "is_upto" = some (some (.ref Fg))) (Cm:Fun K "is_upto" "is_upto" E7 Fg CC)
  (B7:zE K mainGlobals "is_from" = some (some (.ref Fi))) (Co:Fun K "is_from" "is_from" E9 Fi CF)
  (A8:zE K mainGlobals "are_rooms" = some (some (.ref DI))) (BC:Fun K "are_rooms" "are_rooms" CO DI B1)
  (AT:zE K mainGlobals "is_meeting" = some (some (.ref C8))) (Bc:Fun K "is_meeting" "is_meeting" C4 C8 BG)
  (Af:zE K mainGlobals "meets_twice_at_once" = some (some (.ref Bn))) (Ai:Fun K "meets_twice_at_once" "meets_twice_at_once" wH Bn Ao)
  (AB:zE K mainGlobals "lesser_first" = some (some (.ref CJ))) (AK:Fun K "lesser_first" "lesser_first" CH CJ A1)
  (A4:zE K mainGlobals "made_book" = some (some (.ref DD))) (By:Fun K "made_book" "made_book" CN DD A3)
  (Ah:zE K mainGlobals "is_meeting_number" = some (some (.ref BL))) (Am:Fun K "is_meeting_number" "is_meeting_number" wT BL At)
  (A6:zE K mainGlobals "is_walker" = some (some (.ref DG))) (BA:Fun K "is_walker" "is_walker" Dv DG BZ)
  (AG:zE K mainGlobals "meetings_of" = some (some (.ref CT))) (AY:Fun K "meetings_of" "meetings_of" Cq CT Bh)
  (DM:zE K mainGlobals "ways" = some (some (.ref IE))) (EK:Fun K "ways" "ways" Ic IE Fk)
  (Bp:zE K mainGlobals "other_at" = some (some (.ref Eu))) (BO:Fun K "other_at" "other_at" Ed Eu Cd)
  (Br:zE K mainGlobals "lone_row" = some (some (.ref Ex))) (BQ:Fun K "lone_row" "lone_row" C3 Ex Cf)
  (Bq:zE K mainGlobals "need_day" = some (some (.ref Ev))) (BP:Fun K "need_day" "need_day" C2 Ev Ce)
  (Ag:zE K mainGlobals "first_givings_again" = some (some (.ref Bo))) (Aj:Fun K "first_givings_again" "first_givings_again" wI Bo Ap)
  (AH:zE K mainGlobals "again_times" = some (some (.ref CU))) (AZ:Fun K "again_times" "again_times" CQ CU Bi)
  (AI:zE K mainGlobals "again_chain" = some (some (.ref CV))) (A0:Fun K "again_chain" "again_chain" CS CV Bj)
  (AU:zE K mainGlobals "hangs_with" = some (some (.ref C9))) (Bd:Fun K "hangs_with" "hangs_with" wb C9 BH)
  (A7:zE K mainGlobals "is_letter" = some (some (.ref DH))) (BB:Fun K "is_letter" "is_letter" Dw DH B0)
  (Bu:zE K mainGlobals "is_chain" = some (some (.ref EA))) (BU:Fun K "is_chain" "is_chain" Eg EA Ci)
  (B8:zE K mainGlobals "arrival" = some (some (.ref Fj))) (Cp:Fun K "arrival" "arrival" Fa Fj CG)
  (Au:zE K mainGlobals "first_givings" = some (some (.ref Cu))) (AD:Fun K "first_givings" "first_givings" Cs Cu AM)
  (As:zE K mainGlobals "earliest_times" = some (some (.ref Cc))) (AA:Fun K "earliest_times" "earliest_times" Cb Cc AJ)
  (Bw:zE K mainGlobals "earliest" = some (some (.ref EC))) (BW:Fun K "earliest" "earliest" Ei EC Ck)
  (Bs:zE K mainGlobals "leavings" = some (some (.ref Ey))) (BR:Fun K "leavings" "leavings" Ee Ey Cg)
  (CP:zE K mainGlobals "waits" = some (some (.ref G7))) (Dd:Fun K "waits" "waits" EU G7 DO)
  (Av:zE K mainGlobals "_law_squeezed" = some (some (.ref Cv))) (AE:Fun K "_law_squeezed" "_law_squeezed" Ct Cv AN)
  (Bx:zE K mainGlobals "_law_day" = some (some (.ref ED))) (BX:Fun K "_law_day" "_law_day" Ej ED Cl)
  (AC:zE K mainGlobals "_law_written" = some (some (.ref CK))) (AL:Fun K "_law_written" "_law_written" CI CK A2)
  (Al:zE K mainGlobals "_law_times_alike" = some (some (.ref BN))) (Ar:Fun K "_law_times_alike" "_law_times_alike" wY BN Az)
  (Ak:zE K mainGlobals "_law_waits_right" = some (some (.ref BM))) (Aq:Fun K "_law_waits_right" "_law_waits_right" wB BM Ay)
  (AW:zE K mainGlobals "_law_right" = some (some (.ref Db))) (Bf:Fun K "_law_right" "_law_right" CB Db BJ)
  (E4:zE K mainGlobals "law" = some (some (.ref Jt))) (FH:Fun K "law" "law" Jm Jt GP)
  (z_all:zE K mainGlobals "all" = some none)
  (z_any:zE K mainGlobals "any" = some none)
  (z_bool:zE K mainGlobals "bool" = some none)
  (z_enumerate:zE K mainGlobals "enumerate" = some none)
  (z_int:zE K mainGlobals "int" = some none)
  (z_isinstance:zE K mainGlobals "isinstance" = some none)
  (z_len:zE K mainGlobals "len" = some none)
  (z_list:zE K mainGlobals "list" = some none)
  (z_max:zE K mainGlobals "max" = some none)
  (z_min:zE K mainGlobals "min" = some none)
  (z_range:zE K mainGlobals "range" = some none)
  (z_set:zE K mainGlobals "set" = some none)
  (z_sorted:zE K mainGlobals "sorted" = some none)
  (z_tuple:zE K mainGlobals "tuple" = some none)
  (z_zip:zE K mainGlobals "zip" = some none)
  (g_LAST_TIME:zE K mainGlobals "LAST_TIME" = some (some (.int 1000000000 t_LAST_TIME)))
  (g_MOST_WALKERS:zE K mainGlobals "MOST_WALKERS" = some (some (.int 12 t_MOST_WALKERS)))
  (g_MOST_ROOM:zE K mainGlobals "MOST_ROOM" = some (some (.int 99 t_MOST_ROOM)))
  (g_MOST_MEETINGS:zE K mainGlobals "MOST_MEETINGS" = some (some (.int 60 t_MOST_MEETINGS)))
  (g_MOST_MANY:zE K mainGlobals "MOST_MANY" = some (some (.int 99 t_MOST_MANY)))
  (g_LONGEST_DAY:zE K mainGlobals "LONGEST_DAY" = some (some (.int 1000000 t_LONGEST_DAY)))
  (h_cd:A3.code=.ref tC) (h_hd:PySem.W.codeHdIn K tC tP=true) :
  ∃ fd:FuncData,(∃ c,PySem.W.codeHdIn K c tP=true)/\(∀ (s:Shared) (v:Value),BindsTo s fd ⟨[v],[]⟩ [("_law_script", v)])/\∀ base:Heap,K.In base->base.Ns mainGlobals mg->BmAt mg base->FnOk l.prog w K mg base CX0 8 fa fd ["_law_script"] (spLawT K tP lamPos):=by
 have e:=hfa.symm.trans (zK X G E4)
 cases e
 have Hc:=Bg.binds (ps:=["_law_script", "_law_k"]) λ_ _ _ _ _ _ us hl=>us2 hl λ_ _=>rfl
 have HU:=BD.binds (ps:=["_law_purse_here", "_law_many"]) λ_ _ _ _ _ _ us hl=>us2 hl λ_ _=>rfl
 have Ha:=Be.binds (ps:=["_law_purse_here", "_law_walkers"]) λ_ _ _ _ _ _ us hl=>us2 hl λ_ _=>rfl
 have HV:=BE.binds (ps:=["_law_purse_here"]) λ_ _ _ _ _ _ us hl=>us1 hl λ_=>rfl
 have FS:=AF.binds (ps:=["_law_purse_here", "_law_walkers", "_law_most"]) λ_ _ _ _ _ _ us hl=>us3 hl λ_ _ _=>rfl
 have HW:=BF.binds (ps:=["_law_purse_here", "_law_most_walkers", "_law_most_meetings"]) λ_ _ _ _ _ _ us hl=>us3 hl λ_ _ _=>rfl
 have IJ:=BS.binds (ps:=["thing"]) λ_ _ _ _ _ _ us hl=>us1 hl λ_=>rfl
 have HP:=Bz.binds (ps:=["thing", "least", "most"]) λ_ _ _ _ _ _ us hl=>us3 hl λ_ _ _=>rfl
 have Jf:=Cn.binds (ps:=["thing"]) λ_ _ _ _ _ _ us hl=>us1 hl λ_=>rfl
 have IL:=BV.binds (ps:=["number", "bound"]) λ_ _ _ _ _ _ us hl=>us2 hl λ_ _=>rfl
 have Je:=Cm.binds (ps:=["number", "bound"]) λ_ _ _ _ _ _ us hl=>us2 hl λ_ _=>rfl
 have Jg:=Co.binds (ps:=["number", "bound"]) λ_ _ _ _ _ _ us hl=>us2 hl λ_ _=>rfl
 have HS:=BC.binds (ps:=["thing"]) λ_ _ _ _ _ _ us hl=>us1 hl λ_=>rfl
 have G8:=Bc.binds (ps:=["walkers", "thing"]) λ_ _ _ _ _ _ us hl=>us2 hl λ_ _=>rfl
 have Do:=Ai.binds (ps:=["meetings"]) λ_ _ _ _ _ _ us hl=>us1 hl λ_=>rfl
 have Gi:=AK.binds (ps:=["meeting"]) λ_ _ _ _ _ _ us hl=>us1 hl λ_=>rfl
 have HN:=By.binds (ps:=["rooms", "meetings"]) λ_ _ _ _ _ _ us hl=>us2 hl λ_ _=>rfl
 have DU:=Am.binds (ps:=["book", "thing"]) λ_ _ _ _ _ _ us hl=>us2 hl λ_ _=>rfl
 have HQ:=BA.binds (ps:=["book", "thing"]) λ_ _ _ _ _ _ us hl=>us2 hl λ_ _=>rfl
 have GC:=AY.binds (ps:=["book", "walker"]) λ_ _ _ _ _ _ us hl=>us2 hl λ_ _=>rfl
 have Jv:=EK.binds (ps:=["book"]) λ_ _ _ _ _ _ us hl=>us1 hl λ_=>rfl
 have IF:=BO.binds (ps:=["book", "number", "walker"]) λ_ _ _ _ _ _ us hl=>us3 hl λ_ _ _=>rfl
 have IH:=BQ.binds (ps:=["book", "walker", "number"]) λ_ _ _ _ _ _ us hl=>us3 hl λ_ _ _=>rfl
 have IG:=BP.binds (ps:=["book", "day"]) λ_ _ _ _ _ _ us hl=>us2 hl λ_ _=>rfl
 have Dp:=Aj.binds (ps:=["book", "day", "sender", "since"]) λ_ _ _ _ _ _ us hl=>us4 hl λ_ _ _ _=>rfl
 have GD:=AZ.binds (ps:=["book", "day", "sender", "since"]) λ_ _ _ _ _ _ us hl=>us4 hl λ_ _ _ _=>rfl
 have GG:=A0.binds (ps:=["book", "day", "sender", "since", "wish"]) λ_ _ _ _ _ _ us hl=>us5 hl λ_ _ _ _ _=>rfl
 have G9:=Bd.binds (ps:=["book", "walker"]) λ_ _ _ _ _ _ us hl=>us2 hl λ_ _=>rfl
 have HR:=BB.binds (ps:=["book", "thing"]) λ_ _ _ _ _ _ us hl=>us2 hl λ_ _=>rfl
 have IK:=BU.binds (ps:=["book", "letter", "thing"]) λ_ _ _ _ _ _ us hl=>us3 hl λ_ _ _=>rfl
 have Jh:=Cp.binds (ps:=["book", "letter", "chain"]) λ_ _ _ _ _ _ us hl=>us3 hl λ_ _ _=>rfl
 have FQ:=AD.binds (ps:=["book", "sender", "since"]) λ_ _ _ _ _ _ us hl=>us3 hl λ_ _ _=>rfl
 have Fl:=AA.binds (ps:=["book", "sender", "since"]) λ_ _ _ _ _ _ us hl=>us3 hl λ_ _ _=>rfl
 have IM:=BW.binds (ps:=["book", "letter"]) λ_ _ _ _ _ _ us hl=>us2 hl λ_ _=>rfl
 have II:=BR.binds (ps:=["book", "wish", "last"]) λ_ _ _ _ _ _ us hl=>us3 hl λ_ _ _=>rfl
 have Jr:=Dd.binds (ps:=["book", "day", "walker", "other"]) λ_ _ _ _ _ _ us hl=>us4 hl λ_ _ _ _=>rfl
 have FR:=AE.binds (ps:=["_law_purse_here", "_law_book_here"]) λ_ _ _ _ _ _ us hl=>us2 hl λ_ _=>rfl
 have IN:=BX.binds (ps:=["_law_purse_here", "_law_book_here"]) λ_ _ _ _ _ _ us hl=>us2 hl λ_ _=>rfl
 have Gj:=AL.binds (ps:=["_law_book_here", "_law_day_here", "_law_rounds"]) λ_ _ _ _ _ _ us hl=>us3 hl λ_ _ _=>rfl
 have EF:=Ar.binds (ps:=["_law_again", "_law_once", "_law_end"]) λ_ _ _ _ _ _ us hl=>us3 hl λ_ _ _=>rfl
 have EE:=Aq.binds (ps:=["_law_two_books", "_law_day_here", "_law_asked", "_law_when"]) λ_ _ _ _ _ _ us hl=>us4 hl λ_ _ _ _=>rfl
 have Hb:=Bf.binds (ps:=["_law_two_books", "_law_day_here", "_law_rounds", "_law_asked"]) λ_ _ _ _ _ _ us hl=>us4 hl λ_ _ _ _=>rfl
 have Jw:=FH.binds (ps:=["_law_script"]) λ_ _ _ _ _ _ us hl=>us1 hl λ_=>rfl
 have T:Tx K mg ⟨Dc,BK,DJ,B2,Da,BI,DK,B3,Cw,AO,DL,B4,Ez,Ch,DF,BY,Fh,CD,EB,Cj,Fg,CC,Fi,CF,DI,B1,C8,BG,Bn,Ao,CJ,A1,DD,A3,BL,At,DG,BZ,CT,Bh,IE,Fk,Eu,Cd,Ex,Cf,Ev,Ce,Bo,Ap,CU,Bi,CV,Bj,C9,BH,DH,B0,EA,Ci,Fj,CG,Cu,AM,Cc,AJ,EC,Ck,Ey,Cg,G7,DO,Cv,AN,ED,Cl,CK,A2,BN,Az,BM,Ay,Db,BJ,fa,GP,tC,tP⟩ t_LAST_TIME t_MOST_WALKERS t_MOST_ROOM t_MOST_MEETINGS t_MOST_MANY t_LONGEST_DAY:=⟨Bg,Hc,zK X G AX,Bg.kp,BD,HU,zK X G A9,BD.kp,Be,Ha,zK X G AV,Be.kp,BE,HV,zK X G Ba,BE.kp,AF,FS,zK X G Aw,AF.kp,BF,HW,zK X G Bb,BF.kp,BS,IJ,zK X G Bt,BS.kp,Bz,HP,zK X G A5,Bz.kp,Cn,Jf,zK X G B6,Cn.kp,BV,IL,zK X G Bv,BV.kp,Cm,Je,zK X G B5,Cm.kp,Co,Jg,zK X G B7,Co.kp,BC,HS,zK X G A8,BC.kp,Bc,G8,zK X G AT,Bc.kp,Ai,Do,zK X G Af,Ai.kp,AK,Gi,zK X G AB,AK.kp,By,HN,zK X G A4,By.kp,Am,DU,zK X G Ah,Am.kp,BA,HQ,zK X G A6,BA.kp,AY,GC,zK X G AG,AY.kp,EK,Jv,zK X G DM,EK.kp,BO,IF,zK X G Bp,BO.kp,BQ,IH,zK X G Br,BQ.kp,BP,IG,zK X G Bq,BP.kp,Aj,Dp,zK X G Ag,Aj.kp,AZ,GD,zK X G AH,AZ.kp,A0,GG,zK X G AI,A0.kp,Bd,G9,zK X G AU,Bd.kp,BB,HR,zK X G A7,BB.kp,BU,IK,zK X G Bu,BU.kp,Cp,Jh,zK X G B8,Cp.kp,AD,FQ,zK X G Au,AD.kp,AA,Fl,zK X G As,AA.kp,BW,IM,zK X G Bw,BW.kp,BR,II,zK X G Bs,BR.kp,Dd,Jr,zK X G CP,Dd.kp,AE,FR,zK X G Av,AE.kp,BX,IN,zK X G Bx,BX.kp,AL,Gj,zK X G AC,AL.kp,Ar,EF,zK X G Al,Ar.kp,Aq,EE,zK X G Ak,Aq.kp,Bf,Hb,zK X G AW,Bf.kp,FH,Jw,zK X G E4,FH.kp,zc X G z_all,zc X G z_any,zc X G z_bool,zc X G z_enumerate,zc X G z_int,zc X G z_isinstance,zc X G z_len,zc X G z_list,zc X G z_max,zc X G z_min,zc X G z_range,zc X G z_set,zc X G z_sorted,zc X G z_tuple,zc X G z_zip,h_hd,h_cd,zK X G g_LAST_TIME,zK X G g_MOST_WALKERS,zK X G g_MOST_ROOM,zK X G g_MOST_MEETINGS,zK X G g_MOST_MANY,zK X G g_LONGEST_DAY⟩
 obtain ⟨_,_,_,_,_,_,_,_,_,rfl,_,_⟩:=FH.ex
 exact ⟨_,⟨tC,h_hd⟩,λs v=>.of_eq rfl,λbase _ _ B=>Ju T B⟩
theorem walk {l:PySem.W.OpenLaw}{q:Program}{loose:List Str}{XP:(Str->Option Value)->Heap->Prop}{YP:World->Heap->Prop}{d:DefRec}{K:Params->PySem.W.Frag}{T:Addr} (hn:l.most=some 63) (hdf:d.params.defaults=[])
  (hY:∀ (w:World) (h:Heap),YP w h->(K w.params).In h/\h.get? T=some (PySem.W.tabObj #[])) (nt:∀ w:World,PySem.W.noTabs (K w.params)=true)
  (F:∀ (w:World) (mg:Str->Option Value) (fa:Addr) (h:Heap),(K w.params).In h->h.Ns mainGlobals mg->mg d.name=some (.ref fa) ->
   ∃ fd:FuncData,(∃ c,PySem.W.codeHdIn (K w.params) c T=true)/\(∀ (s:Shared) (u:Value),BindsTo s fd ⟨[u],[]⟩ [("_law_script", u)])/\∀ base:Heap,(K w.params).In base->base.Ns mainGlobals mg->BmAt mg base->FnOk l.prog w (K w.params) mg base CX0 8 fa fd ["_law_script"] (spLawT (K w.params) T lamPos)) :
  PySem.W.WalkO q loose XP YP l.row.toRowW d [] (λf vs=>PySem.call f vs):=
 L2.walk_ofT (n:=63) (k:=8) (x := "_law_script") (CX:=λ_=>CX0) (sp:=λw=>spLawT (K w.params) T lamPos) hn (by decide) hdf ⟨rfl,by decide,by decide,rfl⟩ hY nt F (λ_ _ a ns hl hT hS=>⟨a,ns,rfl,hS,hl,.inl hT,λ_=>rfl⟩) λ_ _ _ _ _ z=>z
end Sm
namespace PySem.W.Fast
def tw14096248013939569648:Nat:=0
def tw2041315729029860337:Nat:=0
def tw9592674512196375052:Nat:=0
def tw7436054382429534047:Nat:=0
def tw4379448740203858982:Nat:=0
def tw13396852464361131424:Nat:=0
def tw15998215032516635378:Nat:=0
def tw1222132167933628019:Nat:=0
def tw13005611081616401884:Nat:=0
def tw16539069763975002786:Nat:=0
def tw7480307733135936637:Nat:=0
def tw16393049402064767671:Nat:=0
def tw1673696096763107799:Nat:=0
def tw1989586103891056619:Nat:=0
def tw4723192486070081867:Nat:=0
def tw12497377470838203719:Nat:=0
def tw2915042676153987216:Nat:=0
def tw13469477939597314714:Nat:=0
def tw12559348578675648424:Nat:=0
def tw10131815012219287184:Nat:=0
def tw13700183997397406152:Nat:=0
def tw592450179828608061:Nat:=0
def tw8184256828658864846:Nat:=0
def tw8782273297565373513:Nat:=0
def tw15818873766393663751:Nat:=0
def tw11005427674637268308:Nat:=0
def tw6071710029149394027:Nat:=0
def tw16503168883250796295:Nat:=0
def tw3044451560228884773:Nat:=0
def tw10315229662787460118:Nat:=0
def tw9144882070805149185:Nat:=0
def tw14719187180895895046:Nat:=0
def tw535657349987962613:Nat:=0
def tw16061526488477765630:Nat:=0
def tw5215721677636246510:Nat:=0
def tw17758284548353783597:Nat:=0
def tw11733203871368242030:Nat:=0
def tw4133287737061807810:Nat:=0
def tw11222780943049984084:Nat:=0
def tw13823332870910919021:Nat:=0
def tw7084613280100689459:Nat:=0
def tw5257345446684855682:Nat:=0
def tw17051173381333789085:Nat:=0
def tw12463924624379206975:Nat:=0
def tw5847177334490845657:Nat:=0
def tw13154187402715491901:Nat:=0
def tw16252027570400677569:Nat:=0
def tw14963325587976701250:Nat:=0
def tw17298400703410238967:Nat:=0
def tw6448533590621586122:Nat:=0
def tw6284538863002356751:Nat:=0
def tw14555335450569105533:Nat:=0
def tw13493427910034062741:Nat:=0
def tw7826884265503186120:Nat:=0
def tw3711732699518834041:Nat:=0
def tw14332392719580874321:Nat:=0
def tw13886753575963783804:Nat:=0
def tw5866809778171122860:Nat:=0
def tw7203555774741536821:Nat:=0
def tw2102845716368187086:Nat:=0
def tw13326357893990960903:Nat:=0
def tw10858562079656479777:Nat:=0
def tw15578043078046519757:Nat:=0
def tw3453033321919832920:Nat:=0
def tw11869320287415546788:Nat:=0
def tw7082736465626719781:Nat:=0
def tw2641080907190166301:Nat:=0
def tw5177979272875831994:Nat:=0
def tw11013901454353320796:Nat:=0
def tw5434267757344820803:Nat:=0
def tw7122447907580474666:Nat:=0
def tw1690939959546807472:Nat:=0
def tw9916326392438277471:Nat:=0
def tw6177715162519275019:Nat:=0
def tw8421560289296410430:Nat:=0
def tw1414820715677815373:Nat:=0
def tw699638987648944900:Nat:=0
def tw16818267958484861260:Nat:=0
def tw17689514797907395528:Nat:=0
def tw482188450311228807:Nat:=0
def tw5085108269903744507:Nat:=0
def tw6615286141142249228:Nat:=0
def tw10566807364634309089:Nat:=0
def tw9297177895156375973:Nat:=0
def tw3414106928437384459:Nat:=0
def tw3085327487760657346:Nat:=0
def tw2070117182160036956:Nat:=0
def tw6672695573434484841:Nat:=0
def tw5372092592825045004:Nat:=0
def tw1019253014463964013:Nat:=0
def tw1113780391012319196:Nat:=0
def tw10779846813712165692:Nat:=0
def tw15185597903577221710:Nat:=0
def tw1088337772363287771:Nat:=0
def tw17003217582620444102:Nat:=0
def tw10236298188747671333:Nat:=0
def tw4274675637635632933:Nat:=0
def tw151395158983950412:Nat:=0
def tw11954683908530860712:Nat:=0
def tw14918759610295944323:Nat:=0
def tw937504848079810888:Nat:=0
def tw7214556424921524836:Nat:=0
def tw16412730594255538945:Nat:=0
def tw11100094973754822402:Nat:=0
def tw10688799070302425890:Nat:=0
def tw900441381285504701:Nat:=0
def tw590406349576901026:Nat:=0
def tw4953211714322826968:Nat:=0
def tw5941146569958756195:Nat:=0
def tw12444606911619403742:Nat:=0
def tw17562112757323918133:Nat:=0
def tw5848730072890941866:Nat:=0
def tw907768845883557850:Nat:=0
def tw14063672099922135321:Nat:=0
def tw11690642749628746876:Nat:=0
def tw2744438448914632583:Nat:=0
def tw13926099514419927484:Nat:=0
def tw15336371218333448304:Nat:=0
def tw12727474057977786946:Nat:=0
def tw6664695295009436297:Nat:=0
def tw14390611897373937240:Nat:=0
def tw6079821533795146786:Nat:=0
def tw16237575524738932102:Nat:=0
def tw17056266916402518140:Nat:=0
def tw13788720817178992586:Nat:=0
def tw6678248320333683091:Nat:=0
def tw4152334800538201117:Nat:=0
def tw4342473980936428881:Nat:=0
def tw626015094510491246:Nat:=0
def tw14238045178410774319:Nat:=0
def tw14177992553105993121:Nat:=0
def tw9418538246547605157:Nat:=0
def tw3910202713238681959:Nat:=0
def tw12060797588632887904:Nat:=0
def tw631328309634710229:Nat:=0
def tw6784349073486153460:Nat:=0
def tw10704578586804967956:Nat:=0
def tw7660524261587427138:Nat:=0
def tw10619054285466194674:Nat:=0
def tw1302473959585436593:Nat:=0
def tw13828976286187744373:Nat:=0
def tw13968368366586227628:Nat:=0
def tw3761208818802783648:Nat:=0
def tw2013748963203785979:Nat:=0
def tw1850664248524711255:Nat:=0
def tw10521600445700128531:Nat:=0
def tw13599655007430875829:Nat:=0
def tw3700009300671550640:Nat:=0
def tw2257533717136888584:Nat:=0
def tw11028352001744904316:Nat:=0
def tw8143188579652263899:Nat:=0
def tw11771623633614041674:Nat:=0
def tw5142231313660086617:Nat:=0
def tw1827416834377287057:Nat:=0
def tw12834371860973472223:Nat:=0
def tw6334248662199296187:Nat:=0
def tw10221510284120646994:Nat:=0
def tw13123787023555194228:Nat:=0
def tw4947028145973188340:Nat:=0
def tw3239690064673782602:Nat:=0
def tw17201409205689269149:Nat:=0
def tw15433045399383542577:Nat:=0
def tw835218695558608346:Nat:=0
end PySem.W.Fast
open PySem PySem.W PyProof.Rows
set_option maxRecDepth 100000 in
set_option maxHeartbeats 0 in
theorem PySem.Challenge.cw_satchelmeet_k96_whole_days_written_out_holds : PySem.Challenge.rw_satchelmeet_k96_whole_days_written_out.Holds := by
 w_on;o_law;k_head;(case hw=>w_witness2)
 k_fill
 refine Sm.walk (l:=PySem.Challenge.rw_satchelmeet_k96_whole_days_written_out) rfl rfl (λw h Y=>⟨PySem.W.km_in_of Y,PySem.W.km_tabs_of Y _ (List.Mem.head _)⟩) (λw=>by kernel_rfl) ?F
 case F=>
  intro w mg fa h KX G hmg
  refine' Sm.all_mk KX G hmg ?AX ?Bg ?A9 ?BD ?AV ?Be ?Ba ?BE ?Aw ?AF ?Bb ?BF ?Bt ?BS ?A5 ?Bz ?B6 ?Cn ?Bv ?BV ?B5 ?Cm ?B7 ?Co ?A8 ?BC ?AT ?Bc ?Af ?Ai ?AB ?AK ?A4 ?By ?Ah ?Am ?A6 ?BA ?AG ?AY ?DM ?EK ?Bp ?BO ?Br ?BQ ?Bq ?BP ?Ag ?Aj ?AH ?AZ ?AI ?A0 ?AU ?Bd ?A7 ?BB ?Bu ?BU ?B8 ?Cp ?Au ?AD ?As ?AA ?Bw ?BW ?Bs ?BR ?CP ?Dd ?Av ?AE ?Bx ?BX ?AC ?AL ?Al ?Ar ?Ak ?Aq ?AW ?Bf ?E4 ?FH ?z_all ?z_any ?z_bool ?z_enumerate ?z_int ?z_isinstance ?z_len ?z_list ?z_max ?z_min ?z_range ?z_set ?z_sorted ?z_tuple ?z_zip ?g_LAST_TIME ?g_MOST_WALKERS ?g_MOST_ROOM ?g_MOST_MEETINGS ?g_MOST_MANY ?g_LONGEST_DAY ?h_cd ?h_hd
  (case AX=>k_is)
  (case Bg=>refine' L2.fun_mk ?x1 ?y1 ?z1;(case x1=>k_is);(case y1=>k_is);(case z1=>k_is))
  (case A9=>k_is)
  (case BD=>refine' L2.fun_mk ?x3 ?y3 ?z3;(case x3=>k_is);(case y3=>k_is);(case z3=>k_is))
  (case AV=>k_is)
  (case Be=>refine' L2.fun_mk ?x5 ?y5 ?z5;(case x5=>k_is);(case y5=>k_is);(case z5=>k_is))
  (case Ba=>k_is)
  (case BE=>refine' L2.fun_mk ?x7 ?y7 ?z7;(case x7=>k_is);(case y7=>k_is);(case z7=>k_is))
  (case Aw=>k_is)
  (case AF=>refine' L2.fun_mk ?x9 ?y9 ?z9;(case x9=>k_is);(case y9=>k_is);(case z9=>k_is))
  (case Bb=>k_is)
  (case BF=>refine' L2.fun_mk ?x11 ?y11 ?z11;(case x11=>k_is);(case y11=>k_is);(case z11=>k_is))
  (case Bt=>k_is)
  (case BS=>refine' L2.fun_mk ?x13 ?y13 ?z13;(case x13=>k_is);(case y13=>k_is);(case z13=>k_is))
  (case A5=>k_is)
  (case Bz=>refine' L2.fun_mk ?x15 ?y15 ?z15;(case x15=>k_is);(case y15=>k_is);(case z15=>k_is))
  (case B6=>k_is)
  (case Cn=>refine' L2.fun_mk ?x17 ?y17 ?z17;(case x17=>k_is);(case y17=>k_is);(case z17=>k_is))
  (case Bv=>k_is)
  (case BV=>refine' L2.fun_mk ?x19 ?y19 ?z19;(case x19=>k_is);(case y19=>k_is);(case z19=>k_is))
  (case B5=>k_is)
  (case Cm=>refine' L2.fun_mk ?x21 ?y21 ?z21;(case x21=>k_is);(case y21=>k_is);(case z21=>k_is))
  (case B7=>k_is)
  (case Co=>refine' L2.fun_mk ?x23 ?y23 ?z23;(case x23=>k_is);(case y23=>k_is);(case z23=>k_is))
  (case A8=>k_is)
  (case BC=>refine' L2.fun_mk ?x25 ?y25 ?z25;(case x25=>k_is);(case y25=>k_is);(case z25=>k_is))
  (case AT=>k_is)
  (case Bc=>refine' L2.fun_mk ?x27 ?y27 ?z27;(case x27=>k_is);(case y27=>k_is);(case z27=>k_is))
  (case Af=>k_is)
  (case Ai=>refine' L2.fun_mk ?x29 ?y29 ?z29;(case x29=>k_is);(case y29=>k_is);(case z29=>k_is))
  (case AB=>k_is)
  (case AK=>refine' L2.fun_mk ?x31 ?y31 ?z31;(case x31=>k_is);(case y31=>k_is);(case z31=>k_is))
  (case A4=>k_is)
  (case By=>refine' L2.fun_mk ?x33 ?y33 ?z33;(case x33=>k_is);(case y33=>k_is);(case z33=>k_is))
  (case Ah=>k_is)
  (case Am=>refine' L2.fun_mk ?x35 ?y35 ?z35;(case x35=>k_is);(case y35=>k_is);(case z35=>k_is))
  (case A6=>k_is)
  (case BA=>refine' L2.fun_mk ?x37 ?y37 ?z37;(case x37=>k_is);(case y37=>k_is);(case z37=>k_is))
  (case AG=>k_is)
  (case AY=>refine' L2.fun_mk ?x39 ?y39 ?z39;(case x39=>k_is);(case y39=>k_is);(case z39=>k_is))
  (case DM=>k_is)
  (case EK=>refine' L2.fun_mk ?x41 ?y41 ?z41;(case x41=>k_is);(case y41=>k_is);(case z41=>k_is))
  (case Bp=>k_is)
  (case BO=>refine' L2.fun_mk ?x43 ?y43 ?z43;(case x43=>k_is);(case y43=>k_is);(case z43=>k_is))
  (case Br=>k_is)
  (case BQ=>refine' L2.fun_mk ?x45 ?y45 ?z45;(case x45=>k_is);(case y45=>k_is);(case z45=>k_is))
  (case Bq=>k_is)
  (case BP=>refine' L2.fun_mk ?x47 ?y47 ?z47;(case x47=>k_is);(case y47=>k_is);(case z47=>k_is))
  (case Ag=>k_is)
  (case Aj=>refine' L2.fun_mk ?x49 ?y49 ?z49;(case x49=>k_is);(case y49=>k_is);(case z49=>k_is))
  (case AH=>k_is)
  (case AZ=>refine' L2.fun_mk ?x51 ?y51 ?z51;(case x51=>k_is);(case y51=>k_is);(case z51=>k_is))
  (case AI=>k_is)
  (case A0=>refine' L2.fun_mk ?x53 ?y53 ?z53;(case x53=>k_is);(case y53=>k_is);(case z53=>k_is))
  (case AU=>k_is)
  (case Bd=>refine' L2.fun_mk ?x55 ?y55 ?z55;(case x55=>k_is);(case y55=>k_is);(case z55=>k_is))
  (case A7=>k_is)
  (case BB=>refine' L2.fun_mk ?x57 ?y57 ?z57;(case x57=>k_is);(case y57=>k_is);(case z57=>k_is))
  (case Bu=>k_is)
  (case BU=>refine' L2.fun_mk ?x59 ?y59 ?z59;(case x59=>k_is);(case y59=>k_is);(case z59=>k_is))
  (case B8=>k_is)
  (case Cp=>refine' L2.fun_mk ?x61 ?y61 ?z61;(case x61=>k_is);(case y61=>k_is);(case z61=>k_is))
  (case Au=>k_is)
  (case AD=>refine' L2.fun_mk ?x63 ?y63 ?z63;(case x63=>k_is);(case y63=>k_is);(case z63=>k_is))
  (case As=>k_is)
  (case AA=>refine' L2.fun_mk ?x65 ?y65 ?z65;(case x65=>k_is);(case y65=>k_is);(case z65=>k_is))
  (case Bw=>k_is)
  (case BW=>refine' L2.fun_mk ?x67 ?y67 ?z67;(case x67=>k_is);(case y67=>k_is);(case z67=>k_is))
  (case Bs=>k_is)
  (case BR=>refine' L2.fun_mk ?x69 ?y69 ?z69;(case x69=>k_is);(case y69=>k_is);(case z69=>k_is))
  (case CP=>k_is)
  (case Dd=>refine' L2.fun_mk ?x71 ?y71 ?z71;(case x71=>k_is);(case y71=>k_is);(case z71=>k_is))
  (case Av=>k_is)
  (case AE=>refine' L2.fun_mk ?x73 ?y73 ?z73;(case x73=>k_is);(case y73=>k_is);(case z73=>k_is))
  (case Bx=>k_is)
  (case BX=>refine' L2.fun_mk ?x75 ?y75 ?z75;(case x75=>k_is);(case y75=>k_is);(case z75=>k_is))
  (case AC=>k_is)
  (case AL=>refine' L2.fun_mk ?x77 ?y77 ?z77;(case x77=>k_is);(case y77=>k_is);(case z77=>k_is))
  (case Al=>k_is)
  (case Ar=>refine' L2.fun_mk ?x79 ?y79 ?z79;(case x79=>k_is);(case y79=>k_is);(case z79=>k_is))
  (case Ak=>k_is)
  (case Aq=>refine' L2.fun_mk ?x81 ?y81 ?z81;(case x81=>k_is);(case y81=>k_is);(case z81=>k_is))
  (case AW=>k_is)
  (case Bf=>refine' L2.fun_mk ?x83 ?y83 ?z83;(case x83=>k_is);(case y83=>k_is);(case z83=>k_is))
  (case E4=>k_is)
  (case FH=>refine' L2.fun_mk ?x85 ?y85 ?z85;(case x85=>k_is);(case y85=>k_is);(case z85=>k_is))
  (case z_all=>k_is)
  (case z_any=>k_is)
  (case z_bool=>k_is)
  (case z_enumerate=>k_is)
  (case z_int=>k_is)
  (case z_isinstance=>k_is)
  (case z_len=>k_is)
  (case z_list=>k_is)
  (case z_max=>k_is)
  (case z_min=>k_is)
  (case z_range=>k_is)
  (case z_set=>k_is)
  (case z_sorted=>k_is)
  (case z_tuple=>k_is)
  (case z_zip=>k_is)
  (case g_LAST_TIME=>k_is)
  (case g_MOST_WALKERS=>k_is)
  (case g_MOST_ROOM=>k_is)
  (case g_MOST_MEETINGS=>k_is)
  (case g_MOST_MANY=>k_is)
  (case g_LONGEST_DAY=>k_is)
  (case h_cd=>rfl)
  (case h_hd=>kernel_rfl)

