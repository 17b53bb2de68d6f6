import PyProof.Rows.All
import Wide.All
import OpenK.AllK
import Wide.FinOn
import Lean
import PyProof.EqAt
import PyProof.EqKinds
import PyProof.TupleCall
import KE.KDictOf
import PyProof.AttrMissHeap
import PyProof.SetRoads
import PyProof.SetNew
import PyProof.TupleKey
import PyProof.InstEq
import PySem.SetOps
import PyProof.Rows.SetFrom
import KE.KTryMore
import PyProof.NsDelKeeps
import KE.KIsAll
import KE.KItemsList
import KE.KSortTup
import KE.KDictSum
import KE.KLam
import KE.KNestM
import KE.KSortTup
import PySem.Challenge.RW_satchelmeet_k36_plans_that_go
open List renaming length_map → zA,map_append → zB,mem_cons → zC,mem_of_getElem? → zD,mem_singleton → zE,getElem?_map → zG,getElem?_eq_getElem → zH,not_mem_nil → zI,mem_append_right → zJ,getElem?_eq_some_iff → zK,size_toArray → zO,getD_eq_getElem?_getD → zP,length_take → zR,mem_map → zS,length_append → zT,mem_append → zV,mem_cons_of_mem → zW,length_replicate → zX,take_length → zY,map_map → zd,mem_cons_self → zf,getElem_mem → zj,length_cons → zn,getElem?_append_right → zo,length_set → zq,lookup_cons → zt,sum_append → zu,mem_range → zv,mem_replicate → zy,map_cons → zz,getElem?_replicate → z4,getElem?_append_left → yB,replicate_succ → yC,append_nil → yF,mem_append_left → yI,map_set → yL,length_nil → yN,mem_or_eq_of_mem_set → yO,getElem?_eq_none → yP,all_eq_true → yS,sum_cons → yV,cons_append → yW,mem_filterMap → yX,length_singleton → yZ,flatten_cons → yc,replicate_succ' → ye,filterMap_cons → yf,map_congr_left → yg,getElem_of_mem → yh,length_drop → yi,nodup_cons → yn,range_succ → yo,map_nil → yq,nodup_nil → yu
open Nat renaming le_refl → zF,lt_of_lt_of_le → zU,ne_of_lt → zZ,zero_le → zg,le_trans → zm,lt_irrefl → zp,ne_of_gt → yE,not_lt_zero → yG,lt_succ_iff → yM,le_of_lt → yb,lt_succ_of_lt → yd,le_of_not_lt → yl,le_add_right → ym
open Bool renaming false_ne_true → zL,false_eq_true → zb,false_and → yK,true_and → yT,and_eq_true → yj,and_false → yr
open PySem.W renaming nsIn → zM,keepIn → zN,mg_of → zQ,mg_none_of → zk,kia_one → yA,fnOf → yp
open PySem renaming mem_of_lookup → za
open Int renaming toNat_natCast → zc,eq_ofNat_of_zero_le → ze,le_refl → zw,zero_add → yH,emod_lt_of_pos → yY,emod_nonneg → yk,sub_zero → yt
open PyProof.Rows renaming boot_isinstance → zh,boot_list → zx,boot_sum → yD,callWith_type1 → yJ,boot_min → yQ,boot_all → yR,boot_tuple → yU,boot_int → ya
set_option Elab.async false
set_option linter.all false
set_option maxRecDepth 100000
set_option maxHeartbeats 4000000
namespace L2
open PySem PySem.Spec PyProof.Rows
abbrev Key:=Sum Int Str
def keyIs:Key->Value->Bool
 | .inl k,v=>Value.isInt k v
 | .inr x,v=>Value.isStrOf x v
def keyH (w:World):Key->Int
 | .inl k=>hashInt k
 | .inr x=>hashStr w x
theorem xv:∀ {k:Key}{v:Value},keyIs k v=true->(∃ i t,k=Sum.inl i/\v=Value.int i t)\/(∃ x t,k=Sum.inr x/\v=Value.str x t)
 | .inl i,v,h=>by
  obtain ⟨t,e⟩:=Value.isInt_shape (k:=i) (v:=v) h
  exact .inl ⟨i,t,rfl,e⟩
 | .inr x,v,h=>by
  obtain ⟨t,e⟩:=Value.isStrOf_shape (x:=x) (v:=v) h
  exact .inr ⟨x,t,rfl,e⟩
theorem keyIs_int (i:Int) (t:Tok):keyIs (.inl i) (.int i t)=true:=by simp [keyIs,Value.isInt]
theorem keyIs_str (x:Str) (t:Tok):keyIs (.inr x) (.str x t)=true:=by simp [keyIs,Value.isStrOf]
theorem key_ll (a b:Int):decide ((Sum.inl a:Key)=Sum.inl b)=(a == b):=by
 by_cases e:a=b
 ·subst e;simp
 ·have h:¬ (Sum.inl a:Key)=Sum.inl b:=λq=>e (Sum.inl.inj q)
  rw [decide_eq_false h]
  exact (beq_eq_false_iff_ne.mpr e).symm
theorem key_rr (a b:Str):decide ((Sum.inr a:Key)=Sum.inr b)=decide (a=b):=by
 by_cases e:a=b
 ·subst e;simp
 ·have h:¬ (Sum.inr a:Key)=Sum.inr b:=λq=>e (Sum.inr.inj q)
  rw [decide_eq_false h,decide_eq_false e]
theorem key_lr (a:Int) (b:Str):decide ((Sum.inl a:Key)=Sum.inr b)=false:=decide_eq_false (λq=>nomatch q)
theorem key_rl (a:Str) (b:Int):decide ((Sum.inr a:Key)=Sum.inl b)=false:=decide_eq_false (λq=>nomatch q)
def mixKind (prog:Program) (w:World):PySem.KeyKind prog w Key where
 is:=keyIs
 hash:=keyH w
 inj:=λv a b ha hb=>by
  rcases xv ha with ⟨i,t,rfl,rfl⟩ | ⟨x,t,rfl,rfl⟩
  ·rcases xv hb with ⟨j,u,rfl,e⟩ | ⟨y,u,rfl,e⟩
   ·injection e with e1 _;rw [e1]
   ·exact nomatch e
  ·rcases xv hb with ⟨j,u,rfl,e⟩ | ⟨y,u,rfl,e⟩
   ·exact nomatch e
   ·injection e with e1 _;rw [e1]
 byValue:=λk v h=>by
  rcases xv h with ⟨i,t,rfl,rfl⟩ | ⟨x,t,rfl,rfl⟩ <;> rfl
 pyHash:=λhv h=>by
  rcases xv hv with ⟨i,t,rfl,rfl⟩ | ⟨x,t,rfl,rfl⟩
  ·exact wpAny_pyHash_int h
  ·exact wpAny_pyHash_str h
 eqBool:=λhu hv h=>by
  rcases xv hu with ⟨i,t,rfl,rfl⟩ | ⟨x,t,rfl,rfl⟩
  ·rcases xv hv with ⟨j,u,rfl,rfl⟩ | ⟨y,u,rfl,rfl⟩
   ·rw [key_ll] at h;exact wpAny_eqBool_int h
   ·rw [key_lr] at h;exact SeqAt.EqAt.int_str i t y u _ _ _ _ h
  ·rcases xv hv with ⟨j,u,rfl,rfl⟩ | ⟨y,u,rfl,rfl⟩
   ·rw [key_rl] at h;exact SeqAt.EqAt.str_int x t j u _ _ _ _ h
   ·rw [key_rr] at h;exact wpAny_eqBool_str h
 «strs»:=λk x t v h=>by
  rcases xv h with ⟨i,u,rfl,e⟩ | ⟨y,u,rfl,e⟩
  ·exact nomatch e
  ·injection e with e1 _
   subst e1
   cases v <;> rfl
theorem mixKind_int (prog:Program) (w:World) (i:Int) (t:Tok):(mixKind prog w).is (.inl i) (.int i t)=true:=keyIs_int i t
theorem mixKind_str (prog:Program) (w:World) (x:Str) (t:Tok):(mixKind prog w).is (.inr x) (.str x t)=true:=keyIs_str x t
end L2
namespace L2
open PySem PySem.Spec PyProof.Rows
inductive V where
 | non | bl (b:Bool) | int (i:Int) | str (x:Str) | byt (b:Array UInt8) | flt (b:UInt64) | ref (a:Addr) | ty (n:String)
 deriving DecidableEq
def RelV:V->Value->Prop
 | .non,u=>u=Value.none
 | .bl b,u=>u=Value.bool b
 | .int i,u=>∃ t,u=Value.int i t
 | .str x,u=>∃ t,u=Value.str x t
 | .byt b,u=>∃ t,u=Value.bytes b t
 | .flt b,u=>∃ t,u=Value.float b t
 | .ref a,u=>u=Value.ref a
 | .ty n,u=>u=Value.type n
abbrev Vals:List V->List Value->Prop:=Paired RelV
theorem Vals.length {xs:List V}{us:List Value} (r:Vals xs us):xs.length=us.length:=Paired.length r
theorem Vals.get:∀ {xs:List V}{us:List Value}{i:Nat}{x:V},Vals xs us->xs[i]?=some x->∃ u,us[i]?=some u/\RelV x u
 | _,_,_,_,.nil,e=>by simp at e
 | _,_,0,_,.cons r _,e=>by simp at e;subst e;exact ⟨_,rfl,r⟩
 | _,_,i + 1,x,.cons _ t,e=>by
  obtain ⟨u,h1,h2⟩:=Vals.get (i:=i) (x:=x) t (by simpa using e)
  exact ⟨u,by simpa using h1,h2⟩
theorem Vals.set {x:V}{u:Value} (r:RelV x u):∀ {xs:List V}{us:List Value} (i:Nat),Vals xs us->Vals (xs.set i x) (us.set i u)
 | _,_,_,.nil=>.nil
 | _,_,0,.cons _ t=>.cons r t
 | _,_,i + 1,.cons q t=>.cons q (Vals.set r i t)
theorem Vals.append:∀ {xs ys:List V}{us ws:List Value},Vals xs us->Vals ys ws->Vals (xs++ys) (us++ws)
 | _,_,_,_,.nil,s=>s
 | _,_,_,_,.cons r t,s=>.cons r (Vals.append t s)
theorem Vals.take:∀ {xs:List V}{us:List Value} (n:Nat),Vals xs us->Vals (xs.take n) (us.take n)
 | _,_,0,_=>.nil
 | _,_,_ + 1,.nil=>.nil
 | _,_,n + 1,.cons r t=>.cons r (Vals.take n t)
theorem Vals.drop:∀ {xs:List V}{us:List Value} (n:Nat),Vals xs us->Vals (xs.drop n) (us.drop n)
 | _,_,0,r=>r
 | _,_,_ + 1,.nil=>.nil
 | _,_,n + 1,.cons _ t=>Vals.drop n t
def RelO:Option V->Option Value->Prop
 | some v,some u=>RelV v u
 | none,none=>True
 | _,_=>False
def KV {κ:Type}:List (κ×V)->List (κ×Value)->Prop:=Paired λ(p:κ×V) (q:κ×Value)=>p.1=q.1/\RelV p.2 q.2
def kV:Key->V
 | .inl i=>.int i
 | .inr x=>.str x
inductive HO where
  | lst (xs:List V)
  | tup (xs:List V)
  | dK (kvs:List (Key×V)) | dT (kvs:List (List Key×V))
  | set (S:Int->Bool) (n:Nat)
  | ins (C dx:Addr) (fs:List (Str×V))
  | own (x:Addr)
  | xd (fs:List (Str×V))
  | met (f x:Addr)
  | rng (lo hi:Int)
  | frz (o:Obj) (u:HO)
  | tbl (ps:Array Value)
  | ext (φ:Heap->Prop)
abbrev Hp:=Addr->Option HO
def upd (H:Hp) (a:Addr) (o:HO):Hp:=λb=>if b=a then some o else H b
theorem yy {H:Hp}{a:Addr}{o:HO}:upd H a o a=some o:=by unfold upd;rw [if_pos rfl]
theorem xG {H:Hp}{a b:Addr}{o:HO} (h:b≠a):upd H a o b=H b:=by unfold upd;rw [if_neg h]
theorem ne_of {H:Hp}{a b:Addr}{o u:HO} (h:H a=some o) (h':H b=some u) (d:o≠u):a≠b:=by
 intro e;subst e;rw [h] at h';exact d (Option.some.inj h')
theorem xA {H:Hp}{a b:Addr}{o:HO} (h:H a=some o) (h':H b=none):a≠b:=by
 intro e;subst e;rw [h] at h';cases h'
theorem new_bare {h:Heap}{o:Obj} (hf:o.isFreed=false:=by rfl) (hd:o.dict=none:=by rfl):∀ ob,(h.push o).get? h.objs.size=some ob->ob.dict=none:=λob e=>by
 rw [Heap.get?_push_size h hf] at e;cases e;exact hd
section
variable (P:Program) (w:World)
def ObjOk (H:Hp) (h:Heap) (a:Addr):HO->Prop
 | .lst xs=>xs.length<=sizeLine/\∃ (its:List Value) (n:Nat),Vals xs its/\h.get? a=some { cls:=.type "list", data:=.seq its.toArray n }
 | .tup xs=>(xs.length<=sizeLine/\∀ ob,h.get? a=some ob->ob.dict=none)/\∃ its:List Value,Vals xs its/\IsTup h a its.toArray
 | .dK kvs=>kvs.length<=sizeLine/\(a == sysModules)=false/\∃ vs,KV kvs vs/\h.DictOf (mixKind P w) a vs
 | .dT kvs=>kvs.length<=sizeLine/\(a == sysModules)=false/\∃ xs:List (List Key×Addr×Value),
   Paired (λ(p:List Key×V) (q:List Key×Addr×Value)=>p.1=q.1/\H q.2.1=some (.tup (p.1.map kV))/\RelV p.2 q.2.2) kvs xs /\
   ∃ o es ep,h.get? a=some o/\o.ExactDict/\o.data=.dict es ep/\es.toList=xs.map (entryOfKey (tupleKind (mixKind P w)))/\(xs.map (·.1)).Nodup
 | .set S n=>h.SetOf (intKind P w) a S n
 | .ins C dx fs=>H dx=some (.own a)/\fs.length<=1000/\dx≠a/\h.get? a=some (PySem.W.instObj C dx) /\
   ∃ mA,h.Ns1 dx mA/\(∀ f,RelO (fs.lookup f) (mA f))/\PySem.Within mA (fs.map (·.1))
 | .own _=>∃ o,h.get? a=some o
 | .xd fs=>∃ mA,h.Ns1 a mA/\∀ f,RelO (fs.lookup f) (mA f)
 | .rng lo hi=>∃ t u v,h.get? a=some { cls:=.type "range", data:=.fields #[.int lo t,.int hi u,.int 1 v] }
 | .frz o u=>h.get? a=some o/\ObjOk H h a u
 | .tbl ps=>h.get? a=some { cls:=.none,data:=.fields ps }
 | .met f x=>h.get? a=some (PySem.W.methodObj (.ref f) (.ref x))
 | .ext φ=>φ h/\(∃ o,h.get? a=some o)/\∀ h1 h2:Heap,φ h1->(∀ o,h1.get? a=some o->h2.get? a=some o)->φ h2
def HOk (H:Hp) (h:Heap):Prop:=∀ a o,H a=some o->ObjOk P w H h a o
end
section
variable {P:Program}{w:World}{H H':Hp}{h h':Heap}{a:Addr}{o:HO}
theorem ObjOk.lt (x:ObjOk P w H h a o):a < h.objs.size:=by
 cases o with
 | lst xs=>obtain ⟨_,_,_,_,e⟩:=x;exact Heap.lt_size e
 | tup xs=>obtain ⟨_,_,_,p⟩:=x;exact p.lt
 | dK kvs=>obtain ⟨_,_,_,_,o,_,_,e,_⟩:=x;exact Heap.lt_size e
 | dT kvs=>obtain ⟨_,_,_,_,o,_,_,e,_⟩:=x;exact Heap.lt_size e
 | set S n=>obtain ⟨o,_,_,_,e,_⟩:=x;exact Heap.lt_size e
 | ins C dx fs=>obtain ⟨_,_,_,e,_⟩:=x;exact Heap.lt_size e
 | own y=>obtain ⟨_,e⟩:=x;exact Heap.lt_size e
 | xd fs=>obtain ⟨_,⟨_,_,_,e,_⟩,_⟩:=x;exact Heap.lt_size e
 | rng lo hi=>obtain ⟨_,_,_,e⟩:=x;exact Heap.lt_size e
 | frz ob u=>obtain ⟨e,_⟩:=x;exact Heap.lt_size e
 | tbl ps=>exact Heap.lt_size (show h.get? a=some _ from x)
 | met f y=>exact Heap.lt_size (show h.get? a=some _ from x)
 | ext φ=>obtain ⟨_,⟨_,e⟩,_⟩:=x;exact Heap.lt_size e
theorem Paired.mapP {α β:Type}{F G:α->β->Prop}:∀ {l₁:List α}{l₂:List β},Paired F l₁ l₂->(∀ a b,F a b->G a b)->Paired G l₁ l₂
 | _,_,.nil,_=>.nil
 | _,_,.cons r t,f=>.cons (f _ _ r) (Paired.mapP t f)
theorem ObjOk.stay (x:ObjOk P w H h a o) (k:∀ b u,(b=a\/H b=some (.own a))->h.get? b=some u->h'.get? b=some u)
  (ho:∀ b,H b=some (.own a)->H' b=some (.own a)) (ht:∀ b xs,H b=some (.tup xs)->H' b=some (.tup xs)):ObjOk P w H' h' a o:=by
 induction o with
 | lst xs=>obtain ⟨z,its,n,r,e⟩:=x;exact ⟨z,its,n,r,k _ _ (.inl rfl) e⟩
 | tup xs=>obtain ⟨z,its,r,ob,e,c⟩:=x;exact ⟨⟨z.1,λob' e'=>by rw [k _ _ (.inl rfl) e] at e';cases e';exact z.2 _ e⟩,its,r,ob,k _ _ (.inl rfl) e,c⟩
 | dK kvs=>obtain ⟨z,y,vs,r,ob,es,ep,e,c⟩:=x;exact ⟨z,y,vs,r,ob,es,ep,k _ _ (.inl rfl) e,c⟩
 | dT kvs=>
  obtain ⟨z,y,xs,r,ob,es,ep,e,c⟩:=x
  exact ⟨z,y,xs,Paired.mapP r λp q z=>⟨z.1,ht _ _ z.2.1,z.2.2⟩,ob,es,ep,k _ _ (.inl rfl) e,c⟩
 | set S n=>obtain ⟨ob,es,ep,t,e,c⟩:=x;exact ⟨ob,es,ep,t,k _ _ (.inl rfl) e,c⟩
 | ins C dx fs=>
  obtain ⟨d,z,ne,e,mA,⟨od,es,ep,e2,c⟩,r⟩:=x
  exact ⟨ho _ d,z,ne,k _ _ (.inl rfl) e,mA,⟨od,es,ep,k _ _ (.inr d) e2,c⟩,r⟩
 | own y=>obtain ⟨ob,e⟩:=x;exact ⟨ob,k _ _ (.inl rfl) e⟩
 | xd fs=>obtain ⟨mA,⟨od,es,ep,e,c⟩,r⟩:=x;exact ⟨mA,⟨od,es,ep,k _ _ (.inl rfl) e,c⟩,r⟩
 | rng lo hi=>obtain ⟨t,u,v,e⟩:=x;exact ⟨t,u,v,k _ _ (.inl rfl) e⟩
 | frz ob u ih=>obtain ⟨e,q⟩:=x;exact ⟨k _ _ (.inl rfl) e,ih q⟩
 | tbl ps=>
  have e:h.get? a=some { cls:=.none,data:=.fields ps }:=x
  show h'.get? a=some { cls:=.none,data:=.fields ps }
  exact k a _ (.inl rfl) e
 | met f y=>
  have e:h.get? a=some (PySem.W.methodObj (.ref f) (.ref y)):=x
  show h'.get? a=some (PySem.W.methodObj (.ref f) (.ref y))
  exact k a _ (.inl rfl) e
 | ext φ=>obtain ⟨p,⟨o,e⟩,st⟩:=x;exact ⟨st _ _ p λo q=>k _ _ (.inl rfl) q,⟨o,k _ _ (.inl rfl) e⟩,st⟩
theorem HOk.lt (x:HOk P w H h) (e:H a=some o):a < h.objs.size:=(x a o e).lt
theorem HOk.fresh (x:HOk P w H h) (e:h.objs.size<=a):H a=none:=by
 cases q:H a with
 | none=>rfl
 | some u=>exact absurd (zU (x.lt q) e) (zp _)
theorem HOk.kept (x:HOk P w H h) (k:∀ b u,h.get? b=some u->h'.get? b=some u):HOk P w H h':=λa o e=>
 (x a o e).stay (λb u _ q=>k b u q) (λ_ q=>q) λ_ _ q=>q
theorem HOk.laid (x:HOk P w H h) (k:∀ b u,h.get? b=some u->h'.get? b=some u) (hp:h.objs.size<=a) (new:ObjOk P w (upd H a o) h' a o):HOk P w (upd H a o) h':=λb u e=>by
 have hn:=x.fresh hp
 by_cases hb:b=a
 ·subst hb;rw [yy] at e;cases e;exact new
 ·rw [xG hb] at e
  exact (x b u e).stay (λc v _ q=>k c v q) (λc q=>by rw [xG (xA q hn)];exact q) λc xs q=>by rw [xG (xA q hn)];exact q
end
def Rd (H:Hp) (a:Addr) (u:HO):Prop:=H a=some u\/∃ o,H a=some (.frz o u)
theorem Rd.ok {P:Program}{w:World}{H:Hp}{h:Heap}{a:Addr}{u:HO} (r:Rd H a u) (x:HOk P w H h):ObjOk P w H h a u:=by
 rcases r with r | ⟨o,r⟩
 ·exact x a u r
 ·obtain ⟨_,q⟩:=x a _ r
  exact q
def Mut:Option HO->Prop
 | some (.lst _)=>True
 | some (.dK _)=>True
 | some (.dT _)=>True
 | some (.set _ _)=>True
 | some (.ins _ _ _)=>True
 | some (.ext _)=>True
 | _=>False
section
variable {P:Program}{w:World}{H:Hp}{h h':Heap}{x e:Addr}{o':HO}
theorem HOk.write (ok:HOk P w H h) (mu:Mut (H x)) (he:e=x\/H e=some (.own x)) (k:∀ b u,b≠e->h.get? b=some u->h'.get? b=some u) (heo:∃ u,h'.get? e=some u)
  (new:ObjOk P w (upd H x o') h' x o'):HOk P w (upd H x o') h':=λb u q=>by
 have nown:∀ c y,H c=some (.own y)->c≠x:=λc y r z=>by subst z;rw [r] at mu;exact mu
 have ntup:∀ c xs,H c=some (.tup xs)->c≠x:=λc xs r z=>by subst z;rw [r] at mu;exact mu
 by_cases hb:b=x
 ·subst hb;rw [yy] at q;cases q;exact new
 ·rw [xG hb] at q
  by_cases hbe:b=e
  ·have q':H b=some (.own x):=by
    rcases he with z | z
    ·exact absurd (hbe.trans z) hb
    ·rw [hbe];exact z
   rw [q] at q';cases q'
   obtain ⟨v,hv⟩:=heo
   exact ⟨v,by rw [hbe];exact hv⟩
  ·refine (ok b u q).stay (λc v hc r=>k c v ?_ r) (λc r=>by rw [xG (nown c b r)];exact r) λc xs r=>by rw [xG (ntup c xs r)];exact r
   rcases hc with rfl | hc
   ·exact hbe
   ·rintro rfl
    rcases he with z | z
    ·exact nown c b hc z
    ·rw [hc] at z;cases z;exact hb rfl
end
structure Un (fs ex:List Addr) (H H':Hp) (h h':Heap):Prop where
 keep:∀ b o,h.get? b=some o->H b=none->b ∉ fs->b ∉ ex->h'.get? b=some o
 slot:∀ b o,h.get? b=some o->H b=none->b∈fs->b ∉ ex->∃ sl,h'.get? b=some { o with slots:=sl }
 free:∀ b o,h.get? b=some o->H b=none->b ∉ ex->H' b=none
 there:∀ b o,h.get? b=some o->b ∉ ex->∃ o',h'.get? b=some o'
 tups:∀ b xs,H b=some (.tup xs)->H' b=some (.tup xs)
 frzs:∀ b o u,H b=some (.frz o u)->H' b=some (.frz o u)
 tbls:∀ b ps,H b=some (.tbl ps)->∃ more,H' b=some (.tbl (ps++more))
section
variable {fs fs' ex ex':List Addr} {H H1 H2:Hp} {h h1 h2 h':Heap}{a x e:Addr}{o:HO}
theorem Un.any (u:Un fs ex H H1 h h1) {b:Addr}{ob:Obj} (q:h.get? b=some ob) (n:H b=none) (hx:b ∉ ex):∃ sl,h1.get? b=some { ob with slots:=sl }:=by
 by_cases hb:b∈fs
 ·exact u.slot b ob q n hb hx
 ·exact ⟨ob.slots,u.keep b ob q n hb hx⟩
theorem Un.kept (k:∀ b u,h.get? b=some u->h'.get? b=some u):Un fs ex H H h h':=
 ⟨λb ob q _ _ _=>k b ob q,λb ob q _ _ _=>⟨ob.slots,k b ob q⟩,λ_ _ _ n _=>n,λb ob q _=>⟨ob,k b ob q⟩,λ_ _ q=>q,λ_ _ _ q=>q,λ_ ps q=>⟨#[],by rw [q];simp⟩⟩
theorem Un.refl:Un fs ex H H h h:=Un.kept λ_ _ q=>q
theorem Un.laid (k:∀ b u,h.get? b=some u->h'.get? b=some u) (hp:h.objs.size<=a) (hn:H a=none):Un fs ex H (upd H a o) h h' where
 keep:=λb u q _ _ _=>k b u q
 slot:=λb u q _ _ _=>⟨u.slots,k b u q⟩
 free:=λb u q n _=>by rw [xG (zZ (zU (Heap.lt_size q) hp))];exact n
 there:=λb u q _=>⟨u,k b u q⟩
 tups:=λb xs q=>by rw [xG (xA q hn)];exact q
 frzs:=λb u xs q=>by rw [xG (xA q hn)];exact q
 tbls:=λb ps q=>⟨#[],by rw [xG (xA q hn),q];simp⟩
theorem Un.write (mu:Mut (H x)) (he:e=x\/H e=some (.own x)) (k:∀ b u,b≠e->h.get? b=some u->h'.get? b=some u) (heo:∃ u,h'.get? e=some u):Un fs ex H (upd H x o) h h':=by
 have hx:∀ b,H b=none->b≠x:=λb n z=>by subst z;rw [n] at mu;exact mu
 have hb:∀ b,H b=none->b≠e:=λb n z=>by
  subst z
  rcases he with r | r
  ·exact hx b n r
  ·rw [n] at r;cases r
 have hm:∀ b u,H b=some u->¬ Mut (some u)->b≠x:=λb u q nm z=>by subst z;rw [q] at mu;exact nm mu
 refine ⟨λb u q n _ _=>k b u (hb b n) q,λb u q n _ _=>⟨u.slots,k b u (hb b n) q⟩,λb u q n _=>by rw [xG (hx b n)];exact n,λb u q _=>?_,
  λb xs q=>by rw [xG (hm b _ q λz=>z)];exact q,λb u xs q=>by rw [xG (hm b _ q λz=>z)];exact q,λb ps q=>⟨#[],by rw [xG (hm b _ q λz=>z),q];simp⟩⟩
 by_cases hbe:b=e
 ·subst hbe;exact heo
 ·exact ⟨u,k b u hbe q⟩
end
def trk (h:Heap) (H:Hp):List Addr:=(List.range h.objs.size).filter λa=>(H a).isSome
def hidT (h:Heap) (H:Hp):Heap:=PySem.W.hideAll h (trk h H)
theorem hidT_size (h:Heap) (H:Hp):(hidT h H).objs.size=h.objs.size:=PySem.W.hideAll_size _ _
theorem hidT_get {h:Heap}{H:Hp}{b:Addr}{o:Obj} (e:h.get? b=some o) (n:H b=none):(hidT h H).get? b=some o:=
 PySem.W.hideAll_get _ e λhm=>by
  have q:(H b).isSome=true:=(List.mem_filter.mp hm).2
  rw [n] at q;simp at q
theorem of_hidT {h:Heap}{H:Hp}{b:Addr}{o:Obj} (e:(hidT h H).get? b=some o):h.get? b=some o/\H b=none:=by
 have e':h.get? b=some o:=PySem.W.of_hideAll (trk h H) e
 refine ⟨e',?_⟩
 cases q:H b with
 | none=>rfl
 | some x=>
  have hm:b∈trk h H:=List.mem_filter.mpr ⟨zv.mpr (Heap.lt_size e'),by simp [q]⟩
  have z:(hidT h H).get? b=none:=PySem.W.hideAll_none (trk h H) hm
  rw [z] at e;cases e
def allNews (g h:Heap) (L:Addr):List (Addr×Obj):=(List.range h.objs.size).filterMap λa=>if a=L\/(g.get? a).isSome=true then none else (h.get? a).map λo=>(a,o)
theorem mem_allNews {g h:Heap}{L a:Addr}{o:Obj} (h1:a≠L) (h2:g.get? a=none) (h3:h.get? a=some o):(a,o)∈allNews g h L:=
 yX.mpr ⟨a,zv.mpr (Heap.lt_size h3),by simp [h1,h2,h3]⟩
theorem of_mem_allNews {g h:Heap}{L:Addr}{p:Addr×Obj} (hp:p∈allNews g h L):p.1≠L/\g.get? p.1=none/\h.get? p.1=some p.2:=by
 obtain ⟨b,_,e⟩:=yX.mp hp
 split at e
 ·cases e
 ·rename_i hn
  cases q:h.get? b with
  | none=>rw [q] at e;simp at e
  | some u=>
   rw [q] at e
   simp only [Option.map_some,Option.some.injEq] at e
   subst e
   refine ⟨λz=>hn (.inl z),?_,q⟩
   show g.get? b=none
   cases r:g.get? b with
   | none=>rfl
   | some v=>exact (hn (.inr (by simp [r]))).elim
theorem news_all {g h:Heap}{L:Addr}:News g L h (allNews g h L):=λp hp=>let ⟨a,b,c⟩:=of_mem_allNews hp;⟨c,a,b⟩
end L2
namespace L2
open PySem PySem.Spec PyProof.Rows
structure Mod (K:PySem.W.Frag) (mg:Str->Option Value) (base:Heap):Prop where
 kin:K.In base
 glob:base.Ns mainGlobals mg
 blt:∃ mb,base.Ns builtinsNs mb/\∀ x:Str,x ≠ "__name__" -> mb x=bootBuiltins x
 nolimit:base.NoLimit
structure Cx where
 prog:Program
 w:World
 K:PySem.W.Frag
 mg:Str->Option Value
 base:Heap
 A:Around
 N:List Str
 s₀:Shared
 H₀:Hp
 env:Env
 outer:List Env
 stack:List Env
 ex:List Addr
 fn:Str->Bool
 calm:Bool
 pn:List (Addr×Obj)
 xe:Value->Shared->Prop
def frs (l:List Env):List Addr:=l.filterMap (·.frame)
abbrev Cx.fs (X:Cx):List Addr:=frs X.outer
def Vis (sc:Scope) (x:Str):Prop:=sc.names.lookup x=some .local\/sc.names.lookup x=some .cell\/sc.names.lookup x=some .free
def Loc (sc:Scope) (x:Str):Prop:=sc.names.lookup x=some .local\/sc.names.lookup x=some .cell
def Look (env:Env) (h:Heap) (m:Str->Option Value) (x:Str) (u:Value):Prop:=
 (env.kindOf x=some .local/\m x=some u)\/((env.kindOf x=some .cell\/env.kindOf x=some .free)/\∃ c,env.cells.lookup x=some c/\h.IsCell c (some u))
structure Cx.Ok (X:Cx):Prop where
 mod:Mod X.K X.mg X.base
 kind:X.env.scope.kind=.function
 glob:X.env.globals=mainGlobals
 blt:X.env.builtins=builtinsNs
 above:X.s₀.heap.objs.size<=X.env.locals
 inj:∀ x y c,X.env.cells.lookup x=some c->X.env.cells.lookup y=some c->x=y
 has:∀ x,(X.env.kindOf x=some .cell\/X.env.kindOf x=some .free)->∃ c,X.env.cells.lookup x=some c
 cab:∀ x c,X.fn x=true->X.env.cells.lookup x=some c->X.s₀.heap.objs.size<=c
 hd:X.calm=true->X.A.handled=none
 frames:X.A.frames=some X.stack
 stk:X.stack=X.outer\/(X.stack=X.env::X.outer/\X.env.frame=some X.env.locals)
 exf:∀ b∈X.ex,b≠X.env.locals/\∀ x c,X.env.cells.lookup x=some c->c≠b
 bs:∀ b o,X.base.get? b=some o->X.s₀.heap.get? b=some o/\X.H₀ b=none
 bsz:X.base.objs.size<=X.s₀.heap.objs.size
 noex:∀ b o,X.base.get? b=some o->b ∉ X.ex
 exfs:∀ b∈X.ex,b ∉ X.fs
 funs:X.s₀.heap.FunFrames X.base X.outer
 frf:∀ b∈X.fs,X.H₀ b=none
structure Inv (X:Cx) (pins:List (Addr×Obj)) (σ:List (Option V)) (H:Hp) (s:Shared):Prop where
 ok:X.Ok
 os:s.os=X.s₀.os
 bare:AllBare s.gens
 base:Un X.fs X.ex X.H₀ H X.s₀.heap s.heap
 loc:∃ m,s.heap.Ns X.env.locals m/\∀ (i:Nat) (x:Str) (v:V),X.N[i]?=some x->σ[i]?=some (some v)->Vis X.env.scope x->∃ u,RelV v u/\Look X.env s.heap m x u
 cell:∀ x c,X.env.cells.lookup x=some c->∃ v,s.heap.IsCell c v
 free:H X.env.locals=none
 freeC:∀ x c,X.env.cells.lookup x=some c->H c=none
 pin:∀ p∈X.pn++pins,s.heap.get? p.1=some p.2/\H p.1=none/\p.1≠X.env.locals/\p.1 ∉ X.fs/\∀ v,p.2.data≠.cell v
 hok:HOk X.prog X.w H s.heap
 len:σ.length=X.N.length
section
variable {X:Cx}{pins:List (Addr×Obj)}{σ:List (Option V)}{H H':Hp}{s:Shared}{h':Heap}
theorem Cx.Ok.nofr (ok:X.Ok) {b:Addr}{o:Obj} (e:X.base.get? b=some o):b ∉ X.fs:=λhb=>by
 have:=(ok.funs.mem hb).1
 rw [e] at this;cases this
theorem Inv.bs (I:Inv X pins σ H s):∀ b o,X.base.get? b=some o->s.heap.get? b=some o/\H b=none:=λb o e=>
 ⟨I.base.keep b o (I.ok.bs b o e).1 (I.ok.bs b o e).2 (I.ok.nofr e) (I.ok.noex b o e),I.base.free b o (I.ok.bs b o e).1 (I.ok.bs b o e).2 (I.ok.noex b o e)⟩
theorem Inv.bk (I:Inv X pins σ H s):∀ b o,X.base.get? b=some o->s.heap.get? b=some o:=λb o e=>(I.bs b o e).1
theorem Inv.mod (I:Inv X pins σ H s):Mod X.K X.mg X.base:=I.ok.mod
theorem Inv.kIn (I:Inv X pins σ H s):X.K.In s.heap:=I.ok.mod.kin.keeps I.bk
theorem Inv.fr (I:Inv X pins σ H s):∃ m,Fr X.base X.env.locals s.heap m:=
 let ⟨m,hn,_⟩:=I.loc
 ⟨m,hn,I.bk,zm I.ok.bsz I.ok.above⟩
theorem Inv.lt (I:Inv X pins σ H s):X.env.locals < s.heap.objs.size:=let ⟨_,hn,_⟩:=I.loc;hn.lt
theorem Inv.sz (I:Inv X pins σ H s):X.s₀.heap.objs.size<=s.heap.objs.size:=zm I.ok.above (yb I.lt)
theorem Inv.nofs (I:Inv X pins σ H s) {a:Addr} (h:s.heap.objs.size<=a):a ∉ X.fs:=λhb=>by
 obtain ⟨_,o,ho,_⟩:=I.ok.funs.mem hb
 exact absurd (zU (Heap.lt_size ho) (zm I.sz h)) (zp _)
theorem Inv.cne (I:Inv X pins σ H s):∀ x c,X.env.cells.lookup x=some c->c≠X.env.locals:=λx c e z=>by
 obtain ⟨v,o,ho,hd⟩:=I.cell x c e
 obtain ⟨m,⟨o',es,ep,ho',hd',_⟩,_⟩:=I.loc
 rw [z,ho'] at ho;cases ho;rw [hd'] at hd;cases hd
theorem Inv.funs (I:Inv X pins σ H s):s.heap.FunFrames X.base X.outer:=by
 have all:∀ (l:List Env),(∀ b∈frs l,b∈X.fs)->X.s₀.heap.FunFrames X.base l->s.heap.FunFrames X.base l:=by
  intro l
  induction l with
  | nil=>intro _ _;trivial
  | cons env r ih=>
   intro hs hl
   obtain ⟨hk,⟨L,o,hf,hn,ho,hd⟩,hr⟩:=hl
   have hL:L∈X.fs:=hs L (by unfold frs;rw [yf,hf];exact zf)
   obtain ⟨sl,e⟩:=I.base.slot L o ho (I.ok.frf L hL) hL λz=>I.ok.exfs L z hL
   exact ⟨hk,⟨L,_,hf,hn,e,hd⟩,ih (λb hb=>hs b (by unfold frs;rw [yf,hf];exact zW _ hb)) hr⟩
 exact all X.outer (λ_ hb=>hb) I.ok.funs
theorem Inv.stack (I:Inv X pins σ H s):s.heap.FunFrames X.base X.stack:=by
 rcases I.ok.stk with e | ⟨e,hf⟩
 ·rw [e];exact I.funs
 ·rw [e]
  obtain ⟨m,hn,_⟩:=I.loc
  refine .cons (by rw [I.ok.kind];decide) hf hn ?_ I.funs
  exact Heap.get?_none_of_le (zm I.ok.bsz I.ok.above)
theorem Inv.stkSub (I:Inv X pins σ H s):∀ b∈frs X.stack,b∈X.env.locals::X.fs:=λb hb=>by
 rcases I.ok.stk with e | ⟨e,hf⟩
 ·rw [e] at hb;exact zW _ hb
 ·rw [e] at hb
  unfold frs at hb
  rw [yf,hf] at hb
  exact hb
theorem Inv.stkFree (I:Inv X pins σ H s):∀ b∈frs X.stack,H b=none:=λb hb=>by
 rcases zC.mp (I.stkSub b hb) with e | hb
 ·rw [e];exact I.free
 ·obtain ⟨_,o,ho,_⟩:=I.ok.funs.mem hb
  exact I.base.free b o ho (I.ok.frf b hb) λz=>I.ok.exfs b z hb
theorem Inv.step {g':Array GenState}{t':Nat}{d':Drawn}{ch:List Addr} (I:Inv X pins σ H s)
  (hch:∀ b∈ch,(b∈X.ex\/X.s₀.heap.objs.size<=b)/\b≠X.env.locals/\(∀ x c,X.env.cells.lookup x=some c->c≠b)/\∀ p∈X.pn++pins,p.1≠b)
  (keep:∀ b o,b≠X.env.locals->b ∉ X.fs->b ∉ ch->s.heap.get? b=some o->H b=none->h'.get? b=some o)
  (slot:∀ b o,b≠X.env.locals->b∈X.fs->b ∉ ch->s.heap.get? b=some o->H b=none->∃ sl,h'.get? b=some { o with slots:=sl }) (free:∀ b o,b ∉ ch->s.heap.get? b=some o->H b=none->H' b=none)
  (there:∀ b o,b ∉ ch->s.heap.get? b=some o->∃ o',h'.get? b=some o')
  (tups:∀ b xs,H b=some (.tup xs)->H' b=some (.tup xs)) (frzs:∀ b o u,H b=some (.frz o u)->H' b=some (.frz o u)) (tbls:∀ b ps,H b=some (.tbl ps)->∃ more,H' b=some (.tbl (ps++more)))
  (ns:∀ m,s.heap.Ns X.env.locals m->h'.Ns X.env.locals m) (hok:HOk X.prog X.w H' h') (hg:AllBare g') :
  Inv X pins σ H' { s with heap:=h',gens:=g',drawn:=d',toks:=t' }:=by
 have neL:∀ b o,X.s₀.heap.get? b=some o->b≠X.env.locals:=λb o e=>zZ (zU (Heap.lt_size e) I.ok.above)
 have neC:∀ b o,X.s₀.heap.get? b=some o->b ∉ X.ex->b ∉ ch:=λb o e hx hb=>by
  rcases (hch b hb).1 with z | z
  ·exact hx z
  ·exact absurd (zU (Heap.lt_size e) z) (zp _)
 have cellK:∀ x c,X.env.cells.lookup x=some c->∀ v,s.heap.IsCell c v->h'.IsCell c v:=λx c e v ⟨o,ho,hd⟩=>by
  have nch:c ∉ ch:=λz=>(hch c z).2.2.1 x c e rfl
  by_cases hc:c∈X.fs
  ·obtain ⟨sl,q⟩:=slot c o (I.cne x c e) hc nch ho (I.freeC x c e)
   exact ⟨_,q,hd⟩
  ·exact ⟨o,keep c o (I.cne x c e) hc nch ho (I.freeC x c e),hd⟩
 refine ⟨I.ok,I.os,hg,⟨λb o e n hb hx=>?_,λb o e n hb hx=>?_,λb o e n hx=>?_,λb o e hx=>?_,λb xs e=>tups b xs (I.base.tups b xs e),λb o xs e=>frzs b o xs (I.base.frzs b o xs e),λb ps e=>?_⟩,?_,λx c e=>?_,?_,λx c e=>?_,λp hp=>?_,hok,I.len⟩
 ·exact keep b o (neL b o e) hb (neC b o e hx) (I.base.keep b o e n hb hx) (I.base.free b o e n hx)
 ·obtain ⟨sl,e1⟩:=I.base.slot b o e n hb hx
  obtain ⟨sl',e2⟩:=slot b _ (neL b o e) hb (neC b o e hx) e1 (I.base.free b o e n hx)
  exact ⟨sl',e2⟩
 ·obtain ⟨o',e1⟩:=I.base.there b o e hx
  exact free b o' (neC b o e hx) e1 (I.base.free b o e n hx)
 ·obtain ⟨o',e1⟩:=I.base.there b o e hx
  exact there b o' (neC b o e hx) e1
 ·obtain ⟨m1,e1⟩:=I.base.tbls b ps e
  obtain ⟨m2,e2⟩:=tbls b _ e1
  exact ⟨m1++m2,by rw [e2,Array.append_assoc]⟩
 ·obtain ⟨m,hn,hl⟩:=I.loc
  refine ⟨m,ns m hn,λi x v e1 e2 e3=>?_⟩
  obtain ⟨u,r,l⟩:=hl i x v e1 e2 e3
  refine ⟨u,r,?_⟩
  rcases l with l | ⟨k,c,e,z⟩
  ·exact .inl l
  ·exact .inr ⟨k,c,e,cellK x c e _ z⟩
 ·obtain ⟨v,z⟩:=I.cell x c e
  exact ⟨v,cellK x c e v z⟩
 ·obtain ⟨m,⟨o,_,_,ho,_⟩,_⟩:=I.loc
  exact free _ o (λz=>(hch _ z).2.1 rfl) ho I.free
 ·obtain ⟨v,o,ho,hd⟩:=I.cell x c e
  exact free c o (λz=>(hch c z).2.2.1 x c e rfl) ho (I.freeC x c e)
 ·obtain ⟨e,n,ne,nf,d⟩:=I.pin p hp
  have nch:p.1 ∉ ch:=λz=>(hch p.1 z).2.2.2 p hp rfl
  exact ⟨keep p.1 p.2 ne nf nch e n,free p.1 p.2 nch e n,ne,nf,d⟩
theorem Inv.un {t':Nat} (I:Inv X pins σ H s) (u:Un X.fs [] H H' s.heap h') (hok:HOk X.prog X.w H' h'):Inv X pins σ H' { s with heap:=h',toks:=t' }:=by
 obtain ⟨m,⟨o,es,ep,ho,r⟩,_⟩:=id I.loc
 obtain ⟨sl,hL⟩:=u.any ho I.free (by simp)
 exact I.step (g':=s.gens) (d':=s.drawn) (ch:=[]) (λ_ z=>nomatch z) (λb o _ hb _ e n=>u.keep b o e n hb (by simp)) (λb o _ hb _ e n=>u.slot b o e n hb (by simp)) (λb o _ e n=>u.free b o e n (by simp)) (λb o _ e=>u.there b o e (by simp)) u.tups u.frzs u.tbls (λm' hm=>by
  obtain ⟨o',es',ep',ho',r'⟩:=hm
  rw [ho] at ho';cases ho'
  exact ⟨_,es',ep',hL,r'⟩) hok I.bare
theorem Inv.call {g':Array GenState}{t':Nat}{d':Drawn}{ch:List Addr} (I:Inv X pins σ H s) (u:Un (frs X.stack) ch H H' s.heap h') (hok:HOk X.prog X.w H' h') (hg:AllBare g')
  (hch:∀ b∈ch,(b∈X.ex\/X.s₀.heap.objs.size<=b)/\b≠X.env.locals/\(∀ x c,X.env.cells.lookup x=some c->c≠b)/\∀ p∈X.pn++pins,p.1≠b) :
  Inv X pins σ H' { s with heap:=h',gens:=g',drawn:=d',toks:=t' }:=by
 obtain ⟨m,⟨o,es,ep,ho,r⟩,_⟩:=id I.loc
 obtain ⟨sl,hL⟩:=u.any ho I.free λz=>(hch _ z).2.1 rfl
 exact I.step (ch:=ch) hch (λb o hL hb hc e n=>u.keep b o e n (λz=>(zC.mp (I.stkSub b z)).elim hL hb) hc) (λb o _ _ hc e n=>u.any e n hc) (λb o hc e n=>u.free b o e n hc) (λb o hc e=>u.there b o e hc) u.tups u.frzs u.tbls (λm' hm=>by
  obtain ⟨o',es',ep',ho',r'⟩:=hm
  rw [ho] at ho';cases ho'
  exact ⟨_,es',ep',hL,r'⟩) hok hg
theorem Inv.turned {t':Nat}{it:Addr} (I:Inv X pins σ H s) (k:∀ b o,b≠it->s.heap.get? b=some o->h'.get? b=some o) (hn:H it=none) (hL:it≠X.env.locals)
  (h1:it∈X.ex\/X.s₀.heap.objs.size<=it) (h2:∀ x c,X.env.cells.lookup x=some c->c≠it) (h3:∀ p∈X.pn++pins,p.1≠it):Inv X pins σ H { s with heap:=h',toks:=t' }:=by
 have nit:∀ b u,H b=some u->b≠it:=λb u e z=>by rw [z,hn] at e;cases e
 refine I.step (g':=s.gens) (d':=s.drawn) (ch:=[it]) (λb hb=>?_) (λb o _ _ hc e _=>k b o (λz=>hc (by simp [z])) e) (λb o _ _ hc e _=>⟨o.slots,k b o (λz=>hc (by simp [z])) e⟩) (λ_ _ _ _ n=>n)
  (λb o hc e=>⟨o,k b o (λz=>hc (by simp [z])) e⟩) (λ_ _ e=>e) (λ_ _ _ e=>e) (λb ps e=>⟨#[],by rw [e];simp⟩) (λm hm=>?_) (λb u e=>?_) I.bare
 ·have e:b=it:=by simpa using hb
  subst e
  exact ⟨h1,hL,h2,h3⟩
 ·obtain ⟨o,es,ep,ho,r⟩:=hm
  exact ⟨o,es,ep,k _ o (Ne.symm hL) ho,r⟩
 ·refine (I.hok b u e).stay (λc v hc q=>k c v ?_ q) (λ_ q=>q) λ_ _ q=>q
  rcases hc with z | z
  ·rw [z];exact nit b u e
  ·exact nit c _ z
theorem Inv.tok (I:Inv X pins σ H s) (t:Nat):Inv X pins σ H { s with toks:=t }:=I.un (h':=s.heap) (t':=t) Un.refl I.hok
theorem Inv.kept {t':Nat} (I:Inv X pins σ H s) (k:∀ b u,s.heap.get? b=some u->h'.get? b=some u):Inv X pins σ H { s with heap:=h',toks:=t' }:=I.un (Un.kept k) (I.hok.kept k)
theorem Inv.laid {a:Addr}{o:HO}{t':Nat} (I:Inv X pins σ H s) (k:∀ b u,s.heap.get? b=some u->h'.get? b=some u) (hp:s.heap.objs.size<=a) (new:ObjOk X.prog X.w (upd H a o) h' a o) :
  Inv X pins σ (upd H a o) { s with heap:=h',toks:=t' }:=I.un (Un.laid k hp (I.hok.fresh hp)) (I.hok.laid k hp new)
theorem Inv.write {x e:Addr}{o:HO}{t':Nat} (I:Inv X pins σ H s) (mu:Mut (H x)) (he:e=x\/H e=some (.own x)) (k:∀ b u,b≠e->s.heap.get? b=some u->h'.get? b=some u) (heo:∃ u,h'.get? e=some u)
  (new:ObjOk X.prog X.w (upd H x o) h' x o):Inv X pins σ (upd H x o) { s with heap:=h',toks:=t' }:=I.un (Un.write mu he k heo) (I.hok.write mu he k heo new)
theorem Inv.pins_of {pins':List (Addr×Obj)} (I:Inv X pins σ H s) (h:∀ p∈pins',s.heap.get? p.1=some p.2/\H p.1=none/\p.1≠X.env.locals/\p.1 ∉ X.fs/\∀ v,p.2.data≠.cell v):Inv X pins' σ H s:=
 ⟨I.ok,I.os,I.bare,I.base,I.loc,I.cell,I.free,I.freeC,λp hp=>(zV.mp hp).elim (λz=>I.pin p (yI _ z)) (h p),I.hok,I.len⟩
theorem nodup_ix {N:List Str} (hN:N.Nodup) {i j:Nat}{x:Str} (a:N[i]?=some x) (b:N[j]?=some x):i=j:=by
 obtain ⟨h1,e1⟩:=zK.mp a
 obtain ⟨h2,e2⟩:=zK.mp b
 exact (List.getElem_inj hN).mp (e1.trans e2.symm)
theorem store_ok2 {M:Model}{A:Around}{E:Value->Shared->Prop}{i:Nat}{x:Str}{v:V}{u:Value}{Q:Unit->Shared->Prop} (I:Inv X pins σ H s) (hN:X.N.Nodup) (hi:X.N[i]?=some x) (hx:Loc X.env.scope x) (r:RelV v u)
  (h:∀ s',Inv X pins (σ.set i (some v)) H s'->(∃ a,Heap.SameBut a s.heap s'.heap/\(a=X.env.locals\/X.env.cells.lookup x=some a))->Q () s') (hf:X.fn x=true\/X.env.scope.names.lookup x=some .local:=by first | exact .inl rfl | exact .inr rfl | assumption):wpAny M A (storeName X.env x u) Q E s:=by
 obtain ⟨m,hn,hl⟩:=id I.loc
 have hcls:(X.env.scope.kind == .class || (X.env.scope.kind == .module && X.env.locals != X.env.globals))=false:=by rw [I.ok.kind];rfl
 have hiσ:i < σ.length:=by rw [I.len];exact (zK.mp hi).1
 have cne:=I.cne
 have tracked:∀ {a:Addr}{h':Heap},(∃ o,s.heap.get? a=some o/\H a=none)->Heap.SameBut a s.heap h'->HOk X.prog X.w H h':=λ{a h'} ha hs b ob e=>by
  obtain ⟨_,_,hfree⟩:=ha
  refine (I.hok b ob e).stay (λc w' hc q=>(hs.2 c ?_).trans q) (λ_ q=>q) λ_ _ q=>q
  rintro rfl
  rcases hc with rfl | hc
  ·rw [hfree] at e;cases e
  ·rw [hfree] at hc;cases hc
 rcases hx with hk | hk
 ·refine wpAny_storeName_local hk hn (λh' hn' hs=>?_) hcls
  obtain ⟨oL,_,_,hoL,_⟩:=id hn
  refine h _ ⟨I.ok,I.os,I.bare,⟨λb o e n hb hx=>?_,λb o e n hb hx=>?_,I.base.free,λb o e hx=>?_,I.base.tups,I.base.frzs,I.base.tbls⟩,⟨_,hn',λj y v' e1 e2 e3=>?_⟩,λy c e=>?_,I.free,I.freeC,λp hp=>?_,tracked ⟨oL,hoL,I.free⟩ hs,by simpa using I.len⟩ ⟨_,hs,.inl rfl⟩
  ·exact (hs.2 b (zZ (zU (Heap.lt_size e) I.ok.above))).trans (I.base.keep b o e n hb hx)
  ·obtain ⟨sl,e1⟩:=I.base.slot b o e n hb hx
   exact ⟨sl,(hs.2 b (zZ (zU (Heap.lt_size e) I.ok.above))).trans e1⟩
  ·obtain ⟨o',e1⟩:=I.base.there b o e hx
   exact ⟨o',(hs.2 b (zZ (zU (Heap.lt_size e) I.ok.above))).trans e1⟩
  ·by_cases hj:j=i
   ·subst hj
    rw [hi] at e1;cases e1
    rw [List.getElem?_set_self hiσ] at e2
    cases e2
    exact ⟨u,r,.inl ⟨hk,by simp⟩⟩
   ·rw [List.getElem?_set_ne (Ne.symm hj)] at e2
    obtain ⟨u',r',q⟩:=hl j y v' e1 e2 e3
    refine ⟨u',r',?_⟩
    rcases q with ⟨k,e⟩ | ⟨k,c,e,z⟩
    ·refine .inl ⟨k,?_⟩
     have:y≠x:=λe=>hj (nodup_ix hN e1 (e ▸ hi))
     simp [this,e]
    ·exact .inr ⟨k,c,e,z.sameBut hs (cne y c e)⟩
  ·obtain ⟨w',z⟩:=I.cell y c e
   exact ⟨w',z.sameBut hs (cne y c e)⟩
  ·obtain ⟨e,n,ne,nf,d⟩:=I.pin p hp
   exact ⟨(hs.2 p.1 ne).trans e,n,ne,nf,d⟩
 ·have hfn:X.fn x=true:=by
   rcases hf with z | z
   ·exact z
   ·rw [z] at hk;cases hk
  obtain ⟨c,hc⟩:=I.ok.has x (.inl hk)
  obtain ⟨w',z⟩:=I.cell x c hc
  refine wpAny_storeName_cell I.ok.kind hk hc z (λh' hc' hs=>?_)
  obtain ⟨oc,hoc,hocd⟩:=id z
  refine h { s with heap:=h' } ⟨I.ok,I.os,I.bare,⟨λb o e n hb hx=>?_,λb o e n hb hx=>?_,I.base.free,λb o e hx=>?_,I.base.tups,I.base.frzs,I.base.tbls⟩,⟨m,hn.sameBut hs (Ne.symm (cne x c hc)),λj y v' e1 e2 e3=>?_⟩,λy c' e=>?_,I.free,I.freeC,λp hp=>?_,tracked ⟨oc,hoc,I.freeC x c hc⟩ hs,by simpa using I.len⟩ ⟨c,hs,.inr hc⟩
  ·exact (hs.2 b (zZ (zU (Heap.lt_size e) (I.ok.cab x c hfn hc)))).trans (I.base.keep b o e n hb hx)
  ·obtain ⟨sl,e1⟩:=I.base.slot b o e n hb hx
   exact ⟨sl,(hs.2 b (zZ (zU (Heap.lt_size e) (I.ok.cab x c hfn hc)))).trans e1⟩
  ·obtain ⟨o',e1⟩:=I.base.there b o e hx
   exact ⟨o',(hs.2 b (zZ (zU (Heap.lt_size e) (I.ok.cab x c hfn hc)))).trans e1⟩
  ·by_cases hj:j=i
   ·subst hj
    rw [hi] at e1;cases e1
    rw [List.getElem?_set_self hiσ] at e2
    cases e2
    exact ⟨u,r,.inr ⟨.inl hk,c,hc,hc'⟩⟩
   ·rw [List.getElem?_set_ne (Ne.symm hj)] at e2
    obtain ⟨u',r',q⟩:=hl j y v' e1 e2 e3
    refine ⟨u',r',?_⟩
    rcases q with q | ⟨k,c',e,z'⟩
    ·exact .inl q
    ·refine .inr ⟨k,c',e,z'.sameBut hs ?_⟩
     rintro rfl
     exact hj (nodup_ix hN e1 (I.ok.inj _ _ _ e hc ▸ hi))
  ·by_cases hcc:c'=c
   ·subst hcc;exact ⟨_,hc'⟩
   ·obtain ⟨w2,z2⟩:=I.cell y c' e
    exact ⟨w2,z2.sameBut hs hcc⟩
  ·obtain ⟨e,n,ne,nf,d⟩:=I.pin p hp
   refine ⟨(hs.2 p.1 ?_).trans e,n,ne,nf,d⟩
   intro q
   rw [q,hoc] at e
   have q':oc=p.2:=Option.some.inj e
   exact d w' (by rw [<-q'];exact hocd)
theorem store_ok {M:Model}{A:Around}{E:Value->Shared->Prop}{i:Nat}{x:Str}{v:V}{u:Value}{Q:Unit->Shared->Prop} (I:Inv X pins σ H s) (hN:X.N.Nodup) (hi:X.N[i]?=some x) (hx:Loc X.env.scope x) (r:RelV v u)
  (h:∀ s',Inv X pins (σ.set i (some v)) H s'->Q () s') (hf:X.fn x=true\/X.env.scope.names.lookup x=some .local:=by first | exact .inl rfl | exact .inr rfl | assumption):wpAny M A (storeName X.env x u) Q E s:=
 store_ok2 I hN hi hx r (λs' I' _=>h s' I') hf
theorem Inv.call' {s':Shared}{ch:List Addr} (I:Inv X pins σ H s) (ho:s'.os=s.os) (u:Un (frs X.stack) ch H H' s.heap s'.heap) (hok:HOk X.prog X.w H' s'.heap) (hg:AllBare s'.gens)
  (hch:∀ b∈ch,(b∈X.ex\/X.s₀.heap.objs.size<=b)/\b≠X.env.locals/\(∀ x c,X.env.cells.lookup x=some c->c≠b)/\∀ p∈X.pn++pins,p.1≠b):Inv X pins σ H' s':=by
 obtain ⟨h',g',d',t',o'⟩:=s'
 have e:o'=s.os:=ho
 subst e
 exact I.call (g':=g') (t':=t') (d':=d') u hok hg hch
end
abbrev XK:=Value->Option Addr->Hp->Prop
abbrev St:=List (Option V)
abbrev VK:=V->Hp->Prop
abbrev TE:=St->Hp->VK->Prop
abbrev TT:=St->Hp->(Bool->Hp->Prop)->Prop
abbrev TA:=St->Hp->(List V->Hp->Prop)->Prop
structure Ends where
 nx:St->Hp->Prop
 rt:VK
 bk:St->Hp->Prop:=λ_ _=>False
 ct:St->Hp->Prop:=λ_ _=>False
abbrev Ends.go (D:Ends) (n:St->Hp->Prop):Ends:={ D with nx:=n }
abbrev Ends.lp (D:Ends) (n:St->Hp->Prop):Ends:={ D with nx:=n,ct:=n,bk:=D.nx }
abbrev TS:=Ends->St->Hp->Prop
def EP (X:Cx) (pins:List (Addr×Obj)) (σ:St) (Q:VK) (u:Value) (s':Shared):Prop:=∃ v H',Inv X pins σ H' s'/\RelV v u/\Q v H'
def TP (X:Cx) (pins:List (Addr×Obj)) (σ:St) (Q:Bool->Hp->Prop) (b:Bool) (s':Shared):Prop:=∃ H',Inv X pins σ H' s'/\Q b H'
def AP (X:Cx) (pins:List (Addr×Obj)) (σ:St) (Q:List V->Hp->Prop) (us:List Value) (s':Shared):Prop:=∃ vs H',Inv X pins σ H' s'/\Vals vs us/\Q vs H'
def SP (X:Cx) (pins:List (Addr×Obj)) (D:Ends) (f:Flow) (s':Shared):Prop:=
 match f with
 | .next=>∃ σ' H',Inv X pins σ' H' s'/\D.nx σ' H'
 | .brk=>∃ σ' H',Inv X pins σ' H' s'/\D.bk σ' H'
 | .cont=>∃ σ' H',Inv X pins σ' H' s'/\D.ct σ' H'
 | .ret u=>∃ v σ' H',Inv X pins σ' H' s'/\RelV v u/\D.rt v H'
def PE (X:Cx) (e:Expr) (t:TE):Prop:=
 ∀ (pins:List (Addr×Obj)) (s:Shared) (σ:St) (H:Hp) (Q:VK),Inv X pins σ H s->t σ H Q->wpAny (model X.prog X.w) X.A (eval e X.env) (EP X pins σ Q) X.xe s
def PT (X:Cx) (e:Expr) (t:TT):Prop:=
 ∀ (pins:List (Addr×Obj)) (s:Shared) (σ:St) (H:Hp) (Q:Bool->Hp->Prop),Inv X pins σ H s->t σ H Q->wpAny (model X.prog X.w) X.A (isTrue e X.env (eval e X.env)) (TP X pins σ Q) X.xe s
def PW (X:Cx) (e:Expr) (t:TT):Prop:=
 ∀ (whole:Sem Value) (pins:List (Addr×Obj)) (s:Shared) (σ:St) (H:Hp) (Q:Bool->Hp->Prop),Inv X pins σ H s->t σ H Q->wpAny (model X.prog X.w) X.A (isTrue e X.env whole) (TP X pins σ Q) X.xe s
theorem PW.pt {X:Cx}{e:Expr}{t:TT} (h:PW X e t):PT X e t:=h _
def PA (X:Cx) (es:List Expr) (t:TA):Prop:=
 ∀ (pos:Pos) (pins:List (Addr×Obj)) (s:Shared) (σ:St) (H:Hp) (Q:List V->Hp->Prop),Inv X pins σ H s->t σ H Q->wpAny (model X.prog X.w) X.A (spliced (backTo pos (starEach es X.env))) (AP X pins σ Q) X.xe s
def PS (X:Cx) (st:Stmt) (t:TS):Prop:=
 ∀ (pins:List (Addr×Obj)) (s:Shared) (σ:St) (H:Hp) (D:Ends),Inv X pins σ H s->t D σ H->wpAny (model X.prog X.w) X.A (exec st X.env) (SP X pins D) X.xe s
def PSs (X:Cx) (st:List Stmt) (t:TS):Prop:=
 ∀ (pins:List (Addr×Obj)) (s:Shared) (σ:St) (H:Hp) (D:Ends),Inv X pins σ H s->t D σ H->wpAny (model X.prog X.w) X.A (execs st X.env) (SP X pins D) X.xe s
theorem thn {α:Type}{t:Sem α}{Q Q':α->Shared->Prop}{M:Model}{A:Around}{E:Value->Shared->Prop}{s:Shared} (h:wpAny M A t Q E s) (hQ:∀ a s,Q a s->Q' a s):wpAny M A t Q' E s:=wpAny_mono h hQ λ_ _ x=>x
end L2
namespace L2
open PySem PySem.Spec PyProof.Rows
section
variable {X:Cx}
def tVar (i:Nat):TE:=fun σ H Q=>∃ v,σ[i]?=some (some v)/\Q v H
def tC (v:V):TE:=λ_ H Q=>Q v H
theorem pe_var {i:Nat}{x:Str}{pos:Pos} (hN:X.N[i]?=some x) (hv:Vis X.env.scope x) (hd:(x == ("__debug__" : Str))=false:=by decide) (hcd:(x == ("__classdict__" : Str))=false:=by decide):PE X (.Name x pos) (tVar i):=by
 intro pins s σ H Q I h
 obtain ⟨v,e,h⟩:=h
 obtain ⟨m,hn,hl⟩:=I.loc
 obtain ⟨u,r,l⟩:=hl i x v hN e hv
 have fin:EP X pins σ Q u s:=⟨v,H,I,r,h⟩
 rcases l with ⟨hk,hm⟩ | ⟨hk,c,hc,hcell⟩
 ·exact wpAny_Name (wpAny_loadName_local I.ok.kind hk hn hm fin) hd
 ·rcases hk with hk | hk
  ·exact wpAny_Name (wpAny_loadName_cell I.ok.kind hk hc hcell fin) hd
  ·exact wpAny_Name (wpAny_loadName_free I.ok.kind hk hc hcell fin hcd) hd
theorem yz {i j pos}:PE X (.Constant (.int i) j pos) (tC (.int i)):=λ_ _ _ H _ I h=>wpAny_Constant_int ⟨.int i,H,I.tok _,⟨_,rfl⟩,h⟩
theorem pe_bl {b j pos}:PE X (.Constant (.bool b) j pos) (tC (.bl b)):=λ_ _ _ H _ I h=>Constant_bool ⟨.bl b,H,I,rfl,h⟩
theorem pe_non {j pos}:PE X (.Constant .none j pos) (tC .non):=λ_ _ _ H _ I h=>Constant_none ⟨.non,H,I,rfl,h⟩
def Gl (X:Cx) (x:Str):Prop:=X.env.kindOf x=some .globalImplicit
theorem ld_glob {E:Value->Shared->Prop}{pins:List (Addr×Obj)}{s:Shared}{σ:St}{H:Hp}{x:Str}{u:Value}{pos:Pos}{Q:Value->Shared->Prop} (I:Inv X pins σ H s) (hg:Gl X x) (hm:X.mg x=some u) (h:Q u s)
  (hd:(x == ("__debug__" : Str))=false:=by decide):wpAny (model X.prog X.w) X.A (eval (.Name x pos) X.env) Q E s:=
 Calls.Name_function_global I.ok.kind hg (Calls.loadGlobal_global (by rw [I.ok.glob];exact I.mod.glob.keeps I.bk) hm h) hd
theorem ld_blt {E:Value->Shared->Prop}{pins:List (Addr×Obj)}{s:Shared}{σ:St}{H:Hp}{x:Str}{u:Value}{pos:Pos}{Q:Value->Shared->Prop} (I:Inv X pins σ H s) (hg:Gl X x) (hm:X.mg x=none) (hv:bootBuiltins x=some u) (h:Q u s)
  (hn:x ≠ "__name__" := by decide) (hd:(x == ("__debug__" : Str))=false:=by decide):wpAny (model X.prog X.w) X.A (eval (.Name x pos) X.env) Q E s:=by
 obtain ⟨mb,h1,h2⟩:=I.mod.blt
 exact Calls.Name_function_global I.ok.kind hg (Calls.loadGlobal_builtin (by rw [I.ok.glob];exact I.mod.glob.keeps I.bk) hm (by rw [I.ok.blt];exact h1.keeps I.bk) ((h2 x hn).trans hv) h) hd
theorem pe_bltn {x:Str}{v:V}{u:Value}{pos:Pos} (hg:Gl X x) (hm:X.mg x=none) (hv:bootBuiltins x=some u) (r:RelV v u) (hn:x ≠ "__name__" := by decide) (hd:(x == ("__debug__" : Str))=false:=by decide):PE X (.Name x pos) (tC v):=
 λ_ _ _ H _ I h=>ld_blt I hg hm hv ⟨v,H,I,r,h⟩ hn hd
variable {a b:Expr}{ta tb:TE}{pos:Pos}
def PC (X:Cx) (op:CmpOp) (a b:Expr) (t:TE):Prop:=
 ∀ (pins:List (Addr×Obj)) (s:Shared) (σ:St) (H:Hp) (Q:VK),Inv X pins σ H s->t σ H Q ->
  wpAny (model X.prog X.w) X.A (eval a X.env) (λv s₁=>wpAny (model X.prog X.w) X.A (eval b X.env) (λu s₂=>wpAny (model X.prog X.w) X.A (compareOp op v u) (EP X pins σ Q) X.xe s₂) X.xe s₁) X.xe s
theorem nobehind (b:Expr) {op:CmpOp} (h:op≠.In) (h2:op≠.NotIn):behindInMarks op b=false:=by
 have e1:(op == CmpOp.In)=false:=by cases op <;> first | rfl | exact absurd rfl h
 have e2:(op == CmpOp.NotIn)=false:=by cases op <;> first | rfl | exact absurd rfl h2
 cases b <;> simp [behindInMarks,e1,e2]
def tIsN (ta:TE):TE:=fun σ H Q=>ta σ H λx H1=>Q (.bl (decide (x=.non))) H1
theorem RelV.none_iff {x:V}{v:Value} (r:RelV x v):(v == Value.none)=decide (x=.non):=by
 cases x with
 | non=>cases r;rfl
 | bl _=>cases r;rfl
 | int _=>obtain ⟨t,rfl⟩:=r;rfl
 | str _=>obtain ⟨t,rfl⟩:=r;rfl
 | byt _=>obtain ⟨t,rfl⟩:=r;rfl
 | flt _=>obtain ⟨t,rfl⟩:=r;rfl
 | ref _=>cases r;rfl
 | ty _=>cases r;rfl
theorem pc_isN {j pos'} (ha:PE X a ta):PC X .Is a (.Constant .none j pos') (tIsN ta):=by
 intro pins s σ H Q I h
 refine thn (ha pins s σ H _ I h) λv s1 ⟨x,H1,I1,r1,q1⟩=>?_
 exact Constant_none (is_none_gen ⟨.bl _,H1,I1,by rw [r1.none_iff];rfl,q1⟩)
def tB (t:TE):TT:=fun σ H Q=>t σ H λx H1=>∃ c,x=.bl c/\Q c H1
theorem pt_cmp {op:CmpOp}{t:TE} (h:PC X op a b t) (h1:behindInMarks op b=false:=by first | exact nobehind _ (by decide) (by decide) | rfl):PT X (.Compare a [op] [b] pos) (tB t):=by
 intro pins s σ H Q I hw
 refine wpAny_isTrue_Compare1 (thn (h pins s σ H _ I hw) λv s1 h1=>thn h1 λu s2 h2=>thn h2 λc s3 ⟨x,H1,I1,r1,q1⟩=>?_) h1
 obtain ⟨d,rfl,q⟩:=q1
 cases r1
 exact wpAny_truthy_bool ⟨H1,I1,q⟩
theorem xx {e:Expr}{t:TE} (h:PE X e t) (he:∀ whole,isTrue e X.env whole=(do let v <- whole;standAt e.pos;holding [v] (truthy v)):=by intro _;rfl):PT X e (tB t):=by
 intro pins s σ H Q I hw
 refine isTrue_plain (thn (h pins s σ H _ I hw) λv s1 ⟨x,H1,I1,r1,q1⟩=>?_) (he _)
 obtain ⟨d,rfl,q⟩:=q1
 cases r1
 exact wpAny_truthy_bool ⟨H1,I1,q⟩
variable {tA tB':TT}{rest:List Expr}
def tAnd (t u:TT):TT:=fun σ H Q=>t σ H λc H1=>if c=true then u σ H1 Q else Q false H1
def tOr (t u:TT):TT:=fun σ H Q=>t σ H λc H1=>if c=true then Q true H1 else u σ H1 Q
def tNot (t:TT):TT:=fun σ H Q=>t σ H λc H1=>Q (!c) H1
theorem pw_and1 (ha:PT X a tA):PW X (.BoolOp .And [a] pos) tA:=by
 intro wh pins s σ H Q I h
 refine isTrue_and (thn (ha pins s σ H Q I h) λc s1 e=>?_)
 cases c with
 | true=>exact isTrue_and_nil e
 | false=>exact e
theorem wO (ha:PT X a tA):PW X (.BoolOp .Or [a] pos) tA:=by
 intro wh pins s σ H Q I h
 refine isTrue_or (thn (ha pins s σ H Q I h) λc s1 e=>?_)
 cases c with
 | false=>exact isTrue_or_nil e
 | true=>exact e
theorem pw_and (ha:PT X a tA) (hb:PW X (.BoolOp .And (b::rest) pos) tB'):PW X (.BoolOp .And (a::b::rest) pos) (tAnd tA tB'):=by
 intro wh pins s σ H Q I h
 refine isTrue_and (thn (ha pins s σ H _ I h) λc s1 ⟨H1,I1,q1⟩=>?_)
 cases c with
 | true=>exact hb wh pins s1 σ H1 Q I1 q1
 | false=>exact ⟨H1,I1,q1⟩
theorem pw_or (ha:PT X a tA) (hb:PW X (.BoolOp .Or (b::rest) pos) tB'):PW X (.BoolOp .Or (a::b::rest) pos) (tOr tA tB'):=by
 intro wh pins s σ H Q I h
 refine isTrue_or (thn (ha pins s σ H _ I h) λc s1 ⟨H1,I1,q1⟩=>?_)
 cases c with
 | true=>exact ⟨H1,I1,q1⟩
 | false=>exact hb wh pins s1 σ H1 Q I1 q1
theorem wC (ha:PT X a tA):PT X (.UnaryOp .Not a pos) (tNot tA):=by
 intro pins s σ H Q I h
 exact isTrue_not (ha pins s σ H (λc H1=>Q (!c) H1) I h)
def tAndV (ta tb:TE):TE:=fun σ H Q=>ta σ H λx H1=>∃ c,x=.bl c/\if c=true then tb σ H1 Q else Q (.bl false) H1
def tOrV (ta tb:TE):TE:=fun σ H Q=>ta σ H λx H1=>∃ c,x=.bl c/\if c=true then Q (.bl true) H1 else tb σ H1 Q
def tNotV (ta:TE):TE:=fun σ H Q=>ta σ H λx H1=>∃ c,x=.bl c/\Q (.bl (!c)) H1
theorem pe_one {op}{t:TE} (h:PE X a t):PE X (.BoolOp op [a] pos) t:=λpins s σ H Q I hw=>BoolOp_one (h pins s σ H Q I hw)
theorem pe_and (ha:PE X a ta) (hb:PE X (.BoolOp .And (b::rest) pos) tb):PE X (.BoolOp .And (a::b::rest) pos) (tAndV ta tb):=by
 intro pins s σ H Q I h
 refine BoolOp_and (thn (ha pins s σ H _ I h) λv s1 ⟨x,H1,I1,r1,q1⟩=>?_)
 obtain ⟨c,rfl,q1⟩:=q1
 cases r1
 refine wpAny_truthy_bool ?_
 cases c with
 | true=>exact hb pins s1 σ H1 Q I1 q1
 | false=>exact ⟨.bl false,H1,I1,rfl,q1⟩
theorem pe_not (ha:PE X a ta):PE X (.UnaryOp .Not a pos) (tNotV ta):=by
 intro pins s σ H Q I h
 refine UnaryOp_ (thn (ha pins s σ H _ I h) λv s1 ⟨x,H1,I1,r1,q1⟩=>?_)
 obtain ⟨c,rfl,q1⟩:=q1
 cases r1
 exact not_of (wpAny_truthy_bool ⟨.bl (!c),H1,I1,rfl,q1⟩)
end
end L2
namespace L2
open PySem PySem.Spec PyProof.Rows
def SqL (K:PySem.W.Frag) (H:Hp) (a:Addr) (xs:List V):Prop:=
 Rd H a (.lst xs) \/
  ∃ (o:Obj) (its:Array Value) (n:Nat),K.lookup a=some o/\o.cls=.type "list" /\ o.dict=none/\o.data=.seq its n/\its.size<=sizeLine/\Vals xs its.toList
def SqT (K:PySem.W.Frag) (H:Hp) (a:Addr) (xs:List V):Prop:=
 Rd H a (.tup xs) \/
  ∃ (o:Obj) (its:Array Value) (n:Nat),K.lookup a=some o/\o.cls=.type "tuple" /\ o.data=.seq its n/\its.size<=sizeLine/\Vals xs its.toList
def absV:Value->Option V
 | .none=>some .non
 | .bool b=>some (.bl b)
 | .int i _=>some (.int i)
 | .str x _=>some (.str x)
 | .bytes b _=>some (.byt b)
 | .float b _=>some (.flt b)
 | .ref a=>some (.ref a)
 | .type n=>some (.ty n)
 | _=>none
theorem RelV.abs {x:V}{u:Value} (r:RelV x u):absV u=some x:=by
 cases x with
 | non=>cases r;rfl
 | bl _=>cases r;rfl
 | int _=>obtain ⟨t,rfl⟩:=r;rfl
 | str _=>obtain ⟨t,rfl⟩:=r;rfl
 | byt _=>obtain ⟨t,rfl⟩:=r;rfl
 | flt _=>obtain ⟨t,rfl⟩:=r;rfl
 | ref _=>cases r;rfl
 | ty _=>cases r;rfl
theorem RelV.inj {x y:V}{u:Value} (r:RelV x u) (q:RelV y u):x=y:=Option.some.inj (r.abs.symm.trans q.abs)
theorem Vals.inj:∀ {xs ys:List V}{us:List Value},Vals xs us->Vals ys us->xs=ys
 | _,_,_,.nil,.nil=>rfl
 | _,_,_,.cons r t,.cons r' t'=>by rw [r.inj r',Vals.inj t t']
section
variable {X:Cx}{pins:List (Addr×Obj)}{σ:St}{H:Hp}{s:Shared}{a:Addr}{xs ys:List V}
theorem SqL.of {K:PySem.W.Frag} (h:H a=some (.lst xs)):SqL K H a xs:=.inl (.inl h)
theorem SqT.of {K:PySem.W.Frag} (h:H a=some (.tup xs)):SqT K H a xs:=.inl (.inl h)
theorem Inv.list (I:Inv X pins σ H s) (h:SqL X.K H a xs):∃ its:List Value,Vals xs its/\PlainL s.heap a its.toArray/\xs.length<=sizeLine:=by
 rcases h with h | ⟨o,its,n,hk,hc,hd,hs,hz,r⟩
 ·obtain ⟨z,its,n,r,e⟩:=h.ok I.hok
  exact ⟨its,r,⟨_,n,e,rfl,rfl,rfl⟩,z⟩
 ·refine ⟨its.toList,r,⟨o,n,I.kIn a o hk,hc,hd,by simpa using hs⟩,?_⟩
  have e:=r.length
  simp only [Array.length_toList] at e
  omega
theorem Inv.tuple (I:Inv X pins σ H s) (h:SqT X.K H a xs):∃ its:List Value,Vals xs its/\IsTup s.heap a its.toArray/\xs.length<=sizeLine:=by
 rcases h with h | ⟨o,its,n,hk,hc,hs,hz,r⟩
 ·obtain ⟨z,its,r,p⟩:=h.ok I.hok
  exact ⟨its,r,p,z.1⟩
 ·refine ⟨its.toList,r,⟨o,I.kIn a o hk,hc,n,by simpa using hs⟩,?_⟩
  have e:=r.length
  simp only [Array.length_toList] at e
  omega
theorem Inv.list_inj (I:Inv X pins σ H s) (h:SqL X.K H a xs) (h':SqL X.K H a ys):xs=ys:=by
 obtain ⟨its,r,⟨o,n,e,_,_,d⟩,_⟩:=I.list h
 obtain ⟨its',r',⟨o',n',e',_,_,d'⟩,_⟩:=I.list h'
 rw [e] at e';cases e'
 rw [d] at d'
 injection d' with d1 _
 have:its=its':=by simpa using congrArg Array.toList d1
 subst this
 exact r.inj r'
theorem Inv.tuple_inj (I:Inv X pins σ H s) (h:SqT X.K H a xs) (h':SqT X.K H a ys):xs=ys:=by
 obtain ⟨its,r,⟨o,e,_,n,d⟩,_⟩:=I.tuple h
 obtain ⟨its',r',⟨o',e',_,n',d'⟩,_⟩:=I.tuple h'
 rw [e] at e';cases e'
 rw [d] at d'
 injection d' with d1 _
 have:its=its':=by simpa using congrArg Array.toList d1
 subst this
 exact r.inj r'
end
abbrev Cx.wish (X:Cx) (E:Value->Shared->Prop):Cx:={ X with xe:=E }
abbrev Cx.nox (X:Cx):Cx:=X.wish λ_ _=>False
theorem Cx.Ok.wish {X:Cx} (ok:X.Ok) (E:Value->Shared->Prop):(X.wish E).Ok:=
 ⟨ok.mod,ok.kind,ok.glob,ok.blt,ok.above,ok.inj,ok.has,ok.cab,ok.hd,ok.frames,ok.stk,ok.exf,ok.bs,ok.bsz,ok.noex,ok.exfs,ok.funs,ok.frf⟩
theorem Cx.Ok.unwish {X:Cx}{E:Value->Shared->Prop} (ok:(X.wish E).Ok):X.Ok:=
 ⟨ok.mod,ok.kind,ok.glob,ok.blt,ok.above,ok.inj,ok.has,ok.cab,ok.hd,ok.frames,ok.stk,ok.exf,ok.bs,ok.bsz,ok.noex,ok.exfs,ok.funs,ok.frf⟩
section
variable {X:Cx}{pins:List (Addr×Obj)}{σ:St}{H:Hp}{s:Shared}{E:Value->Shared->Prop}
theorem Inv.wish (I:Inv X pins σ H s) (E:Value->Shared->Prop):Inv (X.wish E) pins σ H s:=⟨I.ok.wish E,I.os,I.bare,I.base,I.loc,I.cell,I.free,I.freeC,I.pin,I.hok,I.len⟩
theorem Inv.unwish (I:Inv (X.wish E) pins σ H s):Inv X pins σ H s:=⟨I.ok.unwish,I.os,I.bare,I.base,I.loc,I.cell,I.free,I.freeC,I.pin,I.hok,I.len⟩
theorem SP.unwish {D:Ends}{f:Flow}{s':Shared} (h:SP (X.wish E) pins D f s'):SP X pins D f s':=by
 cases f with
 | next=>obtain ⟨σ',H',I,q⟩:=h;exact ⟨σ',H',I.unwish,q⟩
 | brk=>obtain ⟨σ',H',I,q⟩:=h;exact ⟨σ',H',I.unwish,q⟩
 | cont=>obtain ⟨σ',H',I,q⟩:=h;exact ⟨σ',H',I.unwish,q⟩
 | ret u=>obtain ⟨v,σ',H',I,r,q⟩:=h;exact ⟨v,σ',H',I.unwish,r,q⟩
theorem PSs.nox {st:List Stmt}{t:TS} (h:PSs X.nox st t):PSs X st t:=λpins s σ H D I hw=>
 wpAny_mono (h pins s σ H D (I.wish _) hw) (λ_ _ q=>q.unwish) λ_ _ z=>False.elim z
end
section
variable {X:Cx}{st:Stmt}{rest:List Stmt}{t u:TS}{e:Expr}{te:TE}{pos:Pos}
def tNext:TS:=λD σ H=>D.nx σ H
def tSeq (t u:TS):TS:=λD σ H=>t (D.go (u D)) σ H
theorem xS:PSs X [] tNext:=λ_ _ σ H _ I h=>wpAny_execs_nil ⟨σ,H,I,h⟩
theorem pss_cons (h1:PS X st t) (h2:PSs X rest u):PSs X (st::rest) (tSeq t u):=by
 intro pins s σ H D I h
 refine wpAny_execs_cons (thn (h1 pins s σ H (D.go (u D)) I h) λf s1 q=>?_)
 cases f with
 | next=>
  obtain ⟨σ',H',I',q⟩:=q
  exact h2 pins s1 σ' H' D I' q
 | ret v=>exact q
 | brk=>exact q
 | cont=>exact q
theorem pss_one (h1:PS X st t):PSs X [st] t:=by
 intro pins s σ H D I h
 refine wpAny_execs_cons (thn (h1 pins s σ H D I h) λf s1 q=>?_)
 cases f with
 | next=>exact wpAny_execs_nil q
 | ret v=>exact q
 | brk=>exact q
 | cont=>exact q
def tCont:TS:=λD σ H=>D.ct σ H
theorem ps_continue:PS X (.Continue pos) tCont:=λ_ _ σ H _ I h=>wpAny_Continue ⟨σ,H,I,h⟩
theorem Inv.quiet {pins:List (Addr×Obj)}{σ:St}{H:Hp}{s:Shared} (I:Inv X pins σ H s):interactive X.env=false:=by simp [interactive,I.ok.kind]
def tDrop (te:TE):TS:=λD σ H=>te σ H λ_ H1=>D.nx σ H1
theorem ps_expr (he:PE X e te) (hs:swapsWith e none pos.line X.env=pure false:=by rfl):PS X (.Expr e pos) (tDrop te):=by
 intro pins s σ H D I h
 exact wpAny_Expr_any (thn (he pins s σ H _ I h) λv s1 ⟨x,H1,I1,r1,q1⟩=>⟨σ,H1,I1,q1⟩) I.quiet hs
def tRet (te:TE):TS:=λD σ H=>te σ H D.rt
theorem xR (he:PE X e te):PS X (.Return (some e) pos) (tRet te):=by
 intro pins s σ H D I h
 exact wpAny_Return_some (thn (he pins s σ H _ I h) λv s1 ⟨x,H1,I1,r1,q1⟩=>⟨x,σ,H1,I1,r1,q1⟩)
def tIfS (c:TT) (t u:TS):TS:=λD σ H=>c σ H λb H1=>if b=true then t D σ H1 else u D σ H1
theorem xZ {c:Expr}{a b:List Stmt}{tc:TT} (hc:PT X c tc) (ha:PSs X a t) (hb:PSs X b u):PS X (.If c a b pos) (tIfS tc t u):=by
 intro pins s σ H D I h
 refine wpAny_If (thn (hc pins s σ H _ I h) λd s1 ⟨H1,I1,q1⟩=>?_)
 cases d with
 | true=>exact ha pins s1 σ H1 D I1 q1
 | false=>exact hb pins s1 σ H1 D I1 q1
end
abbrev TG:=V->St->Hp->(St->Hp->Prop)->Prop
abbrev TGs:=List V->St->Hp->(St->Hp->Prop)->Prop
def PG (X:Cx) (target:Expr) (t:TG):Prop:=
 ∀ (pins:List (Addr×Obj)) (s:Shared) (σ:St) (H:Hp) (v:V) (u:Value) (Q:St->Hp->Prop),Inv X pins σ H s->RelV v u->t v σ H Q ->
  wpAny (model X.prog X.w) X.A (assign target X.env u) (λ_ s'=>∃ σ' H',Inv X pins σ' H' s'/\Q σ' H') X.xe s
def PGs (X:Cx) (ts:List Expr) (t:TGs):Prop:=
 ∀ (pins:List (Addr×Obj)) (s:Shared) (σ:St) (H:Hp) (vs:List V) (us:List Value) (Q:St->Hp->Prop),Inv X pins σ H s->Vals vs us->t vs σ H Q ->
  wpAny (model X.prog X.w) X.A (assignInOrder ((assignEach ts X.env).map (·.2)) us) (λ_ s'=>∃ σ' H',Inv X pins σ' H' s'/\Q σ' H') X.xe s
abbrev TSet:=V->V->V->Hp->(Hp->Prop)->Prop
def PSet (X:Cx) (t:TSet):Prop:=
 ∀ (pins:List (Addr×Obj)) (s:Shared) (σ:St) (H:Hp) (o i v:V) (ov iv u:Value) (Q:Hp->Prop),Inv X pins σ H s->RelV o ov->RelV i iv->RelV v u->t o i v H Q ->
  wpAny (model X.prog X.w) X.A (setItem ov iv u) (λ_ s'=>∃ H',Inv X pins σ H' s'/\Q H') X.xe s
abbrev TIp:=V->V->Hp->VK->Prop
def PIp (X:Cx) (op:Operator) (t:TIp):Prop:=
 ∀ (pins:List (Addr×Obj)) (s:Shared) (σ:St) (H:Hp) (x y:V) (v u:Value) (Q:VK),Inv X pins σ H s->RelV x v->RelV y u->t x y H Q ->
  wpAny (model X.prog X.w) X.A (inplaceOp op v u) (EP X pins σ Q) X.xe s
section
variable {X:Cx}{pos:Pos}
def gName (i:Nat):TG:=λv σ H Q=>Q (σ.set i (some v)) H
theorem xC {i:Nat}{x:Str} (hN:X.N.Nodup) (hi:X.N[i]?=some x) (hx:Loc X.env.scope x) (hf:X.fn x=true\/X.env.scope.names.lookup x=some .local:=by first | exact .inl rfl | exact .inr rfl | assumption):PG X (.Name x pos) (gName i):=by
 intro pins s σ H v u Q I r h
 exact wpAny_assign_Name (store_ok I hN hi hx r (λs' I'=>⟨_,H,I',h⟩) hf)
def gNil:TGs:=λvs σ H Q=>vs=[]/\Q σ H
def gCons (t:TG) (u:TGs):TGs:=λvs σ H Q=>∃ v r,vs=v::r/\t v σ H fun σ' H'=>u r σ' H' Q
theorem xW:PGs X [] gNil:=by
 intro pins s σ H vs us Q I r h
 obtain ⟨e,h⟩:=h
 subst e
 cases r
 exact assignInOrder_nil ⟨σ,H,I,h⟩
theorem xD {e:Expr}{es:List Expr}{t:TG}{u:TGs} (h1:PG X e t) (h2:PGs X es u)
  (hs:(assignEach (e::es) X.env).map (·.2)=assign e X.env::(assignEach es X.env).map (·.2):=by rfl):PGs X (e::es) (gCons t u):=by
 intro pins s σ H vs us Q I r h
 obtain ⟨v,vr,e1,h⟩:=h
 subst e1
 cases r with
 | cons r rr=>
  rw [hs]
  refine assignInOrder_cons (thn (h1 pins s σ H _ _ _ I r h) λ_ s1 ⟨σ1,H1,I1,q1⟩=>?_)
  exact h2 pins s1 σ1 H1 _ _ Q I1 rr q1
def gTup (K:PySem.W.Frag) (n:Nat) (t:TGs):TG:=λv σ H Q=>∃ a xs,v=.ref a/\SqT K H a xs/\xs.length=n/\t xs σ H Q
theorem pg_tup {es:List Expr}{k:Nat}{t:TGs}{n:Nat} (hc:X.calm=true) (h:PGs X es t)
  (hn:(assignEach es X.env).length=n:=by rfl) (hst:(assignEach es X.env).findIdx? (·.1)=none:=by rfl):PG X (.Tuple es k pos) (gTup X.K n t):=by
 intro pins s σ H v u Q I r hw
 obtain ⟨a,xs,e1,hq,hl,hw⟩:=hw
 subst e1
 cases r
 obtain ⟨its,rv,ht,hz⟩:=I.tuple hq
 refine assign_Tuple_tuple (I.ok.hd hc) ht (by simp [hn,<- hl,rv.length]) hst λh' hx=>?_
 have I1:Inv X pins σ H { s with heap:=h' }:=I.kept (t':=s.toks) λb o e=>hx b o (zZ (Heap.lt_size e)) e
 exact h pins _ σ H xs _ Q I1 (by simpa using rv) hw
def gSub (to ti:TE) (t:TSet):TG:=λv σ H Q=>to σ H λo H1=>ti σ H1 λi H2=>t o i v H2 λH3=>Q σ H3
theorem pg_sub {o i:Expr}{to ti:TE}{t:TSet} (ho:PE X o to) (hi:PE X i ti) (hs:PSet X t)
  (ha:∀ v,assign (.Subscript o i pos) X.env v=(do
   let ov <- holding [v] (eval o X.env)
   let iv <- holding [v,ov] (eval i X.env)
   standAt pos
   holding [v,ov,iv] (setItem ov iv v)
   release [v,ov,iv] []):=by intro _;rfl):PG X (.Subscript o i pos) (gSub to ti t):=by
 intro pins s σ H v u Q I r h
 rw [ha]
 refine wpAny_bind (wpAny_holding (thn (ho pins s σ H _ I h) λov s1 ⟨x,H1,I1,r1,q1⟩=>?_))
 refine wpAny_bind (wpAny_holding (thn (hi pins s1 σ H1 _ I1 q1) λiv s2 ⟨y,H2,I2,r2,q2⟩=>?_))
 refine wpAny_bind (wpAny_standAt (wpAny_bind (wpAny_holding (thn (hs pins s2 σ H2 x y v ov iv u _ I2 r1 r2 r q2) λ_ s3 ⟨H3,I3,q3⟩=>?_))))
 exact wpAny_release ⟨σ,H3,I3,q3⟩
def tAsg (te:TE) (g:TG):TS:=λD σ H=>te σ H λx H1=>g x σ H1 D.nx
theorem xo {tg e:Expr}{te:TE}{g:TG} (he:PE X e te) (hg:PG X tg g) (hs:swapsWithSole [tg] e pos.line X.env=pure false:=by rfl) (hw:swappedStores [tg] e X.env=pure none:=by rfl)
  (h1:(assignEach [tg] X.env).map (·.2)=[assign tg X.env]:=by rfl):PS X (.Assign [tg] e pos) (tAsg te g):=by
 intro pins s σ H D I h
 refine wpAny_Assign_stores (thn (he pins s σ H _ I h) λv s1 ⟨x,H1,I1,r1,q1⟩=>?_) hs hw
 rw [h1]
 exact thn (hg pins s1 σ H1 x v _ I1 r1 q1) λ_ s2 q=>q
theorem xK {i:Nat}{x:Str}{e:Expr}{te:TE}{pos':Pos} (hN:X.N.Nodup) (hi:X.N[i]?=some x) (hx:Loc X.env.scope x) (he:PE X e te) (hs:swapsWith e (some (.Name x pos')) pos.line X.env=pure false:=by rfl) (hf:X.fn x=true\/X.env.scope.names.lookup x=some .local:=by first | exact .inl rfl | exact .inr rfl | assumption) :
  PS X (.Assign [.Name x pos'] e pos) (tAsg te (gName i)):=by
 intro pins s σ H D I h
 refine wpAny_Assign_Name (thn (he pins s σ H _ I h) λv s1 ⟨y,H1,I1,r1,q1⟩=>?_) hs
 exact store_ok I1 hN hi hx r1 (λs2 I2=>⟨_,H1,I2,q1⟩) hf
def tAugS (to ti te:TE) (tget:V->V->Hp->VK->Prop) (tip:TIp) (tset:TSet):TS:=λD σ H=>to σ H λo H1=>ti σ H1 λi H2=>tget o i H2 λx H3=>te σ H3 λy H4=>tip x y H4 λz H5=>tset o i z H5 λH6=>D.nx σ H6
def PGet (X:Cx) (t:V->V->Hp->VK->Prop):Prop:=
 ∀ (pins:List (Addr×Obj)) (s:Shared) (σ:St) (H:Hp) (o i:V) (ov iv:Value) (Q:VK),Inv X pins σ H s->RelV o ov->RelV i iv->t o i H Q ->
  wpAny (model X.prog X.w) X.A (getItem ov iv) (EP X pins σ Q) X.xe s
theorem ps_augS {o i e:Expr}{to ti te:TE}{tget:V->V->Hp->VK->Prop}{tip:TIp}{tset:TSet}{op:Operator}{tpos:Pos} (ho:PE X o to) (hi:PE X i ti) (hg:PGet X tget) (he:PE X e te) (hp:PIp X op tip) (hs:PSet X tset)
  (ha:∀ ov iv new,augStore i ov iv new=(do holding [new,ov,iv] (setItem ov iv new);release [new,ov,iv] [];pure .next):=by intros;rfl):PS X (.AugAssign (.Subscript o i tpos) op e pos) (tAugS to ti te tget tip tset):=by
 intro pins s σ H D I h
 refine wpAny_AugAssign_SubscriptAny (thn (ho pins s σ H _ I h) λov s1 ⟨x1,H1,I1,r1,q1⟩=>?_) ha
 refine thn (hi pins s1 σ H1 _ I1 q1) λiv s2 ⟨x2,H2,I2,r2,q2⟩=>?_
 refine thn (hg pins s2 σ H2 x1 x2 ov iv _ I2 r1 r2 q2) λold s3 ⟨x3,H3,I3,r3,q3⟩=>?_
 refine thn (he pins s3 σ H3 _ I3 q3) λv s4 ⟨x4,H4,I4,r4,q4⟩=>?_
 refine thn (hp pins s4 σ H4 x3 x4 old v _ I4 r3 r4 q4) λnew s5 ⟨x5,H5,I5,r5,q5⟩=>?_
 exact thn (hs pins s5 σ H5 x1 x2 x5 ov iv new _ I5 r1 r2 r5 q5) λ_ s6 ⟨H6,I6,q6⟩=>⟨σ,H6,I6,q6⟩
def ipI (f:Int->Int->Int):TIp:=λx y H Q=>∃ i j,x=.int i/\y=.int j/\Q (.int (f i j)) H
theorem ip_add:PIp X .Add (ipI λi j=>i + j):=by
 intro pins s σ H x y v u Q I r1 r2 h
 obtain ⟨i,j,e1,e2,q⟩:=h
 subst e1;subst e2
 obtain ⟨t,rfl⟩:=r1
 obtain ⟨t',rfl⟩:=r2
 exact iadd_int ⟨.int _,H,I.tok _,⟨_,rfl⟩,q⟩
end
section
variable {X:Cx}{pos:Pos}
end
structure It where
 go:Nat->Hp->Prop
 yld:Nat->Hp->V->Hp->Prop
 stop:Nat->Hp->Prop
def FpOk (X:Cx) (pins:List (Addr×Obj)) (H:Hp) (b:Addr):Prop:=
 H b=none/\b≠X.env.locals/\b ∉ X.fs/\(b∈X.ex\/X.s₀.heap.objs.size<=b)/\(∀ x c,X.env.cells.lookup x=some c->c≠b)/\∀ p∈X.pn++pins,p.1≠b
theorem Inv.fpOk {X:Cx}{pins:List (Addr×Obj)}{σ:St}{H H':Hp}{s:Shared}{b:Addr} (I:Inv X pins σ H s) (hb:s.heap.objs.size<=b) (hn:H' b=none):FpOk X pins H' b:=by
 refine ⟨hn,yE (zU I.lt hb),I.nofs hb,.inr (zm I.sz hb),λx c e z=>?_,λp hp z=>?_⟩
 ·obtain ⟨v,q⟩:=I.cell x c e
  exact absurd (zU q.lt (by rw [z];exact hb)) (zp _)
 ·exact absurd (zU (Heap.lt_size (I.pin p hp).1) (by rw [z];exact hb)) (zp _)
structure Turn (P:Program) (w:World) (K:PySem.W.Frag) (tg:Expr) (J:It) (fp:List Addr) (it:Addr) (tn:Nat->Heap->Prop):Prop where
 mem:it∈fp
 obj:∀ i h,tn i h->∀ b∈fp,∃ o,h.get? b=some o/\∀ v,o.data≠.cell v
 keep:∀ i h h',tn i h->(∀ b∈fp,∀ o,h.get? b=some o->h'.get? b=some o)->tn i h'
 item:∀ (X:Cx),X.prog=P->X.w=w->X.K=K->X.calm=true->∀ (i:Nat) (pins:List (Addr×Obj)) (s:Shared) (σ:St) (H:Hp) (E:Value->Shared->Prop),Inv X pins σ H s->(∀ b∈fp,FpOk X pins H b)->tn i s.heap->J.go i H ->
  wpAny (model P w) X.A (pyNext (.ref it)) (λr s1=>∃ u,r=some u /\
   wpAny (model P w) X.A (letOwnedTupleGo tg (.ref it) u) (λ_ s2=>∃ x H',Inv X pins σ H' s2/\RelV x u/\J.yld i H x H'/\tn (i + 1) s2.heap/\∀ b∈fp,H' b=none) E s1) E s
 done:∀ (X:Cx),X.prog=P->X.w=w->X.K=K->X.calm=true->∀ (i:Nat) (pins:List (Addr×Obj)) (s:Shared) (σ:St) (H:Hp) (E:Value->Shared->Prop),Inv X pins σ H s->(∀ b∈fp,FpOk X pins H b)->tn i s.heap->J.stop i H ->
  wpAny (model P w) X.A (pyNext (.ref it)) (λr s1=>r=none/\Inv X pins σ H s1) E s
 self:∀ (A:Around) (i:Nat) (s:Shared) (Q:Value->Shared->Prop) (E:Value->Shared->Prop),tn i s.heap->Q (.ref it) s->wpAny (model P w) A (pyIter (.ref it)) Q E s
abbrev TI:=St->Hp->(It->Hp->Prop)->Prop
def PIE (X:Cx) (pins:List (Addr×Obj)) (σ:St) (tg:Expr) (R:It->Hp->Prop) (itv:Value) (s2:Shared):Prop:=
 ∃ (it:Addr) (fp:List Addr) (tn:Nat->Heap->Prop) (J:It) (H':Hp),itv=.ref it/\Inv X pins σ H' s2/\Turn X.prog X.w X.K tg J fp it tn/\tn 0 s2.heap/\(∀ b∈fp,FpOk X pins H' b)/\R J H'
def PI (X:Cx) (tg iter:Expr) (wi:TI):Prop:=
 ∀ (pins:List (Addr×Obj)) (s:Shared) (σ:St) (H:Hp) (R:It->Hp->Prop),Inv X pins σ H s->wi σ H R ->
  wpAny (model X.prog X.w) X.A (eval iter X.env) (λv s1=>wpAny (model X.prog X.w) X.A (pyIter v) (PIE X pins σ tg R) X.xe s1) X.xe s
theorem go_of {M:Model}{A:Around}{E:Value->Shared->Prop}{s:Shared}{tg:Expr}{it:Addr}{u:Value}{o:Obj}{n:String}{vs:Array Value}{Q:Unit->Shared->Prop} (ho:s.heap.get? it=some o) (hc:o.cls=.type n) (hd:o.data=.fields vs)
    (hn:["enumerate", "zip", "dict_itemiterator", "dict_reverseitemiterator", "odict_iterator", "itertools.zip_longest", "itertools.pairwise"].contains n=false) (hQ:Q () s):wpAny M A (letOwnedTupleGo tg (.ref it) u) Q E s:=by
  unfold letOwnedTupleGo
  cases tg <;> first
    | exact wpAny_pure hQ
    | (cases u <;> first
        | exact wpAny_pure hQ
        | (refine wpAny_bind (wpAny_load ho ?_)
           rw [hc,hd]
           show wpAny M A (if (["enumerate", "zip", "dict_itemiterator", "dict_reverseitemiterator", "odict_iterator", "itertools.zip_longest", "itertools.pairwise"].contains n && vs[0]? == some (rawInt _))=true then _ else _) Q E s
           rw [if_neg (by intro h;rw [hn,yK] at h;cases h)]
           exact wpAny_pure hQ))
def Itl (K:PySem.W.Frag) (a:Addr):It:=
 ⟨λi H=>∃ xs x,SqL K H a xs/\xs[i]?=some x,λi H x H'=>H'=H/\∀ xs,SqL K H a xs->xs[i]?=some x,λi H=>∃ xs,SqL K H a xs/\xs.length<=i⟩
def Itt (K:PySem.W.Frag) (a:Addr):It:=
 ⟨λi H=>∃ xs x,SqT K H a xs/\xs[i]?=some x,λi H x H'=>H'=H/\∀ xs,SqT K H a xs->xs[i]?=some x,λi H=>∃ xs,SqT K H a xs/\xs.length<=i⟩
def Itr (lo:Int) (n:Nat):It:=⟨λi _=>i < n,λi H x H'=>H'=H/\x=.int (lo + i),λi _=>n<=i⟩
theorem turn_list {P:Program}{w:World}{K:PySem.W.Frag}{tg:Expr} (a it:Addr):Turn P w K tg (Itl K a) [it] it (λi h=>h.IsListIter it a i) where
 mem:=by simp
 obj:=λi h st b hb=>by
  have e:b=it:=by simpa using hb
  subst e
  obtain ⟨o,e,c,d⟩:=st
  exact ⟨o,e,λv z=>by rw [d] at z;cases z⟩
 keep:=λi h h' st k=>st.at λo e=>k it (by simp) o e
 item:=by
  intro X hP hw hK hc i pins s σ H E I hf st hg
  subst hP hw hK
  obtain ⟨xs,x,hq,hx⟩:=hg
  obtain ⟨its,rv,p,hz⟩:=I.list hq
  obtain ⟨u,hu,ru⟩:=rv.get hx
  obtain ⟨f0,f1,f2,f3,f4,f5⟩:=hf it (by simp)
  refine wpAny_pyNext_list_item st p.isList (x:=u) (by simpa using hu) λh' st' sb=>?_
  have I1:Inv X pins σ H { s with heap:=h' }:=I.turned (t':=s.toks) (λb o hb e=>(sb.2 b hb).trans e) f0 f1 f3 f4 f5
  obtain ⟨o,e,c,d⟩:=id st'
  exact ⟨u,rfl,go_of (s:={ s with heap:=h' }) e c d (by decide) ⟨x,H,I1,ru,⟨rfl,λys hy=>by rw [I.list_inj hy hq];exact hx⟩,st',λb hb=>(hf b hb).1⟩⟩
 done:=by
  intro X hP hw hK hc i pins s σ H E I hf st hg
  subst hP hw hK
  obtain ⟨xs,hq,hx⟩:=hg
  obtain ⟨its,rv,p,hz⟩:=I.list hq
  obtain ⟨f0,f1,f2,f3,f4,f5⟩:=hf it (by simp)
  have hl:=rv.length
  exact wpAny_pyNext_list_end (I.ok.hd hc) st p.isList (by simp;omega) λh' eb=>⟨rfl,I.turned (t':=s.toks) (λb o hb e=>eb b o hb e) f0 f1 f3 f4 f5⟩
 self:=λ_ _ _ _ _ st h=>wpAny_pyIter_listiter st h
theorem turn_tuple {P:Program}{w:World}{K:PySem.W.Frag}{tg:Expr} (a it:Addr):Turn P w K tg (Itt K a) [it] it (λi h=>h.IsTupleIter it a i) where
 mem:=by simp
 obj:=λi h st b hb=>by
  have e:b=it:=by simpa using hb
  subst e
  obtain ⟨o,e,c,d⟩:=st
  exact ⟨o,e,λv z=>by rw [d] at z;cases z⟩
 keep:=λi h h' st k=>st.at λo e=>k it (by simp) o e
 item:=by
  intro X hP hw hK hc i pins s σ H E I hf st hg
  subst hP hw hK
  obtain ⟨xs,x,hq,hx⟩:=hg
  obtain ⟨its,rv,p,hz⟩:=I.tuple hq
  obtain ⟨u,hu,ru⟩:=rv.get hx
  obtain ⟨f0,f1,f2,f3,f4,f5⟩:=hf it (by simp)
  refine wpAny_pyNext_tuple_item st (show s.heap.IsTuple a its.toArray from p) (x:=u) (by simpa using hu) λh' st' sb=>?_
  have I1:Inv X pins σ H { s with heap:=h' }:=I.turned (t':=s.toks) (λb o hb e=>(sb.2 b hb).trans e) f0 f1 f3 f4 f5
  obtain ⟨o,e,c,d⟩:=id st'
  exact ⟨u,rfl,go_of (s:={ s with heap:=h' }) e c d (by decide) ⟨x,H,I1,ru,⟨rfl,λys hy=>by rw [I.tuple_inj hy hq];exact hx⟩,st',λb hb=>(hf b hb).1⟩⟩
 done:=by
  intro X hP hw hK hc i pins s σ H E I hf st hg
  subst hP hw hK
  obtain ⟨xs,hq,hx⟩:=hg
  obtain ⟨its,rv,p,hz⟩:=I.tuple hq
  obtain ⟨f0,f1,f2,f3,f4,f5⟩:=hf it (by simp)
  have hl:=rv.length
  exact wpAny_pyNext_tuple_end (I.ok.hd hc) st (show s.heap.IsTuple a its.toArray from p) (by simp;omega) λh' eb=>⟨rfl,I.turned (t':=s.toks) (λb o hb e=>eb b o hb e) f0 f1 f3 f4 f5⟩
 self:=λ_ _ _ _ _ st h=>wpAny_pyIter_tupleiter st h
theorem turn_range {P:Program}{w:World}{K:PySem.W.Frag}{tg:Expr} (it:Addr) (lo:Int) (n:Nat):Turn P w K tg (Itr lo n) [it] it (λi h=>IsRangeIter h it (lo + (i:Nat) * 1) ((n:Int) - (i:Nat)) 1) where
 mem:=by simp
 obj:=λi h st b hb=>by
  have e:b=it:=by simpa using hb
  subst e
  exact ⟨_,st,λv z=>by
   have z':Data.fields _=Data.cell v:=z
   cases z'⟩
 keep:=λi h h' st k=>k it (by simp) _ st
 item:=by
  intro X hP hw hK hc i pins s σ H E I hf st hg
  subst hP hw hK
  obtain ⟨f0,f1,f2,f3,f4,f5⟩:=hf it (by simp)
  have W:=Walks.range (prog:=X.prog) (w:=X.w) (I.ok.hd hc) it lo 1 n
  refine W.item i s _ _ hg st λv h' tk hv st' kk=>?_
  obtain ⟨t,rfl⟩:=hv
  have I1:Inv X pins σ H { s with heap:=h',toks:=tk }:=I.turned (λb o hb e=>kk b o (by simpa using hb) e) f0 f1 f3 f4 f5
  refine ⟨_,rfl,go_of (s:={ s with heap:=h',toks:=tk }) (n := "range_iterator") st' rfl rfl (by decide) ⟨.int (lo + i),H,I1,⟨t,?_⟩,⟨rfl,rfl⟩,st',λb hb=>(hf b hb).1⟩⟩
  rw [Int.mul_one]
 done:=by
  intro X hP hw hK hc i pins s σ H E I hf st hg
  subst hP hw hK
  obtain ⟨f0,f1,f2,f3,f4,f5⟩:=hf it (by simp)
  exact wpAny_pyNext_range_end (I.ok.hd hc) st (by have:n<=i:=hg;omega) λh' eb=>⟨rfl,I.turned (t':=s.toks) (λb o hb e=>eb b o hb e) f0 f1 f3 f4 f5⟩
 self:=λ_ _ _ _ _ st h=>wpAny_pyIter_rangeiter st h
end L2
namespace L2
open PySem PySem.Spec PyProof.Rows
section
variable {X:Cx}{tg:Expr}
def iList (K:PySem.W.Frag) (tl:TE):TI:=fun σ H R=>tl σ H λx H1=>∃ a,x=.ref a/\(∃ xs,SqL K H1 a xs)/\R (Itl K a) H1
def iTup (K:PySem.W.Frag) (tl:TE):TI:=fun σ H R=>tl σ H λx H1=>∃ a,x=.ref a/\(∃ xs,SqT K H1 a xs)/\R (Itt K a) H1
theorem pi_list {l:Expr}{tl:TE} (hl:PE X l tl):PI X tg l (iList X.K tl):=by
 intro pins s σ H R I h
 refine thn (hl pins s σ H _ I h) λv s1 ⟨x,H1,I1,r1,q1⟩=>?_
 obtain ⟨a,e,⟨xs,hq⟩,q⟩:=q1
 subst e
 cases r1
 obtain ⟨its,rv,p,hz⟩:=I1.list hq
 refine wpAny_pyIter_list p.isList ?_
 refine ⟨s1.heap.objs.size,[s1.heap.objs.size],_,_,H1,rfl,I1.kept (t':=s1.toks) λb o e=>Heap.get?_push_of_some _ e,turn_list a _,⟨_,Heap.get?_push_size _ rfl,rfl,rfl⟩,λb hb=>?_,q⟩
 have e:b=s1.heap.objs.size:=by simpa using hb
 subst e
 exact I1.fpOk (zF _) (I1.hok.fresh (zF _))
theorem pi_tup {l:Expr}{tl:TE} (hl:PE X l tl):PI X tg l (iTup X.K tl):=by
 intro pins s σ H R I h
 refine thn (hl pins s σ H _ I h) λv s1 ⟨x,H1,I1,r1,q1⟩=>?_
 obtain ⟨a,e,⟨xs,hq⟩,q⟩:=q1
 subst e
 cases r1
 obtain ⟨its,rv,p,hz⟩:=I1.tuple hq
 refine wpAny_pyIter_tuple (show s1.heap.IsTuple a its.toArray from p) ?_
 refine ⟨s1.heap.objs.size,[s1.heap.objs.size],_,_,H1,rfl,I1.kept (t':=s1.toks) λb o e=>Heap.get?_push_of_some _ e,turn_tuple a _,⟨_,Heap.get?_push_size _ rfl,rfl,rfl⟩,λb hb=>?_,q⟩
 have e:b=s1.heap.objs.size:=by simpa using hb
 subst e
 exact I1.fpOk (zF _) (I1.hok.fresh (zF _))
theorem range_it {pins:List (Addr×Obj)}{σ:St}{H:Hp}{s:Shared}{R:It->Hp->Prop}{E:Value->Shared->Prop}{lo hi:Int}{t u v:Tok}{tk:Nat} (I:Inv X pins σ H s) (h1:-(2 ^ 62)<=lo) (h2:lo < 2 ^ 62) (h3:-(2 ^ 62)<=hi) (h4:hi < 2 ^ 62)
  (q:R (Itr lo (hi - lo).toNat) H):wpAny (model X.prog X.w) X.A (pyIter (.ref s.heap.objs.size)) (PIE X pins σ tg R) E { s with heap:=s.heap.push { cls:=.type "range", data:=.fields #[.int lo t,.int hi u,.int 1 v] },toks:=tk }:=by
 refine wpAny_pyIter_range (IsRange.new ..) (small_one h1 h2 h3 h4) ?_
 have I1:Inv X pins σ H { s with heap:=s.heap.push { cls:=.type "range", data:=.fields #[.int lo t,.int hi u,.int 1 v] },toks:=tk }:=I.kept λb o e=>Heap.get?_push_of_some _ e
 refine ⟨(s.heap.push { cls:=.type "range", data:=.fields #[.int lo t,.int hi u,.int 1 v] }).objs.size,[(s.heap.push { cls:=.type "range", data:=.fields #[.int lo t,.int hi u,.int 1 v] }).objs.size],_,_,H,rfl,
  I1.kept (t':=tk) λb o e=>Heap.get?_push_of_some _ e,turn_range _ lo (hi - lo).toNat,?_,λb hb=>?_,q⟩
 ·have e1:lo + ((0:Nat):Int) * 1=lo:=by simp
  have e2:(((hi - lo).toNat:Nat):Int) - ((0:Nat):Int)=Builtin.Range.rangeSize lo hi 1:=by rw [rangeSize_one];split <;> omega
  show IsRangeIter _ _ (lo + ((0:Nat):Int) * 1) ((((hi - lo).toNat:Nat):Int) - ((0:Nat):Int)) 1
  rw [e1,e2]
  exact Heap.get?_push_size _ rfl
 ·have e:b=(s.heap.push { cls:=.type "range", data:=.fields #[.int lo t,.int hi u,.int 1 v] }).objs.size:=by simpa using hb
  subst e
  exact I1.fpOk (zF _) (I1.hok.fresh (zF _))
def iRng1 (ta:TA):TI:=fun σ H R=>ta σ H λvs H1=>∃ j:Int,vs=[.int j]/\-(2 ^ 62)<=j/\j < 2 ^ 62/\R (Itr 0 j.toNat) H1
theorem wM {a:Expr}{ta:TA}{p pos:Pos} (hg:Gl X "range") (hm:X.mg "range" = none) (ha:PA X [a] ta) (hs:starEach [a] X.env=[(false,eval a X.env)]:=by rfl):PI X tg (.Call (.Name "range" p) [a] [] pos) (iRng1 ta):=by
 intro pins s σ H R I h
 refine Call_ (ld_blt I hg hm boot_range (yJ (thn (ha pos pins s σ H _ I h) λus s1 ⟨vs,H1,I1,r1,q1⟩=>?_) hs rfl))
 obtain ⟨j,e,q1,q2,q⟩:=q1
 subst e
 cases r1 with
 | cons r rr=>
  cases rr
  obtain ⟨t,rfl⟩:=r
  exact call_range_1 (range_it I1 (by omega) (by omega) q1 q2 (by simpa using q))
def tFor (wi:TI) (g:TG) (tb:TS):TS:=λD σ H=>wi σ H λJ H1=>∃ W:Nat->Nat->St->Hp->Prop,(∃ m,W 0 m σ H1)/\∀ i m σ H,W i m σ H ->
 (J.stop i H/\D.nx σ H)\/(J.go i H/\∃ N:St->Hp->Prop,(∀ σ' H',N σ' H'->∃ m',m' < m/\W (i + 1) m' σ' H')/\∀ x H',J.yld i H x H'->g x σ H' fun σ2 H2=>tb (D.lp N) σ2 H2)
def pinsAt (fp:List Addr) (h:Heap):List (Addr×Obj):=fp.filterMap λb=>(h.get? b).map λo=>(b,o)
theorem xy {fp:List Addr}{h:Heap}{b:Addr}{o:Obj} (hb:b∈fp) (e:h.get? b=some o):(b,o)∈pinsAt fp h:=yX.mpr ⟨b,hb,by rw [e];rfl⟩
theorem of_pinsAt {fp:List Addr}{h:Heap}{p:Addr×Obj} (hp:p∈pinsAt fp h):p.1∈fp/\h.get? p.1=some p.2:=by
 obtain ⟨b,hb,e⟩:=yX.mp hp
 cases q:h.get? b with
 | none=>rw [q] at e;cases e
 | some o=>
  rw [q] at e
  have e':(b,o)=p:=Option.some.inj e
  subst e'
  exact ⟨hb,q⟩
theorem Inv.pinned {pins:List (Addr×Obj)}{σ:St}{H:Hp}{s:Shared}{fp:List Addr} (I:Inv X pins σ H s) (hf:∀ b∈fp,FpOk X pins H b) (ho:∀ b∈fp,∃ o,s.heap.get? b=some o/\∀ v,o.data≠.cell v):Inv X (pins++pinsAt fp s.heap) σ H s:=
 I.pins_of λp hp=>(zV.mp hp).elim (λz=>I.pin p (zJ _ z)) λz=>by
  obtain ⟨hb,e⟩:=of_pinsAt z
  obtain ⟨f0,f1,f2,_⟩:=hf p.1 hb
  obtain ⟨o,e',d⟩:=ho p.1 hb
  rw [e] at e';cases e'
  exact ⟨e,f0,f1,f2,d⟩
theorem Inv.unpinned {pins pl:List (Addr×Obj)}{σ:St}{H:Hp}{s:Shared} (I:Inv X (pins++pl) σ H s):Inv X pins σ H s:=I.pins_of λp hp=>I.pin p (zJ _ (yI _ hp))
theorem ps_for {iter:Expr}{body:List Stmt}{wi:TI}{g:TG}{tb:TS}{pos:Pos} (hp:PassesOwn (model X.prog X.w) X.A X.env X.xe) (hc:X.calm=true) (hi:PI X tg iter wi) (hg:PG X tg g) (hb:PSs X body tb)
  (hs:∀ x,foldedSetIterable iter X.env x=pure x:=by intro _;rfl):PS X (.For tg iter body [] pos) (tFor wi g tb):=by
 intro pins s σ H D I h
 refine wpAny_For (thn (hi pins s σ H _ I h) λv s1 h1=>thn h1 λitv s2 h2=>?_) hs
 obtain ⟨it,fp,tn,J,H2,e,I2,T,st2,f2,W,⟨m0,w0⟩,turn⟩:=h2
 subst e
 -- what stays true of the iterator's objects through the loop
 have stat:∀ {H':Hp},(∀ b∈fp,H' b=none)->∀ b∈fp,FpOk X pins H' b:=λhn b hb=>⟨hn b hb,(f2 b hb).2⟩
 refine codeAny_forLoop_any (λn s'=>∃ i σ' H',Inv X pins σ' H' s'/\tn i s'.heap/\(∀ b∈fp,H' b=none)/\W i n σ' H') ?_ m0 ⟨0,σ,H2,I2,st2,λb hb=>(f2 b hb).1,w0⟩
 rintro n s3 ⟨i,σ3,H3,I3,st3,fr3,w3⟩
 rcases turn i n σ3 H3 w3 with ⟨stop,qn⟩ | ⟨go,N,hN,step⟩
 ·refine wpAny_passesOwn hp (thn (T.done X rfl rfl rfl hc i pins s3 σ3 H3 X.xe I3 (stat fr3) st3 stop) λr s4 ⟨hr,I4⟩=>?_)
  subst hr
  exact wpAny_execs_nil ⟨σ3,H3,I4,qn⟩
 ·refine wpAny_passesOwn hp (thn (T.item X rfl rfl rfl hc i pins s3 σ3 H3 X.xe I3 (stat fr3) st3 go) λr s4 ⟨u,hr,h4⟩=>?_)
  subst hr
  refine wpAny_passesOwn hp (thn h4 λ_ s5 ⟨x,H5,I5,r5,y5,st5,fr5⟩=>?_)
  have I5':=I5.pinned (stat fr5) (T.obj _ _ st5)
  refine wpAny_passesOwn hp (thn (hg _ s5 σ3 H5 x u _ I5' r5 (step x H5 y5)) λ_ s6 ⟨σ6,H6,I6,q6⟩=>?_)
  refine wpAny_passesOwn hp (thn (hb _ s6 σ6 H6 _ I6 q6) λf s7 q7=>?_)
  have again:∀ {σ7:St} {H7:Hp},Inv X (pins++pinsAt fp s5.heap) σ7 H7 s7->N σ7 H7->∃ m,m < n/\∃ i σ' H',Inv X pins σ' H' s7/\tn i s7.heap/\(∀ b∈fp,H' b=none)/\W i m σ' H':=λ{σ7 H7} I7 n7=>by
   obtain ⟨m',hm,w7⟩:=hN σ7 H7 n7
   refine ⟨m',hm,i + 1,σ7,H7,I7.unpinned,T.keep _ _ _ st5 λb hb o e=>(I7.pin (b,o) (zJ _ (zJ _ (xy hb e)))).1,λb hb=>?_,w7⟩
   obtain ⟨o,e,d⟩:=T.obj _ _ st5 b hb
   exact (I7.pin (b,o) (zJ _ (zJ _ (xy hb e)))).2.1
  cases f with
  | next=>obtain ⟨σ7,H7,I7,n7⟩:=q7;exact again I7 n7
  | cont=>obtain ⟨σ7,H7,I7,n7⟩:=q7;exact again I7 n7
  | brk=>obtain ⟨σ7,H7,I7,q7⟩:=q7;exact ⟨σ7,H7,I7.unpinned,q7⟩
  | ret v=>obtain ⟨x7,σ7,H7,I7,r7,q7⟩:=q7;exact ⟨x7,σ7,H7,I7.unpinned,r7,q7⟩
end
theorem for_list {K:PySem.W.Frag}{a:Addr}{xs:List V}{g:TG}{tb:TS}{D:Ends}{σ:St}{H:Hp} (Pv:Nat->St->Hp->Prop) (h0:Pv 0 σ H) (hl:∀ i σ H,i<=xs.length->Pv i σ H->SqL K H a xs)
  (hs:∀ i x σ H,xs[i]?=some x->Pv i σ H->g x σ H fun σ2 H2=>tb (D.lp (Pv (i + 1))) σ2 H2) (hd:∀ σ H,Pv xs.length σ H->D.nx σ H) :
  ∃ W:Nat->Nat->St->Hp->Prop,(∃ m,W 0 m σ H)/\∀ i m σ H,W i m σ H ->
   ((Itl K a).stop i H/\D.nx σ H)\/((Itl K a).go i H/\∃ N:St->Hp->Prop,(∀ σ' H',N σ' H'->∃ m',m' < m/\W (i + 1) m' σ' H')/\∀ x H',(Itl K a).yld i H x H'->g x σ H' fun σ2 H2=>tb (D.lp N) σ2 H2):=by
 refine ⟨λi m σ H=>m=xs.length - i/\i<=xs.length/\Pv i σ H,⟨xs.length,by simp,zg _,h0⟩,?_⟩
 rintro i m σ H ⟨rfl,hi,p⟩
 have q:=hl i σ H hi p
 by_cases hlt:i < xs.length
 ·refine .inr ⟨⟨xs,xs[i],q,by simp [hlt]⟩,Pv (i + 1),fun σ' H' p'=>⟨xs.length - (i + 1),by omega,rfl,hlt,p'⟩,λx H' y=>?_⟩
  obtain ⟨e,y⟩:=y
  subst e
  exact hs i x σ _ (y xs q) p
 ·have e:i=xs.length:=by omega
  subst e
  exact .inl ⟨⟨xs,q,zF _⟩,hd σ H p⟩
theorem for_tup {K:PySem.W.Frag}{a:Addr}{xs:List V}{g:TG}{tb:TS}{D:Ends}{σ:St}{H:Hp} (Pv:Nat->St->Hp->Prop) (h0:Pv 0 σ H) (hl:∀ i σ H,i<=xs.length->Pv i σ H->SqT K H a xs)
  (hs:∀ i x σ H,xs[i]?=some x->Pv i σ H->g x σ H fun σ2 H2=>tb (D.lp (Pv (i + 1))) σ2 H2) (hd:∀ σ H,Pv xs.length σ H->D.nx σ H) :
  ∃ W:Nat->Nat->St->Hp->Prop,(∃ m,W 0 m σ H)/\∀ i m σ H,W i m σ H ->
   ((Itt K a).stop i H/\D.nx σ H)\/((Itt K a).go i H/\∃ N:St->Hp->Prop,(∀ σ' H',N σ' H'->∃ m',m' < m/\W (i + 1) m' σ' H')/\∀ x H',(Itt K a).yld i H x H'->g x σ H' fun σ2 H2=>tb (D.lp N) σ2 H2):=by
 refine ⟨λi m σ H=>m=xs.length - i/\i<=xs.length/\Pv i σ H,⟨xs.length,by simp,zg _,h0⟩,?_⟩
 rintro i m σ H ⟨rfl,hi,p⟩
 have q:=hl i σ H hi p
 by_cases hlt:i < xs.length
 ·refine .inr ⟨⟨xs,xs[i],q,by simp [hlt]⟩,Pv (i + 1),fun σ' H' p'=>⟨xs.length - (i + 1),by omega,rfl,hlt,p'⟩,λx H' y=>?_⟩
  obtain ⟨e,y⟩:=y
  subst e
  exact hs i x σ _ (y xs q) p
 ·have e:i=xs.length:=by omega
  subst e
  exact .inl ⟨⟨xs,q,zF _⟩,hd σ H p⟩
theorem for_range {lo:Int}{n:Nat}{g:TG}{tb:TS}{D:Ends}{σ:St}{H:Hp} (Pv:Nat->St->Hp->Prop) (h0:Pv 0 σ H)
  (hs:∀ i σ H,i < n->Pv i σ H->g (.int (lo + i)) σ H fun σ2 H2=>tb (D.lp (Pv (i + 1))) σ2 H2) (hd:∀ σ H,Pv n σ H->D.nx σ H) :
  ∃ W:Nat->Nat->St->Hp->Prop,(∃ m,W 0 m σ H)/\∀ i m σ H,W i m σ H ->
   ((Itr lo n).stop i H/\D.nx σ H)\/((Itr lo n).go i H/\∃ N:St->Hp->Prop,(∀ σ' H',N σ' H'->∃ m',m' < m/\W (i + 1) m' σ' H')/\∀ x H',(Itr lo n).yld i H x H'->g x σ H' fun σ2 H2=>tb (D.lp N) σ2 H2):=by
 refine ⟨λi m σ H=>m=n - i/\i<=n/\Pv i σ H,⟨n,by simp,zg _,h0⟩,?_⟩
 rintro i m σ H ⟨rfl,hi,p⟩
 by_cases hlt:i < n
 ·refine .inr ⟨hlt,Pv (i + 1),fun σ' H' p'=>⟨n - (i + 1),by omega,rfl,hlt,p'⟩,λx H' y=>?_⟩
  obtain ⟨e,y⟩:=y
  subst e y
  exact hs i σ _ hlt p
 ·have e:i=n:=by omega
  subst e
  exact .inl ⟨zF _,hd σ H p⟩
end L2
namespace L2
open PySem PySem.Spec PyProof.Rows
abbrev R2:=V->V->Hp->VK->Prop
def OpR (X:Cx) (f:Value->Value->Sem Value) (r:R2):Prop:=
 ∀ (pins:List (Addr×Obj)) (s:Shared) (σ:St) (H:Hp) (x y:V) (v u:Value) (Q:VK),Inv X pins σ H s->RelV x v->RelV y u->r x y H Q ->
  wpAny (model X.prog X.w) X.A (f v u) (EP X pins σ Q) X.xe s
def UnR (X:Cx) (f:Value->Sem Value) (r:V->Hp->VK->Prop):Prop:=
 ∀ (pins:List (Addr×Obj)) (s:Shared) (σ:St) (H:Hp) (x:V) (v:Value) (Q:VK),Inv X pins σ H s->RelV x v->r x H Q ->
  wpAny (model X.prog X.w) X.A (f v) (EP X pins σ Q) X.xe s
def CallR (X:Cx) (f:Value) (r:List V->Hp->VK->Prop):Prop:=
 ∀ (pins:List (Addr×Obj)) (s:Shared) (σ:St) (H:Hp) (xs:List V) (us:List Value) (Q:VK),Inv X pins σ H s->Vals xs us->r xs H Q ->
  wpAny (model X.prog X.w) X.A (call f us) (EP X pins σ Q) X.xe s
def tOp (r:R2) (ta tb:TE):TE:=fun σ H Q=>ta σ H λx H1=>tb σ H1 λy H2=>r x y H2 Q
def tUn (r:V->Hp->VK->Prop) (ta:TE):TE:=fun σ H Q=>ta σ H λx H1=>r x H1 Q
def rI (C:Int->Int->Prop) (g:Int->Int->V):R2:=λx y H Q=>∃ i j,x=.int i/\y=.int j/\C i j/\Q (g i j) H
def rI0 (g:Int->Int->V):R2:=λx y H Q=>∃ i j,x=.int i/\y=.int j/\Q (g i j) H
def rU (g:Int->V):V->Hp->VK->Prop:=λx H Q=>∃ i,x=.int i/\Q (g i) H
section
variable {X:Cx}{a b c:Expr}{ta tb tc:TE}{pos:Pos}
theorem binT (ha:PE X a ta) (hb:PE X b tb) {pins:List (Addr×Obj)}{s:Shared}{σ:St}{H:Hp}{R:V->V->Hp->Prop} (I:Inv X pins σ H s)
  (h:ta σ H λx H1=>tb σ H1 λy H2=>R x y H2) {Q:Value->Shared->Prop}{f:Value->Value->Sem Value}
  (hf:∀ v u s2 x y H2,Inv X pins σ H2 s2->RelV x v->RelV y u->R x y H2->wpAny (model X.prog X.w) X.A (f v u) Q X.xe s2) :
  wpAny (model X.prog X.w) X.A (eval a X.env) (λv s₁=>wpAny (model X.prog X.w) X.A (eval b X.env) (λu s₂=>wpAny (model X.prog X.w) X.A (f v u) Q X.xe s₂) X.xe s₁) X.xe s:=by
 refine thn (ha pins s σ H _ I h) λv s1 ⟨x,H1,I1,r1,q1⟩=>?_
 refine thn (hb pins s1 σ H1 _ I1 q1) λu s2 ⟨y,H2,I2,r2,q2⟩=>?_
 exact hf v u s2 x y H2 I2 r1 r2 q2
theorem xN {op:Operator}{r:R2} (ho:OpR X (binaryOp op) r) (ha:PE X a ta) (hb:PE X b tb):PE X (.BinOp a op b pos) (tOp r ta tb):=by
 intro pins s σ H Q I h
 exact wpAny_BinOp (binT ha hb I h λv u s2 x y H2 I2 rx ry q=>ho pins s2 σ H2 x y v u Q I2 rx ry q)
theorem pe_un {op:UnaryOp}{r:V->Hp->VK->Prop} (ho:UnR X (unaryOp op) r) (ha:PE X a ta):PE X (.UnaryOp op a pos) (tUn r ta):=by
 intro pins s σ H Q I h
 exact UnaryOp_ (thn (ha pins s σ H _ I h) λv s1 ⟨x,H1,I1,r1,q1⟩=>ho pins s1 σ H1 x v Q I1 r1 q1)
theorem opI {f:Value->Value->Sem Value}{C:Int->Int->Prop}{g:Int->Int->Int}
  (rule:∀ (i j:Int) (t u:Tok) (s:Shared) (Q:Value->Shared->Prop) (E:Value->Shared->Prop),C i j->Q (.int (g i j) s.toks) { s with toks:=s.toks + 1 }->wpAny (model X.prog X.w) X.A (f (.int i t) (.int j u)) Q E s) :
  OpR X f (rI C λi j=>.int (g i j)):=by
 intro pins s σ H x y v u Q I rx ry h
 obtain ⟨i,j,rfl,rfl,hc,q⟩:=h
 obtain ⟨t,rfl⟩:=rx
 obtain ⟨t',rfl⟩:=ry
 exact rule i j t t' s _ _ hc ⟨.int (g i j),H,I.tok _,⟨_,rfl⟩,q⟩
theorem opI0 {f:Value->Value->Sem Value}{g:Int->Int->Int}
  (rule:∀ (i j:Int) (t u:Tok) (s:Shared) (Q:Value->Shared->Prop) (E:Value->Shared->Prop),Q (.int (g i j) s.toks) { s with toks:=s.toks + 1 }->wpAny (model X.prog X.w) X.A (f (.int i t) (.int j u)) Q E s) :
  OpR X f (rI0 λi j=>.int (g i j)):=by
 intro pins s σ H x y v u Q I rx ry h
 obtain ⟨i,j,rfl,rfl,q⟩:=h
 obtain ⟨t,rfl⟩:=rx
 obtain ⟨t',rfl⟩:=ry
 exact rule i j t t' s _ _ ⟨.int (g i j),H,I.tok _,⟨_,rfl⟩,q⟩
theorem opB0 {f:Value->Value->Sem Value}{g:Int->Int->Bool}
  (rule:∀ (i j:Int) (t u:Tok) (s:Shared) (Q:Value->Shared->Prop) (E:Value->Shared->Prop),Q (.bool (g i j)) s->wpAny (model X.prog X.w) X.A (f (.int i t) (.int j u)) Q E s) :
  OpR X f (rI0 λi j=>.bl (g i j)):=by
 intro pins s σ H x y v u Q I rx ry h
 obtain ⟨i,j,rfl,rfl,q⟩:=h
 obtain ⟨t,rfl⟩:=rx
 obtain ⟨t',rfl⟩:=ry
 exact rule i j t t' s _ _ ⟨.bl (g i j),H,I,rfl,q⟩
def CPow (i j:Int):Prop:=0<=j/\j<=1000000/\i.natAbs < 2 ^ 64
def CMul (i j:Int):Prop:=(-(2 ^ 64) < i/\i < 2 ^ 64)\/(-(2 ^ 64) < j/\j < 2 ^ 64)
theorem CMul.ok {i j:Int} (h:CMul i j):IntMulOk i j:=by
 rcases h with ⟨h1,h2⟩ | ⟨h1,h2⟩
 ·exact .of_left (intBits_le_64 h1 h2)
 ·exact .of_right (intBits_le_64 h1 h2)
theorem xf:OpR X (binaryOp .Add) (rI0 λi j=>.int (i + j)):=opI0 λ_ _ _ _ _ _ _ q=>add_int q
theorem wD:OpR X (binaryOp .Sub) (rI0 λi j=>.int (i - j)):=opI0 λ_ _ _ _ _ _ _ q=>sub_int q
theorem op_mul:OpR X (binaryOp .Mult) (rI CMul λi j=>.int (i * j)):=opI λ_ _ _ _ _ _ _ hc q=>mul_int q hc.ok
theorem op_mod:OpR X (binaryOp .Mod) (rI (λ_ j=>0 < j) λi j=>.int (i % j)):=opI λi j _ _ _ _ _ hc q=>by
 have h1:(0:Int) < j:=hc
 exact mod_int' (by omega) (by rw [Int.fmod_eq_emod_of_nonneg i (by omega)];exact q)
theorem op_pow:OpR X (binaryOp .Pow) (rI CPow λi j=>.int (i ^ j.toNat)):=opI λ_ _ _ _ _ _ _ hc q=>pow_int_small hc.1 hc.2.1 hc.2.2 q
theorem op_xor:OpR X (binaryOp .BitXor) (rI0 λi j=>.int (Builtin.bitXor i j)):=opI0 λ_ _ _ _ _ _ _ q=>xor_int q
theorem unI {f:Value->Sem Value}{g:Int->Int}
  (rule:∀ (i:Int) (t:Tok) (s:Shared) (Q:Value->Shared->Prop) (E:Value->Shared->Prop),Q (.int (g i) s.toks) { s with toks:=s.toks + 1 }->wpAny (model X.prog X.w) X.A (f (.int i t)) Q E s) :
  UnR X f (rU λi=>.int (g i)):=by
 intro pins s σ H x v Q I rx h
 obtain ⟨i,rfl,q⟩:=h
 obtain ⟨t,rfl⟩:=rx
 exact rule i t s _ _ ⟨.int (g i),H,I.tok _,⟨_,rfl⟩,q⟩
theorem un_neg:UnR X (unaryOp .USub) (rU λi=>.int (-i)):=unI λ_ _ _ _ _ q=>neg_int q
end
def scal:V->V->Bool
 | .non,.non=>true | .non,.int _=>true | .int _,.non=>true | .non,.bl _=>true | .bl _,.non=>true | .non,.str _=>true | .str _,.non=>true
 | .int _,.int _=>true | .bl _,.bl _=>true | .str _,.str _=>true | .byt _,.byt _=>true
 | .int _,.str _=>true | .str _,.int _=>true | .bl _,.str _=>true | .str _,.bl _=>true
 | _,_=>false
def rEq:R2:=λx y H Q=>scal x y=true/\Q (.bl (decide (x=y))) H
def rNe:R2:=λx y H Q=>scal x y=true/\Q (.bl (!decide (x=y))) H
theorem dec_int {i j:Int}:decide (V.int i=V.int j)=(i == j):=by
 rw [Bool.eq_iff_iff]
 simp
theorem dec_bl {i j:Bool}:decide (V.bl i=V.bl j)=(i == j):=by
 rw [Bool.eq_iff_iff]
 simp
theorem dec_str {i j:Str}:decide (V.str i=V.str j)=(i == j):=by
 rw [Bool.eq_iff_iff]
 simp
theorem dec_byt {i j:Array UInt8}:decide (V.byt i=V.byt j)=(i.toList == j.toList):=by
 rw [Bool.eq_iff_iff]
 cases i
 cases j
 simp
section
variable {X:Cx}{a b c:Expr}{ta tb tc:TE}{pos:Pos}
theorem xg {pins:List (Addr×Obj)}{σ:St}{H:Hp}{s:Shared}{Q:VK}{k k':Bool} (I:Inv X pins σ H s) (q:Q (.bl k) H) (e:k=k'):EP X pins σ Q (.bool k') s:=by
 subst e
 exact ⟨.bl k,H,I,rfl,q⟩
theorem wU:OpR X (compareOp .Eq) rEq:=by
 intro pins s σ H x y v u Q I rx ry h
 obtain ⟨hs,q⟩:=h
 cases x with
 | non=>
  cases rx
  cases y with
  | non=>cases ry;exact PySem.EqNone.eq_none_none (xg I q (by simp))
  | bl j=>cases ry;exact PySem.EqNone.eq_none_bool (xg I q (by simp))
  | int j=>obtain ⟨t',rfl⟩:=ry;exact PySem.EqNone.eq_none_int (xg I q (by simp))
  | str j=>obtain ⟨t',rfl⟩:=ry;exact PySem.EqNone.eq_none_str (xg I q (by simp))
  | _=>exact absurd (show false=true from hs) zL
 | bl i=>
  cases rx
  cases y with
  | non=>cases ry;exact PySem.EqNone.eq_bool_none (xg I q (by simp))
  | bl j=>cases ry;exact eq_bool (xg I q dec_bl)
  | str j=>obtain ⟨t',rfl⟩:=ry;exact PySem.EqMixed.eq_bool_str (xg I q (by simp))
  | _=>exact absurd (show false=true from hs) zL
 | int i=>
  obtain ⟨t,rfl⟩:=rx
  cases y with
  | non=>cases ry;exact PySem.EqNone.eq_int_none (xg I q (by simp))
  | int j=>obtain ⟨t',rfl⟩:=ry;exact eq_int (xg I q dec_int)
  | str j=>obtain ⟨t',rfl⟩:=ry;exact PySem.EqMixed.eq_int_str (xg I q (by simp))
  | _=>exact absurd (show false=true from hs) zL
 | str i=>
  obtain ⟨t,rfl⟩:=rx
  cases y with
  | non=>cases ry;exact PySem.EqNone.eq_str_none (xg I q (by simp))
  | bl j=>cases ry;exact PySem.EqMixed.eq_str_bool (xg I q (by simp))
  | int j=>obtain ⟨t',rfl⟩:=ry;exact PySem.EqMixed.eq_str_int (xg I q (by simp))
  | str j=>obtain ⟨t',rfl⟩:=ry;exact eq_str (xg I q dec_str)
  | _=>exact absurd (show false=true from hs) zL
 | byt i=>
  obtain ⟨t,rfl⟩:=rx
  cases y with
  | byt j=>obtain ⟨t',rfl⟩:=ry;exact PySem.W.eq_bytes (xg I q dec_byt)
  | _=>exact absurd (show false=true from hs) zL
 | _=>cases y <;> exact absurd (show false=true from hs) zL
theorem op_ne:OpR X (compareOp .NotEq) rNe:=by
 intro pins s σ H x y v u Q I rx ry h
 obtain ⟨hs,q⟩:=h
 cases x with
 | non=>
  cases rx
  cases y with
  | non=>cases ry;exact PySem.EqNone.ne_none_none (xg I q (by simp))
  | bl j=>cases ry;exact PySem.EqNone.ne_none_bool (xg I q (by simp))
  | int j=>obtain ⟨t',rfl⟩:=ry;exact PySem.EqNone.ne_none_int (xg I q (by simp))
  | str j=>obtain ⟨t',rfl⟩:=ry;exact PySem.EqNone.ne_none_str (xg I q (by simp))
  | _=>exact absurd (show false=true from hs) zL
 | bl i=>
  cases rx
  cases y with
  | non=>cases ry;exact PySem.EqNone.ne_bool_none (xg I q (by simp))
  | bl j=>cases ry;exact ne_bool (xg I q (congrArg not dec_bl))
  | str j=>obtain ⟨t',rfl⟩:=ry;exact PySem.EqMixed.ne_bool_str (xg I q (by simp))
  | _=>exact absurd (show false=true from hs) zL
 | int i=>
  obtain ⟨t,rfl⟩:=rx
  cases y with
  | non=>cases ry;exact PySem.EqNone.ne_int_none (xg I q (by simp))
  | int j=>obtain ⟨t',rfl⟩:=ry;exact ne_int (xg I q (congrArg not dec_int))
  | str j=>obtain ⟨t',rfl⟩:=ry;exact PySem.EqMixed.ne_int_str (xg I q (by simp))
  | _=>exact absurd (show false=true from hs) zL
 | str i=>
  obtain ⟨t,rfl⟩:=rx
  cases y with
  | non=>cases ry;exact PySem.EqNone.ne_str_none (xg I q (by simp))
  | bl j=>cases ry;exact PySem.EqMixed.ne_str_bool (xg I q (by simp))
  | int j=>obtain ⟨t',rfl⟩:=ry;exact PySem.EqMixed.ne_str_int (xg I q (by simp))
  | str j=>obtain ⟨t',rfl⟩:=ry;exact ne_str (xg I q (congrArg not dec_str))
  | _=>exact absurd (show false=true from hs) zL
 | byt i=>
  obtain ⟨t,rfl⟩:=rx
  cases y with
  | byt j=>obtain ⟨t',rfl⟩:=ry;exact PySem.W.ne_bytes (xg I q (congrArg not dec_byt))
  | _=>exact absurd (show false=true from hs) zL
 | _=>cases y <;> exact absurd (show false=true from hs) zL
theorem op_lt:OpR X (compareOp .Lt) (rI0 λi j=>.bl (decide (i < j))):=opB0 λ_ _ _ _ _ _ _ q=>lt_int q
theorem op_le:OpR X (compareOp .LtE) (rI0 λi j=>.bl (decide (i<=j))):=opB0 λ_ _ _ _ _ _ _ q=>le_int q
theorem op_gt:OpR X (compareOp .Gt) (rI0 λi j=>.bl (decide (j < i))):=opB0 λ_ _ _ _ _ _ _ q=>gt_int q
theorem op_ge:OpR X (compareOp .GtE) (rI0 λi j=>.bl (decide (j<=i))):=opB0 λ_ _ _ _ _ _ _ q=>ge_int q
theorem nomark (b:Expr) {op:CmpOp} (h:op≠.In:=by decide) (h2:op≠.NotIn:=by decide):behindInMarks op b=false:=by
 have e1:(op == CmpOp.In)=false:=by cases op <;> first | rfl | exact absurd rfl h
 have e2:(op == CmpOp.NotIn)=false:=by cases op <;> first | rfl | exact absurd rfl h2
 cases b <;> simp [behindInMarks,e1,e2]
theorem wE {op:CmpOp}{r:R2} (ho:OpR X (compareOp op) r) (ha:PE X a ta) (hb:PE X b tb) (hm:behindInMarks op b=false):PE X (.Compare a [op] [b] pos) (tOp r ta tb):=by
 intro pins s σ H Q I h
 exact wpAny_Compare1 (binT ha hb I h λv u s2 x y H2 I2 rx ry q=>ho pins s2 σ H2 x y v u Q I2 rx ry q) hm
def tTest (t:TE):TT:=fun σ H Q=>t σ H λx H'=>∃ k,x=.bl k/\Q k H'
theorem xP {op:CmpOp}{r:R2} (ho:OpR X (compareOp op) r) (ha:PE X a ta) (hb:PE X b tb) (hm:behindInMarks op b=false):PT X (.Compare a [op] [b] pos) (tTest (tOp r ta tb)):=by
 intro pins s σ H Q I h
 refine wpAny_isTrue_Compare1 (thn (ha pins s σ H _ I h) λv s1 ⟨x,H1,I1,r1,q1⟩=>thn (hb pins s1 σ H1 _ I1 q1) λu s2 ⟨y,H2,I2,r2,q2⟩=>
  thn (ho pins s2 σ H2 x y v u _ I2 r1 r2 q2) λc s3 ⟨z,H3,I3,r3,k,e,q3⟩=>?_) hm
 subst e
 cases r3
 exact wpAny_truthy_bool ⟨H3,I3,q3⟩
def tChain (r r':R2) (ta tb tc:TE):TE:=fun σ H Q=>ta σ H λx H1=>tb σ H1 λy H2=>r x y H2 λz H3=>∃ k,z=.bl k /\
 (if k=true then tc σ H3 λw' H4=>r' y w' H4 Q else Q (.bl false) H3)
theorem pe_chain {op op':CmpOp}{r r':R2} (ho:OpR X (compareOp op) r) (ho':OpR X (compareOp op') r') (ha:PE X a ta) (hb:PE X b tb) (hc:PE X c tc)
  (hm:lastMarks [op,op'] [b,c]=false:=by with_unfolding_all rfl):PE X (.Compare a [op,op'] [b,c] pos) (tChain r r' ta tb tc):=by
 intro pins s σ H Q I h
 refine Compare_chain (thn (ha pins s σ H _ I h) λv s1 ⟨x,H1,I1,r1,q1⟩=>chain_link (thn (hb pins s1 σ H1 _ I1 q1) λu s2 ⟨y,H2,I2,r2,q2⟩=>
  thn (ho pins s2 σ H2 x y v u _ I2 r1 r2 q2) λd s3 ⟨z,H3,I3,r3,k,e,q3⟩=>?_)) hm
 subst e
 cases r3
 refine wpAny_truthy_bool ?_
 cases k with
 | false=>exact ite_ff ⟨.bl false,H3,I3,rfl,q3⟩
 | true=>exact ite_tt (chain_last (thn (hc pins s3 σ H3 _ I3 q3) λw' s4 ⟨z',H4,I4,r4,q4⟩=>ho' pins s4 σ H4 y z' u w' Q I4 r2 r4 q4))
theorem pt_chain {op op':CmpOp}{r r':R2} (ho:OpR X (compareOp op) r) (ho':OpR X (compareOp op') r') (ha:PE X a ta) (hb:PE X b tb) (hc:PE X c tc)
  (hm:lastMarks [op,op'] [b,c]=false:=by with_unfolding_all rfl):PT X (.Compare a [op,op'] [b,c] pos) (tTest (tChain r r' ta tb tc)):=by
 intro pins s σ H Q I h
 refine isTrue_chain (thn (ha pins s σ H _ I h) λv s1 ⟨x,H1,I1,r1,q1⟩=>test_link (thn (hb pins s1 σ H1 _ I1 q1) λu s2 ⟨y,H2,I2,r2,q2⟩=>
  thn (ho pins s2 σ H2 x y v u _ I2 r1 r2 q2) λd s3 ⟨z,H3,I3,r3,k,e,q3⟩=>?_)) hm
 subst e
 cases r3
 refine wpAny_truthy_bool ?_
 cases k with
 | false=>
  obtain ⟨k',e',q'⟩:=q3
  cases e'
  exact ite_ff ⟨H3,I3,q'⟩
 | true=>
  refine ite_tt (test_last (thn (hc pins s3 σ H3 _ I3 q3) λw' s4 ⟨z',H4,I4,r4,q4⟩=>thn (ho' pins s4 σ H4 y z' u w' _ I4 r2 r4 q4) λd' s5 ⟨z2,H5,I5,r5,k2,e2,q5⟩=>?_))
  subst e2
  cases r5
  exact wpAny_truthy_bool ⟨H5,I5,q5⟩
theorem line63:(sizeLine:Nat) < 2 ^ 63:=by rw [sizeLine_eq];decide
theorem vals1 {x:V}{us:List Value} (r:Vals [x] us):∃ u,us=[u]/\RelV x u:=by
 cases r with
 | cons r1 r2=>cases r2;exact ⟨_,rfl,r1⟩
theorem vals2 {x y:V}{us:List Value} (r:Vals [x,y] us):∃ u w',us=[u,w']/\RelV x u/\RelV y w':=by
 cases r with
 | cons r1 r2=>
  cases r2 with
  | cons r3 r4=>cases r4;exact ⟨_,_,rfl,r1,r3⟩
theorem call_max2 (hc:X.calm=true):CallR X (.builtin "max") (λxs H Q=>∃ i j,xs=[.int i,.int j]/\Q (.int (if j > i then j else i)) H):=by
 intro pins s σ H xs us Q I r h
 obtain ⟨i,j,rfl,q⟩:=h
 obtain ⟨u,w',rfl,⟨t,rfl⟩,⟨t',rfl⟩⟩:=vals2 r
 refine max_two_ints (I.ok.hd hc) λh' tk k=>⟨_,H,I.kept k,?_,q⟩
 by_cases hj:j > i
 ·rw [if_pos hj,if_pos hj];exact ⟨_,rfl⟩
 ·rw [if_neg hj,if_neg hj];exact ⟨_,rfl⟩
theorem call_min2 (hc:X.calm=true):CallR X (.builtin "min") (λxs H Q=>∃ i j,xs=[.int i,.int j]/\Q (.int (if j < i then j else i)) H):=by
 intro pins s σ H xs us Q I r h
 obtain ⟨i,j,rfl,q⟩:=h
 obtain ⟨u,w',rfl,⟨t,rfl⟩,⟨t',rfl⟩⟩:=vals2 r
 refine min_two_ints (I.ok.hd hc) λh' tk k=>⟨_,H,I.kept k,?_,q⟩
 by_cases hj:j < i
 ·rw [if_pos hj,if_pos hj];exact ⟨_,rfl⟩
 ·rw [if_neg hj,if_neg hj];exact ⟨_,rfl⟩
theorem call_int1:CallR X (.type "int") (λxs H Q=>(∃ i,xs=[.int i]/\Q (.int i) H)\/∃ k,xs=[.bl k]/\Q (.int (if k then 1 else 0)) H):=by
 intro pins s σ H xs us Q I r h
 rcases h with ⟨i,rfl,q⟩ | ⟨k,rfl,q⟩
 ·obtain ⟨u,rfl,t,rfl⟩:=vals1 r
  exact call_int_int ⟨.int i,H,I,⟨_,rfl⟩,q⟩
 ·obtain ⟨u,rfl,r1⟩:=vals1 r
  cases r1
  exact call_int_bool ⟨.int (if k then 1 else 0),H,I.tok _,⟨_,rfl⟩,q⟩
end
end L2
namespace L2
open PySem PySem.Spec PyProof.Rows
structure ObjM (h:Heap) (x dx C:Addr) (mA:Str->Option Value):Prop where
 obj:h.get? x=some (PySem.W.instObj C dx)
 ns:h.Ns1 dx mA
 ne:dx≠x
theorem lookIn_ns {h:Heap}{dx:Addr}{mA:Str->Option Value} (n:h.Ns1 dx mA):∃ od,h.get? dx=some od/\∀ name,PySem.W.lookIn name od=some (mA name):=by
 obtain ⟨o,es,ep,ho,hd,hk,_,hm⟩:=n
 refine ⟨o,ho,λname=>?_⟩
 have e:=hm name
 unfold nsFind findBy at e
 rw [<-Array.find?_toList] at e
 unfold PySem.W.lookIn
 rw [hd]
 dsimp only
 split
 ·rename_i y q
  rw [q] at e
  exact congrArg some e
 ·rename_i q
  rw [q] at e
  have a:es.toList.any (·.refKey)=false:=by
   rw [List.any_eq_false]
   intro y hy
   obtain ⟨z,t,hkey⟩:=hk y (Array.mem_toList_iff.mp hy)
   simp [DictEntry.refKey,hkey]
  have a':¬ es.toList.any (·.refKey)=true:=by rw [a];exact zL
  rw [if_neg a']
  exact congrArg some e
theorem ObjM.look {h:Heap}{x dx C:Addr}{mA:Str->Option Value} (I:ObjM h x dx C mA):∃ od,PySem.W.InstAt h x (PySem.W.instObj C dx) C (some od)/\∀ name,PySem.W.lookIn name od=some (mA name):=
 let ⟨od,ho,hl⟩:=lookIn_ns I.ns
 ⟨od,⟨I.obj,rfl,rfl,ho⟩,hl⟩
section
variable {prog:Program}{w:World}{A:Around}{E:Value->Shared->Prop}{s:Shared}{K:PySem.W.Frag}{x dx C f:Addr}{mA:Str->Option Value}{name:Str}{v:Value}
end
section
variable {P:Program}{w:World}{H H':Hp}{h h':Heap}{a C dx:Addr}{fs fs':List (Str×V)}
theorem ins_get (hok:HOk P w H h) (e:H a=some (.ins C dx fs)):∃ mA,ObjM h a dx C mA/\(∀ f,RelO (fs.lookup f) (mA f))/\PySem.Within mA (fs.map (·.1))/\fs.length<=1000/\H dx=some (.own a):=by
 obtain ⟨d,z,ne,ob,mA,n,r,q⟩:=(show ObjOk P w H h a (.ins C dx fs) from hok a _ e)
 exact ⟨mA,⟨ob,n,ne⟩,r,q,z,d⟩
end
structure Cls (K:PySem.W.Frag) (C:Addr):Prop where
 pg:PySem.W.plainGet K C Str.empty=true
 hd:PySem.W.hasDictIn K C=true
 po:PySem.W.plainOver K C=true
 sa:PySem.W.findIn K (.ref C) "__setattr__" = some (some (.builtin "object.__setattr__"))
theorem Cls.get {K:PySem.W.Frag}{C:Addr} (c:Cls K C) (f:Str):PySem.W.plainGet K C f=true:=c.pg
section
variable {X:Cx}{pins:List (Addr×Obj)}{σ:St}{H:Hp}{s:Shared}{a C dx:Addr}{fs:List (Str×V)}{f:Str}{v:V}{A:Around}{E:Value->Shared->Prop}
end
section
variable {X:Cx}{o e value:Expr}{f:Str}{pos pos' tpos:Pos}{ta tv:TE}
end
section
variable {X:Cx}{pins:List (Addr×Obj)}{σ:St}{H:Hp}{s:Shared}{A:Around}{E:Value->Shared->Prop}{Q:Value->Shared->Prop}{c:Value}{b:Bool}
inductive TyOf (K:PySem.W.Frag) (H:Hp):V->Value->Prop where
 | non:TyOf K H .non (.type "NoneType")
 | bl (x:Bool):TyOf K H (.bl x) (.type "bool")
 | int (i:Int):TyOf K H (.int i) (.type "int")
 | str (x:Str):TyOf K H (.str x) (.type "str")
 | flt (x:UInt64):TyOf K H (.flt x) (.type "float")
 | lst {a:Addr}{xs:List V} (e:H a=some (.lst xs)):TyOf K H (.ref a) (.type "list")
 | frz {a:Addr}{o:Obj}{xs:List V} (e:H a=some (.frz o (.lst xs))):TyOf K H (.ref a) (.type "list")
 | tup {a:Addr}{xs:List V} (e:H a=some (.tup xs)):TyOf K H (.ref a) (.type "tuple")
 | dK {a:Addr}{kvs:List (Key×V)} (e:H a=some (.dK kvs)):TyOf K H (.ref a) (.type "dict")
 | dT {a:Addr}{kvs:List (List Key×V)} (e:H a=some (.dT kvs)):TyOf K H (.ref a) (.type "dict")
 | ins {a C dx:Addr}{fs:List (Str×V)} (e:H a=some (.ins C dx fs)) (cl:Cls K C) (ha:PySem.W.findIn K (.ref C) "__class__" = some (some (.builtin "object.__class__")))
   (hn:PySem.W.specialIn K (.builtin "object.__class__") "__get__" = some (some (.builtin "getset_descriptor.__get__"))) (htk:PySem.W.takesIn K (.builtin "object.__class__")=some true)
   (hm:PySem.W.mroIn K C (.type "object")=some true):TyOf K H (.ref a) (.ref C)
theorem isinst_ok {x:V}{u t:Value} (I:Inv X pins σ H s) (rx:RelV x u) (ty:TyOf X.K H x t) (e:PySem.W.kitOne X.K t c=some b) (h:∀ tk,Q (.bool b) { s with toks:=tk }) :
  wpAny (model X.prog X.w) A (call (.builtin "isinstance") [u,c]) Q E s:=by
 cases ty with
 | non=>cases (show u=Value.none from rx);exact yA PySem.W.kitx_none I.kIn True.intro e (λz=>nomatch z) h
 | bl y=>cases (show u=Value.bool y from rx);exact yA PySem.W.kitx_bool I.kIn True.intro e (λz=>nomatch z) h
 | int i=>obtain ⟨t,q⟩:=(show ∃ t,u=Value.int i t from rx);cases q;exact yA PySem.W.kitx_int I.kIn True.intro e (λz=>nomatch z) h
 | str y=>obtain ⟨t,q⟩:=(show ∃ t,u=Value.str y t from rx);cases q;exact yA PySem.W.kitx_str I.kIn True.intro e (λz=>nomatch z) h
 | flt y=>obtain ⟨t,q⟩:=(show ∃ t,u=Value.float y t from rx);cases q;exact yA PySem.W.kitx_float I.kIn True.intro e (λz=>nomatch z) h
 | @lst a xs ea=>
  cases (show u=Value.ref a from rx)
  obtain ⟨_,_,n,_,h1⟩:=(show ObjOk X.prog X.w H s.heap a (.lst xs) from I.hok a _ ea)
  exact yA PySem.W.kitx_list I.kIn ⟨_,h1,rfl⟩ e (λz=>nomatch z) h
 | @frz a ob xs ea=>
  cases (show u=Value.ref a from rx)
  obtain ⟨_,_,_,n,_,h1⟩:=(show ObjOk X.prog X.w H s.heap a (.frz ob (.lst xs)) from I.hok a _ ea)
  exact yA PySem.W.kitx_list I.kIn ⟨_,h1,rfl⟩ e (λz=>nomatch z) h
 | @tup a xs ea=>
  cases (show u=Value.ref a from rx)
  obtain ⟨_,_,_,p⟩:=(show ObjOk X.prog X.w H s.heap a (.tup xs) from I.hok a _ ea)
  obtain ⟨o,h1,h2,_⟩:=p
  exact yA PySem.W.kitx_tuple I.kIn ⟨o,h1,h2⟩ e (λz=>nomatch z) h
 | @dK a kvs ea=>
  cases (show u=Value.ref a from rx)
  obtain ⟨_,_,vs,_,p⟩:=(show ObjOk X.prog X.w H s.heap a (.dK kvs) from I.hok a _ ea)
  obtain ⟨o,es,ep,h1,h2,_⟩:=p
  exact yA PySem.W.kitx_dict I.kIn ⟨o,h1,h2.1⟩ e (λz=>nomatch z) h
 | @dT a kvs ea=>
  cases (show u=Value.ref a from rx)
  obtain ⟨_,_,xs,_,o,es,ep,h1,h2,_⟩:=(show ObjOk X.prog X.w H s.heap a (.dT kvs) from I.hok a _ ea)
  exact yA PySem.W.kitx_dict I.kIn ⟨o,h1,h2.1⟩ e (λz=>nomatch z) h
 | @ins a C dx fs ea cl ha hn htk hm=>
  cases (show u=Value.ref a from rx)
  obtain ⟨mA,O,_⟩:=ins_get I.hok ea
  obtain ⟨od,J,_⟩:=O.look
  exact yA (PySem.W.kitx_own (cl.get _) cl.hd ha hn htk hm) I.kIn J e (λz=>nomatch z) h
end
end L2
namespace L2
open PySem PySem.Spec PyProof.Rows
structure Room (k:Nat) (A:Around):Prop where
 hd:A.handled=none
 dp:A.depth + 3 * k + 5 < recursionLimit
 un:A.units + 16 * k + 200 < cLine
 gd:A.guards=some []
theorem Room.mono {j k:Nat}{A:Around} (r:Room k A) (h:j<=k):Room j A:=⟨r.hd,by have:=r.dp;omega,by have:=r.un;omega,r.gd⟩
theorem Room.deeper {k:Nat}{A:Around} (r:Room (k + 1) A) (env:Env):Room k (A.deeper env):=
 ⟨r.hd,by have:=r.dp;show A.depth + 1 + 3 * k + 5 < _;omega,by have:=r.un;show A.units + 3 + 16 * k + 200 < _;omega,r.gd⟩
theorem Room.depth {k:Nat}{A:Around} (r:Room k A):A.depth < recursionLimit:=by have:=r.dp;omega
theorem Room.units {k:Nat}{A:Around} (r:Room k A):A.units + 64 < cLine:=by have:=r.un;omega
def tNil:TA:=λ_ H Q=>Q [] H
def tCons (ta:TE) (tr:TA):TA:=fun σ H Q=>ta σ H λx H1=>tr σ H1 λxs H2=>Q (x::xs) H2
section
variable {X:Cx}{e:Expr}{es:List Expr}{te:TE}{t:TA}{pos:Pos}
theorem wP:PA X [] tNil:=λ_ _ _ _ H Q I h=>Calls.spliced_nil ⟨[],H,I,.nil,h⟩
theorem pa_cons (ha:PE X e te) (hr:PA X es t) (hs:starEach (e::es) X.env=(false,eval e X.env)::starEach es X.env:=by rfl):PA X (e::es) (tCons te t):=by
 intro pos pins s σ H Q I h
 rw [hs]
 show wpAny _ _ (spliced ((false,eval e X.env)::backTo pos (starEach es X.env))) _ _ s
 refine Calls.spliced_cons (thn (ha pins s σ H _ I h) λu s1 ⟨x,H1,I1,r1,q1⟩=>?_)
 exact thn (hr pos pins s1 σ H1 _ I1 q1) λus s2 ⟨xs,H2,I2,r2,q2⟩=>⟨x::xs,H2,I2,.cons r1 r2,q2⟩
def tTup (t:TA):TE:=fun σ H Q=>t σ H λxs H1=>xs.length<=sizeLine/\∀ p,H1 p=none->Q (.ref p) (upd H1 p (.tup xs))
def tLst (t:TA):TE:=fun σ H Q=>t σ H λxs H1=>xs.length<=sizeLine/\∀ p,H1 p=none->Q (.ref p) (upd H1 p (.lst xs))
theorem xp {x1} (h:PA X es t):PE X (.Tuple es x1 pos) (tTup t):=by
 intro pins s σ H Q I hq
 refine wpAny_Tuple_spliced (thn (h pos pins s σ H _ I hq) λus s1 ⟨xs,H1,I1,r,z,q⟩=>⟨by rw [<-r.length];exact z,?_⟩)
 have hf:H1 s1.heap.objs.size=none:=I1.hok.fresh (zF _)
 refine ⟨.ref s1.heap.objs.size,upd H1 s1.heap.objs.size (.tup xs),I1.laid (t':=s1.toks) (λb u e=>Heap.get?_push_of_some _ e) (zF _) ?_,rfl,q _ hf⟩
 exact ⟨⟨z,new_bare⟩,us,r,⟨_,Heap.get?_push_size _ rfl,rfl,_,rfl⟩⟩
theorem xV (h:PA X es t):PE X (.List es pos) (tLst t):=by
 intro pins s σ H Q I hq
 refine wpAny_List_spliced (thn (h pos pins s σ H _ I hq) λus s1 ⟨xs,H1,I1,r,z,q⟩=>⟨by rw [<-r.length];exact z,?_⟩)
 have hf:H1 s1.heap.objs.size=none:=I1.hok.fresh (zF _)
 refine ⟨.ref s1.heap.objs.size,upd H1 s1.heap.objs.size (.lst xs),I1.laid (t':=s1.toks) (λb u e=>Heap.get?_push_of_some _ e) (zF _) ?_,rfl,q _ hf⟩
 exact ⟨z,us,0,r,Heap.get?_push_size _ rfl⟩
end
abbrev Sp:=List V->Hp->VK->XK->Prop
abbrev CXT:=List Env->Hp->Shared->XK->Value->Shared->Prop
structure Env0 (P:Program) (w:World) (K:PySem.W.Frag) (mg:Str->Option Value) (base:Heap) (A:Around) (outer:List Env) (s:Shared) (H:Hp):Prop where
 frames:A.frames=some outer
 mod:Mod K mg base
 bs:∀ b o,base.get? b=some o->s.heap.get? b=some o/\H b=none
 bsz:base.objs.size<=s.heap.objs.size
 funs:s.heap.FunFrames base outer
 frf:∀ b∈frs outer,H b=none
 hok:HOk P w H s.heap
 bare:AllBare s.gens
def CE (outer:List Env) (P:Program) (w:World) (H:Hp) (s:Shared) (Q:VK) (u:Value) (s':Shared):Prop:=
 ∃ v H',s'.os=s.os/\AllBare s'.gens/\Un (frs outer) [] H H' s.heap s'.heap/\HOk P w H' s'.heap/\RelV v u/\Q v H'
def CR (CX:CXT) (outer:List Env) (P:Program) (w:World) (H:Hp) (s:Shared) (Q:VK) (E:XK) (r:Result) (s':Shared):Prop:=
 match r with
 | .ok (.ret u)=>CE outer P w H s Q u s'
 | .ok _=>False
 | .error e=>CX outer H s E e s'
structure FnOk (P:Program) (w:World) (K:PySem.W.Frag) (mg:Str->Option Value) (base:Heap) (CX:CXT) (k:Nat) (f:Addr) (fd:FuncData) (ps:List Str) (sp:Sp):Prop where
 len:∀ vs H Q E,sp vs H Q E->vs.length=ps.length
 run:∀ (A:Around) (outer:List Env) (s:Shared) (H:Hp) (args:Args) (us:List Value) (vs:List V) (Q:VK) (E:XK),Room k A->Env0 P w K mg base A outer s H->BindsTo s fd args (ps.zip us)->Vals vs us->sp vs H Q E ->
  codeAny (model P w) A (.call (.ref f) args) (CR CX outer P w H s Q E) s
section
variable {X:Cx}{pins:List (Addr×Obj)}{σ:St}{H:Hp}{s s':Shared}
theorem Inv.env0 (I:Inv X pins σ H s):Env0 X.prog X.w X.K X.mg X.base X.A X.stack s H:=
 ⟨I.ok.frames,I.ok.mod,I.bs,zm I.ok.bsz I.sz,I.stack,I.stkFree,I.hok,I.bare⟩
theorem Inv.after {Q:VK}{u:Value} (I:Inv X pins σ H s) (h:CE X.stack X.prog X.w H s Q u s'):EP X pins σ Q u s':=by
 obtain ⟨v,H',os,bare,un,hok,r,q⟩:=h
 obtain ⟨hh,g,d,t,os'⟩:=s'
 obtain rfl:os'=s.os:=os
 exact ⟨v,H',I.call (h':=hh) (g':=g) (d':=d) (t':=t) (ch:=[]) un hok bare (λb z=>absurd z (by simp)),r,q⟩
end
def tCall (sp:Sp) (dvs:List V) (E:XK) (t:TA):TE:=fun σ H Q=>t σ H λvs H1=>sp (vs++dvs) H1 Q E
def Binds (K:PySem.W.Frag) (fd:FuncData) (ps:List Str) (ds:List Value):Prop:=
 ∀ (s:Shared) (us:List Value),K.In s.heap->(us++ds).length=ps.length->BindsTo s fd ⟨us,[]⟩ (ps.zip (us++ds))
theorem Binds.all {K:PySem.W.Frag}{fd:FuncData}{ps:List Str} (h:∀ us:List Value,us.length=ps.length->bindArgs fd ⟨us,[]⟩=pure (ps.zip us)):Binds K fd ps []:=λs us _ hl=>by
 rw [yF] at hl ⊢
 exact .of_eq (h us hl)
def Passes (CX:CXT) (X:Cx) (E:XK):Prop:=∀ (pins:List (Addr×Obj)) (σ:St) (H:Hp) (s:Shared) (e:Value) (s':Shared),Inv X pins σ H s->CX X.stack H s E e s'->X.xe e s'
section
variable {X:Cx}{CX:CXT}{k:Nat}{f C:Addr}{fd:FuncData}{ps:List Str}{sp:Sp}{dvs:List V}{ds:List Value}{E:XK}{x m:Str}{p pos apos:Pos}{e o:Expr}{es:List Expr}{ta:TE}{t:TA}
theorem run_fn {pins:List (Addr×Obj)}{σ:St}{H:Hp}{s:Shared}{Q:VK}{us:List Value}{vs:List V} (F:FnOk X.prog X.w X.K X.mg X.base CX k f fd ps sp) (hr:Room k X.A) (hb:Binds X.K fd ps ds) (hd:Vals dvs ds) (hx:Passes CX X E)
  (I:Inv X pins σ H s) (r:Vals vs us) (h:sp (vs++dvs) H Q E):wpAny (model X.prog X.w) X.A (call (.ref f) us) (EP X pins σ Q) X.xe s:=by
 have r2:Vals (vs++dvs) (us++ds):=r.append hd
 have hl:(us++ds).length=ps.length:=by rw [<-r2.length];exact F.len _ _ _ _ h
 refine wpAny_call (codeAny_mono (F.run X.A X.stack s H ⟨us,[]⟩ (us++ds) (vs++dvs) Q E hr I.env0 (hb s us I.kIn hl) r2 h) λr s' hq=>?_)
 cases r with
 | error e=>exact hx pins σ H s e s' I hq
 | ok fl=>
  cases fl with
  | ret u=>exact I.after hq
  | next=>exact False.elim hq
  | brk=>exact False.elim hq
  | cont=>exact False.elim hq
theorem xF (F:FnOk X.prog X.w X.K X.mg X.base CX k f fd ps sp) (hr:Room k X.A) (hg:Gl X x) (hm:X.mg x=some (.ref f)) (hk:zN X.K (.ref f)=true) (hb:Binds X.K fd ps ds) (hd:Vals dvs ds) (hx:Passes CX X E)
  (ha:PA X (e::es) t) (hdb:(x == ("__debug__" : Str))=false:=by decide) (he:starEach (e::es) X.env=(false,eval e X.env)::starEach es X.env:=by rfl) (hpl:(backTo pos (starEach es X.env)).any (·.1)=false:=by rfl) :
  PE X (.Call (.Name x p) (e::es) [] pos) (tCall sp dvs E t):=by
 intro pins s σ H Q I h
 refine wpAny_Call_Name_kw (ld_glob I hg hm ?_ hdb)
 refine PySem.W.callWith_K (h₀:=X.base) I.ok.mod.kin hk (thn (ha pos pins s σ H _ I h) λus s1 ⟨vs,H1,I1,r,q⟩=>⟨I1.kIn,?_⟩) he hpl
 exact run_fn F hr hb hd hx I1 r q
end
section
variable {X:Cx}{CX:CXT}{k:Nat}{f C:Addr}{fd:FuncData}{ps ks:List Str}{sp:Sp}{E:XK}{x m:Str}{p pos apos kpos:Pos}{e o:Expr}{es:List Expr}{kws:List Keyword}{te ta:TE}{t tk:TA}{nm:Option Str}
variable {g:List Value->List Value->List Value}{gV:List V->List V->List V}
end
structure FnScope (N P:List Str) (sc:Scope):Prop where
 kind:sc.kind=.function
 co:sc.isCoroutine=false
 gen:sc.isGenerator=false
 nd:N.Nodup
 pre:N.take P.length=P
 par:∀ x∈P,sc.names.lookup x=some .local\/sc.names.lookup x=some .cell
 nofree:∀ y∈sc.names,y.2≠.free
theorem bindL_out {kindOf:Str->Option NameKind}{x:Str}:∀ {binds:List (Str×Value)}{m:Str->Option Value},(∀ v,(x,v) ∉ binds)->bindL kindOf binds m x=m x
 | [],_,_=>rfl
 | (n,v)::r,m,h=>by
  unfold bindL
  rw [bindL_out λw hw=>h w (zW _ hw)]
  split
  ·have:x≠n:=by rintro rfl;exact h v zf
   simp [this]
  ·rfl
theorem bindC_out {kindOf:Str->Option NameKind}{x:Str}:∀ {binds:List (Str×Value)}{m:Str->Option Value},(∀ v,(x,v) ∉ binds)->bindC kindOf binds m x=m x
 | [],_,_=>rfl
 | (n,v)::r,m,h=>by
  unfold bindC
  rw [bindC_out λw hw=>h w (zW _ hw)]
  split
  ·rfl
  ·have:x≠n:=by rintro rfl;exact h v zf
   simp [this]
theorem bindL_get {kindOf:Str->Option NameKind}{x:Str}{v:Value}:∀ {P:List Str}{vs:List Value}{i:Nat}{m:Str->Option Value},P.Nodup->P[i]?=some x->vs[i]?=some v->kindOf x=some .local ->
  bindL kindOf (P.zip vs) m x=some v
 | [],_,_,_,_,h,_,_=>by simp at h
 | _::_,[],_,_,_,_,h,_=>by simp at h
 | p::P,w::vs,0,m,nd,h1,h2,hk=>by
  simp at h1 h2;subst h1;subst h2
  show bindL kindOf ((p,w)::P.zip vs) m p=_
  unfold bindL
  rw [bindL_out λv hv=>(yn.mp nd).1 (List.of_mem_zip hv).1,if_pos hk]
  simp
 | p::P,w::vs,i + 1,m,nd,h1,h2,hk=>by
  show bindL kindOf ((p,w)::P.zip vs) m x=_
  unfold bindL
  exact bindL_get (i:=i) (yn.mp nd).2 (by simpa using h1) (by simpa using h2) hk
theorem bindC_get {kindOf:Str->Option NameKind}{x:Str}{v:Value}:∀ {P:List Str}{vs:List Value}{i:Nat}{m:Str->Option Value},P.Nodup->P[i]?=some x->vs[i]?=some v->kindOf x≠some .local ->
  bindC kindOf (P.zip vs) m x=some v
 | [],_,_,_,_,h,_,_=>by simp at h
 | _::_,[],_,_,_,_,h,_=>by simp at h
 | p::P,w::vs,0,m,nd,h1,h2,hk=>by
  simp at h1 h2;subst h1;subst h2
  show bindC kindOf ((p,w)::P.zip vs) m p=_
  unfold bindC
  rw [bindC_out λv hv=>(yn.mp nd).1 (List.of_mem_zip hv).1,if_neg hk]
  simp
 | p::P,w::vs,i + 1,m,nd,h1,h2,hk=>by
  show bindC kindOf ((p,w)::P.zip vs) m x=_
  unfold bindC
  exact bindC_get (i:=i) (yn.mp nd).2 (by simpa using h1) (by simpa using h2) hk
def start (N:List Str) (vs:List V):St:=vs.map some++List.replicate (N.length - vs.length) none
def cxOf (CX:CXT) (P:Program) (w:World) (K:PySem.W.Frag) (mg:Str->Option Value) (base:Heap) (N:List Str) (qual:Str) (scope:Scope) (f:Addr) (cd:Value) (A:Around) (outer:List Env) (s:Shared) (H:Hp) (E:XK):Cx where
 prog:=P
 w:=w
 K:=K
 mg:=mg
 base:=base
 A:=A.deeper (envOfC qual scope s.heap.objs.size f cd)
 N:=N
 s₀:=s
 H₀:=H
 env:=envOfC qual scope s.heap.objs.size f cd
 outer:=outer
 stack:=envOfC qual scope s.heap.objs.size f cd::outer
 ex:=[]
 calm:=true
 fn:=λ_=>true
 pn:=[]
 xe:=λe s'=>wpAny (model P w) (A.deeper (envOfC qual scope s.heap.objs.size f cd)) (leaving (envOfC qual scope s.heap.objs.size f cd) e) (λ_ s''=>CX outer H s E e s'') (λe' s''=>CX outer H s E e' s'') s'
theorem cell_has {sc:Scope}{n:Nat}{x:Str} (h:sc.names.lookup x=some .cell):∃ c,(cellsFrom n sc.names []).lookup x=some c:=by
 have q:=PySem.W.cellsFrom_some sc.names n [] (.inl h)
 exact Option.isSome_iff_exists.mp q
theorem inv_start {CX:CXT}{P:Program}{w:World}{K:PySem.W.Frag}{mg:Str->Option Value}{base:Heap}{N ps:List Str}{qual:Str}{scope:Scope}{f:Addr}{cd:Value}{A:Around}{outer:List Env} {s s1:Shared}{H:Hp}{E:XK}{us:List Value}{vs:List V}
  (S:FnScope N ps scope) (hd:A.handled=none) (e0:Env0 P w K mg base A outer s H) (hl:vs.length=ps.length) (r:Vals vs us)
  (x:InCallC s s.heap.objs.size (bindL (envOfC qual scope s.heap.objs.size f cd).kindOf (ps.zip us) λ_=>none) (cellsFrom (s.heap.objs.size + 1) scope.names []) (bindC (envOfC qual scope s.heap.objs.size f cd).kindOf (ps.zip us) λ_=>none) s1) :
  Inv (cxOf CX P w K mg base N qual scope f cd A outer s H E) [] (start N vs) H s1:=by
 have hpl:ps.length<=N.length:=by have:=congrArg List.length S.pre;rw [zR] at this;omega
 obtain ⟨h1,tk,rfl,hk⟩:=x.done
 have noA:∀ b:Addr,b ∉ (cxOf CX P w K mg base N qual scope f cd A outer s H E).ex:=λb z=>absurd (show b∈([]:List Addr) from z) (by simp)
 refine ⟨⟨e0.mod,S.kind,rfl,rfl,zF _,λy z c h1 h2=>?_,λy hy=>?_,λy c _ h=>?_,λ_=>hd,Around.frames_deeper e0.frames,.inr ⟨rfl,rfl⟩,λb z=>absurd z (noA b),e0.bs,e0.bsz,λb _ _=>noA b,λb z=>absurd z (noA b),e0.funs,e0.frf⟩,
  rfl,e0.bare,Un.kept hk,⟨_,x.toInCall.ns,λi y v h1 h2 h3=>?_⟩,λy c h=>⟨_,x.cell y c h⟩,e0.hok.fresh (zF _),λy c h=>?_,λp hp=>absurd (show p∈([]:List (Addr×Obj)) from hp) (by simp),e0.hok.kept hk,?_⟩
 ·exact name_of_addr x.apart (za h1) (za h2)
 ·have hy:scope.names.lookup y=some .cell\/scope.names.lookup y=some .free:=hy
  rcases hy with hy | hy
  ·exact cell_has hy
  ·exact absurd rfl (S.nofree _ (za hy))
 ·exact yb (x.above y c (za h))
 ·have hi:i < vs.length:=by
   unfold start at h2
   by_cases hi:i < vs.length
   ·exact hi
   ·rw [zo (by simpa using hi)] at h2
    rw [z4] at h2
    split at h2 <;> cases h2
  have ha:vs[i]?=some v:=by
   unfold start at h2
   rw [yB (by simpa using hi),zG] at h2
   cases e:vs[i]? with
   | none=>rw [e] at h2;cases h2
   | some a=>rw [e] at h2;cases h2;rfl
  obtain ⟨u,hu,rv⟩:=r.get ha
  have hp:ps[i]?=some y:=by
   rw [<-S.pre,List.getElem?_take_of_lt (by omega)];exact h1
  have ndP:ps.Nodup:=by rw [<-S.pre];exact S.nd.sublist (List.take_sublist _ _)
  refine ⟨u,rv,?_⟩
  rcases S.par y (zD hp) with k | k
  ·exact .inl ⟨k,bindL_get ndP hp hu k⟩
  ·obtain ⟨c,e⟩:=cell_has (n:=s.heap.objs.size + 1) k
   refine .inr ⟨.inl k,c,e,?_⟩
   have q:=x.cell y c e
   rw [bindC_get ndP hp hu (by show scope.names.lookup y≠_;rw [k];decide)] at q
   exact q
 ·exact e0.hok.fresh (yb (x.above y c (za h)))
 ·unfold start
  show _=N.length
  rw [zT,zA,zX]
  omega
theorem fn_of {CX:CXT}{P:Program}{w:World}{K:PySem.W.Frag}{mg:Str->Option Value}{base:Heap}{k:Nat}{f:Addr}{name qual:Str}{params:Arguments}{body:List Stmt}{scope:Scope}{dV kV doc pm cdv ct oc:Value}{an od:Option Addr}
  {osl:Array (Option Value)}{N ps:List Str}{sp:Sp} (lk:K.lookup f=some ⟨oc,od,.func (yp name qual params body scope dV kV doc pm an cdv ct),osl⟩) (hcd:PySem.W.codeIn K cdv qual=true) (S:FnScope N ps scope)
  (len:∀ vs H Q E,sp vs H Q E->vs.length=ps.length)
  (hbody:∀ (A:Around) (outer:List Env) (s:Shared) (H:Hp) (vs:List V) (Q:VK) (E:XK),Room k (A.deeper (envOfC qual scope s.heap.objs.size f cdv))->sp vs H Q E ->
   ∃ t,PSs (cxOf CX P w K mg base N qual scope f cdv A outer s H E) body t/\t { nx:=λ_ H'=>Q .non H',rt:=Q } (start N vs) H) :
  FnOk P w K mg base CX (k + 1) f (yp name qual params body scope dV kV doc pm an cdv ct) ps sp:=by
 refine ⟨len,λA outer s H args us vs Q E hr e0 hb r hsp=>?_⟩
 have hl:=len _ _ _ _ hsp
 have KX:K.In s.heap:=e0.mod.kin.keeps λb o e=>(e0.bs b o e).1
 have lim:s.heap.NoLimit:=e0.mod.nolimit.keeps λb o e=>(e0.bs b o e).1
 have hkind:∀ y∈ps.zip us,scope.names.lookup y.1=some .local\/(scope.names.lookup y.1=some .cell/\((cellsFrom (s.heap.objs.size + 1) scope.names []).lookup y.1).isSome=true):=λ⟨n,v⟩ hy=>by
  rcases S.par n (List.of_mem_zip hy).1 with q | q
  ·exact .inl q
  ·exact .inr ⟨q,PySem.W.cellsFrom_some _ _ _ (.inl q)⟩
 refine codeAny_call_function hr.depth (KX _ _ lk) rfl S.co S.gen rfl (PySem.W.codeRec_of KX hcd) (hb _ _ _ _ ?_)
 refine wpAny_newFunctionEnv_cells S.kind hkind λenv he s1 x=>?_
 subst he
 refine ⟨lim.keeps x.toInCall.keep,codeAny_func ?_⟩
 obtain ⟨t,ht,hq⟩:=hbody A outer s H vs Q E (hr.deeper _) hsp
 have I:Inv (cxOf CX P w K mg base N qual scope f cdv A outer s H E) [] (start N vs) H s1:=inv_start S hr.hd e0 hl r x
 refine wpAny_mono (ht [] s1 (start N vs) H _ I hq) (λfl s' hs=>?_) λe s' hs=>hs
 have fin:∀ {σ':St}{H':Hp}{v:V}{u:Value},Inv (cxOf CX P w K mg base N qual scope f cdv A outer s H E) [] σ' H' s'->RelV v u->Q v H'->CE outer P w H s Q u s':=
  λ{σ' H' v u} J rv q=>⟨v,H',J.os,J.bare,J.base,J.hok,rv,q⟩
 cases fl with
 | ret u=>
  obtain ⟨v,σ',H',J,rv,q⟩:=hs
  exact fin J rv q
 | next=>
  obtain ⟨σ',H',J,q⟩:=hs
  exact fin (v:=V.non) (u:=Value.none) J rfl q
 | brk=>
  obtain ⟨_,_,_,q⟩:=hs
  exact False.elim q
 | cont=>
  obtain ⟨_,_,_,q⟩:=hs
  exact False.elim q
end L2
namespace L2
open PySem PySem.Spec PyProof.Rows
section
variable {X:Cx}{x:Str}{p pos:Pos}{e:Expr}{es:List Expr}{t:TA}{id T:String}{r:List V->Hp->VK->Prop}
def tCB (r:List V->Hp->VK->Prop) (t:TA):TE:=fun σ H Q=>t σ H λvs H1=>r vs H1 Q
theorem xH (hc:CallR X (.builtin id) r) (hg:Gl X x) (hm:X.mg x=none) (hv:bootBuiltins x=some (.builtin id)) (ha:PA X (e::es) t) (hn:x ≠ "__name__" := by decide) (hdb:(x == ("__debug__" : Str))=false:=by decide)
  (he:starEach (e::es) X.env=(false,eval e X.env)::starEach es X.env:=by rfl) (hpl:(backTo pos (starEach es X.env)).any (·.1)=false:=by rfl):PE X (.Call (.Name x p) (e::es) [] pos) (tCB r t):=by
 intro pins s σ H Q I h
 refine wpAny_Call_Name_kw (ld_blt I hg hm hv ?_ hn hdb)
 exact PyProof.Rows.callWith_builtin1 (thn (ha pos pins s σ H _ I h) λus s1 ⟨vs,H1,I1,r1,q1⟩=>hc pins s1 σ H1 vs us Q I1 r1 q1) he hpl
theorem xu (hc:CallR X (.type T) r) (hg:Gl X x) (hm:X.mg x=none) (hv:bootBuiltins x=some (.type T)) (ha:PA X (e::es) t) (hn:x ≠ "__name__" := by decide) (hdb:(x == ("__debug__" : Str))=false:=by decide)
  (he:starEach (e::es) X.env=(false,eval e X.env)::starEach es X.env:=by rfl) (hpl:(backTo pos (starEach es X.env)).any (·.1)=false:=by rfl):PE X (.Call (.Name x p) (e::es) [] pos) (tCB r t):=by
 intro pins s σ H Q I h
 refine wpAny_Call_Name_kw (ld_blt I hg hm hv ?_ hn hdb)
 exact yJ (thn (ha pos pins s σ H _ I h) λus s1 ⟨vs,H1,I1,r1,q1⟩=>hc pins s1 σ H1 vs us Q I1 r1 q1) he hpl
end
end L2
namespace L2
open PySem PySem.Spec PyProof.Rows
section
variable {κ:Type} [DecidableEq κ]
end
theorem kV_is {P:Program}{w:World}{k:Key}{u:Value} (r:RelV (kV k) u):(mixKind P w).is k u=true:=by
 cases k with
 | inl i=>obtain ⟨t,e⟩:=(show ∃ t,u=Value.int i t from r);subst e;exact mixKind_int P w i t
 | inr x=>obtain ⟨t,e⟩:=(show ∃ t,u=Value.str x t from r);subst e;exact mixKind_str P w x t
theorem items_are {P:Program}{w:World}:∀ {ks:List Key}{us:List Value},Vals (ks.map kV) us->ItemsAre (mixKind P w) ks us
 | [],_,r=>by rw [yq] at r;cases r;exact .nil
 | k::ks,_,r=>by
  rw [zz] at r
  cases r with
  | cons h t=>exact .cons (kV_is h) (items_are t)
section
variable {P:Program}{w:World}{H:Hp}{h:Heap}{a:Addr}
theorem key_of {ks:List Key} (ok:HOk P w H h) (e:H a=some (.tup (ks.map kV))):(tupleKind (mixKind P w)).is h ks a:=by
 obtain ⟨_,its,r,o,h1,h2,n,h3⟩:=(show ObjOk P w H h a (.tup (ks.map kV)) from ok a _ e)
 exact ⟨o,its.toArray,n,h1,h2,h3,by simpa using items_are r⟩
end
section
variable {X:Cx}{pins:List (Addr×Obj)}{σ:St}{H:Hp}{s:Shared}{a:Addr}{y v:V}{u r:Value}{o:Option V}{A:Around}{E:Value->Shared->Prop}
end
section
variable {X:Cx}{pins:List (Addr×Obj)}{σ:St}{H:Hp}{s:Shared}{a:Addr}{kvs:List (Key×V)}{k:Key}{u:Value}{A:Around}{E:Value->Shared->Prop}
end
section
variable {X:Cx}{o i e value:Expr}{pos pos' tpos:Pos}{td ty tv:TE}
end
section
variable {X:Cx}{pos:Pos}
end
section
variable {X:Cx}{pins:List (Addr×Obj)}{σ:St}{H:Hp}{s:Shared}{a:Addr}{y d:V}{u r:Value}{o:Option V}{A:Around}{E:Value->Shared->Prop}
end
section
variable {X:Cx}{o e f:Expr}{apos cpos:Pos}{td ty tx:TE}
end
section
variable {X:Cx}{pins:List (Addr×Obj)}{σ:St}{H:Hp}{s:Shared}{a:Addr}{kvs:List (Key×V)}{A:Around}{E:Value->Shared->Prop}
end
section
variable {X:Cx}{pins:List (Addr×Obj)}{σ:St}{H:Hp}{s:Shared}{a:Addr}{y:V}{u:Value}{A:Around}{E:Value->Shared->Prop}
end
end L2
namespace HT
open PySem PyProof.Rows
section
open PySem.SeqAt
open PySem.AutoSeq1 (wpAny_loadPart')
open PySem.MeetsSeq PySem.MeetsSeq2 PySem.MeetsSeq3
end
section
variable {prog:Program}{w:World}{A:Around}{E:Value->Shared->Prop}{s:Shared}
def sIx (n d:Nat):Option Int->Nat
 | none=>d
 | some v=>if v < 0 then (v + (n:Int)).toNat else min v.toNat n
theorem sIx_le (n d:Nat) (hd:d<=n) (o:Option Int):sIx n d o<=n:=by
 cases o with
 | none=>exact hd
 | some v=>
  show (if v < 0 then (v + (n:Int)).toNat else min v.toNat n)<=n
  by_cases hv:v < 0
  ·rw [if_pos hv];omega
  ·rw [if_neg hv];exact Nat.min_le_right _ _
theorem clip_eq (v:Int) (n d:Nat):(if v < 0 then max (v + (n:Int)) 0 else min v (n:Int))=((sIx n d (some v):Nat):Int):=by
 show (if v < 0 then max (v + (n:Int)) 0 else min v (n:Int))=(((if v < 0 then (v + (n:Int)).toNat else min v.toNat n):Nat):Int)
 by_cases hv:v < 0
 ·simp only [if_pos hv];omega
 ·simp only [if_neg hv];omega
theorem adjust_gen (lo hi:Option Int) (n:Nat):Builtin.Slice.sliceAdjust lo hi 1 (n:Int)=(((sIx n 0 lo:Nat):Int),((sIx n n hi:Nat):Int)):=by
 have h1:¬ ((1:Int) < 0):=by omega
 unfold Builtin.Slice.sliceAdjust
 simp only [h1,if_false]
 refine Prod.ext ?_ ?_
 ·cases lo with
  | none=>rfl
  | some v=>exact clip_eq v n 0
 ·cases hi with
  | none=>rfl
  | some v=>exact clip_eq v n n
theorem places_gen (i j:Nat):Builtin.Slice.slicePlaces (i:Int) (j:Int) 1=j - i:=by
 unfold Builtin.Slice.slicePlaces
 have h1:(1:Int) > 0:=by omega
 simp only [h1,if_true,Int.ediv_one]
 split <;> omega
theorem slicePart_ {v:Value}{o:Option Int}{Q:Option Int->Shared->Prop} (p:IsPart v o) (h:Q o s):wpAny (model prog w) A (Builtin.Slice.slicePartIndex v) Q E s:=by
 cases p with
 | none=>exact slicePart_none h
 | int i t=>exact slicePart_int h
theorem sliceApplied_gen {sl:Addr}{vl vu:Value}{lo hi:Option Int}{n:Nat}{Q:Int×Int×Nat->Shared->Prop} (hs:s.heap.IsSliceOf sl vl vu .none) (pl:IsPart vl lo) (pu:IsPart vu hi)
  (h:Q (((sIx n 0 lo:Nat):Int),1,sIx n n hi - sIx n 0 lo) s):wpAny (model prog w) A (Builtin.Slice.sliceApplied (.ref sl) (pure (n:Int))) Q E s:=by
 obtain ⟨os,hos,hcs,hds⟩:=id hs
 unfold Builtin.Slice.sliceApplied Builtin.Slice.sliceFields
 refine wpAny_bind (wpAny_bind (wpAny_field hos hds (x:=vl) rfl (wpAny_bind (wpAny_field hos hds (x:=vu) rfl (wpAny_bind (wpAny_field hos hds (x:=.none) rfl (wpAny_pure ?_)))))))
 refine wpAny_bind (slicePart_none ?_)
 show wpAny _ _ (if ((1:Int) == 0)=true then _ else _) _ _ s
 rw [if_neg (by decide)]
 refine wpAny_bind (slicePart_ pl (wpAny_bind (slicePart_ pu (wpAny_bind (wpAny_pure ?_)))))
 show wpAny _ _ (match Builtin.Slice.sliceAdjust lo hi 1 (n:Int) with | (lo,hi)=>pure (lo,(1:Int),Builtin.Slice.slicePlaces lo hi 1)) _ _ s
 rw [adjust_gen lo hi n]
 show wpAny _ _ (pure (((sIx n 0 lo:Nat):Int),(1:Int),Builtin.Slice.slicePlaces ((sIx n 0 lo:Nat):Int) ((sIx n n hi:Nat):Int) 1)) _ _ s
 rw [places_gen]
 exact wpAny_pure h
theorem pick_gen (xs:Array Value) (i k:Nat):((List.range k).filterMap λ(m:Nat)=>xs[((i:Int) + (m:Int) * 1).toNat]?).toArray=((xs.toList.drop i).take k).toArray:=by
 have e:(λ(m:Nat)=>xs[((i:Int) + (m:Int) * 1).toNat]?)=λm=>xs[i + m]?:=by
  funext m
  have:((i:Int) + (m:Int) * 1).toNat=i + m:=by omega
  rw [this]
 rw [e]
 have:=pick_run xs i k
 rw [List.filterMap_map] at this
 have e2:((λx=>xs[x]?) ∘ λx=>i + x)=λm=>xs[i + m]?:=rfl
 rw [e2] at this
 rw [this]
theorem getItem_tuple_cut {t sl:Addr}{items:Array Value}{vl vu:Value}{lo hi:Option Int}{Q:Value->Shared->Prop} (ht:IsTup s.heap t items) (hs:s.heap.IsSliceOf sl vl vu .none) (pl:IsPart vl lo) (pu:IsPart vu hi)
  (hw:¬ (sIx items.size 0 lo=0/\sIx items.size items.size hi=items.size))
  (h:Q (.ref s.heap.objs.size) { s with heap:=s.heap.push { cls:=.type "tuple", data:=.seq ((items.toList.drop (sIx items.size 0 lo)).take (sIx items.size items.size hi - sIx items.size 0 lo)).toArray } })
  (hsz:items.size<=sizeLine):wpAny (model prog w) A (getItem (.ref t) (.ref sl)) Q E s:=by
 have htake:sizeOk (.seq ((items.toList.drop (sIx items.size 0 lo)).take (sIx items.size items.size hi - sIx items.size 0 lo)).toArray):=by
  show ((items.toList.drop (sIx items.size 0 lo)).take (sIx items.size items.size hi - sIx items.size 0 lo)).toArray.size<=sizeLine
  rw [zO,zR,yi,Array.length_toList]
  omega
 have hj:sIx items.size items.size hi<=items.size:=sIx_le _ _ (zF _) hi
 obtain ⟨os,hos,hcs,hds⟩:=id hs
 have hTs:s.TypeIs (.ref sl) "slice" := ⟨os,hos,hcs⟩
 unfold getItem
 try with_reducible refine wpAny_holding ?_
 first | refine wpAny_bind (wpAny_pure ?_) | skip
 refine wpAny_bind (wpAny_sequenceKey ht.typeIs (by decide) ?_)
 refine wpAny_bind (wpAny_callSpecial?_slot (name:=Str.ofString "__getitem__") ht.typeIs PyProof.Rows.slot_tuple_getitem
  (wpAny_call_entry PyProof.Rows.slot_tuple_getitem ht.typeIs entry_tuple_getitem ?_ (args_tuple_getitem _ _)))
 show wpAny _ _ (Builtin.Tuple.tupleItemsOf (.ref t) >>= _) _ _ s
 refine wpAny_bind (tupleItemsOf_ ht ?_)
 refine wpAny_bind (wpAny_typeOf hTs ?_)
 rw [if_pos (by decide)]
 refine wpAny_bind (sliceApplied_gen hs pl pu ?_)
 have hno:¬ ((((sIx items.size 0 lo:Nat):Int) == 0 && (1:Int) == 1 && (sIx items.size items.size hi - sIx items.size 0 lo) == items.size)=true):=by
  intro q
  rw [yj,yj] at q
  have q1:((sIx items.size 0 lo:Nat):Int)=0:=eq_of_beq q.1.1
  have q2:sIx items.size items.size hi - sIx items.size 0 lo=items.size:=eq_of_beq q.2
  exact hw ⟨by omega,by omega⟩
 show wpAny _ _ (if (((sIx items.size 0 lo:Nat):Int) == 0 && (1:Int) == 1 && (sIx items.size items.size hi - sIx items.size 0 lo) == items.size)=true then _ else _) _ _ s
 rw [if_neg hno,pick_gen]
 first
  | exact wpAny_bind (m:=Builtin.Tuple.tupleExact _) (wpAny_newObj_type (wpAny_pure ⟨_,rfl,wpAny_pure h⟩) htake)
  | exact wpAny_bind (m:=Builtin.Tuple.tupleExact _) (wpAny_newObj_type (wpAny_bind (wpAny_pure (wpAny_pure ⟨_,rfl,wpAny_pure h⟩))) htake)
  | exact wpAny_bind (wpAny_bind (m:=Builtin.Tuple.tupleExact _) (wpAny_newObj_type (wpAny_pure (wpAny_pure ⟨_,rfl,wpAny_pure h⟩)) htake))
  | exact wpAny_bind (wpAny_bind (m:=Builtin.Tuple.tupleExact _) (wpAny_newObj_type (wpAny_pure ⟨_,rfl,wpAny_pure h⟩) htake))
end
end HT
namespace L2
open PySem PySem.Spec PyProof.Rows
abbrev TO:=St->Hp->(Option Int->Hp->Prop)->Prop
def PO (X:Cx) (e:Option Expr) (t:TO):Prop:=
 ∀ (pins:List (Addr×Obj)) (s:Shared) (σ:St) (H:Hp) (Q:Option Int->Hp->Prop),Inv X pins σ H s->t σ H Q ->
  wpAny (model X.prog X.w) X.A (evalPart e X.env) (λu s'=>∃ o H',Inv X pins σ H' s'/\IsPart u o/\Q o H') X.xe s
def tNoPart:TO:=λ_ H Q=>Q none H
def tPart (t:TE):TO:=fun σ H Q=>t σ H λx H1=>∃ i,x=.int i/\Q (some i) H1
section
variable {X:Cx}{e:Expr}{te:TE}{lo hi:Option Expr}{tl th:TO} {pos p2:Pos}
theorem po_none:PO X none tNoPart:=by
 intro pins s σ H Q I h
 rw [evalPart_none]
 exact wpAny_pure ⟨none,H,I,.none,h⟩
theorem po_some (h:PE X e te):PO X (some e) (tPart te):=by
 intro pins s σ H Q I hw
 rw [evalPart_some]
 refine thn (h pins s σ H _ I hw) λu s1 ⟨x,H1,I1,r1,q1⟩=>?_
 obtain ⟨i,rfl,q⟩:=q1
 obtain ⟨t,rfl⟩:=r1
 exact ⟨some i,H1,I1,.int i t,q⟩
def SlR (X:Cx) (r:V->Option Int->Option Int->Hp->VK->Prop):Prop:=
 ∀ (pins:List (Addr×Obj)) (s:Shared) (σ:St) (H:Hp) (x:V) (v vl vu:Value) (lo hi:Option Int) (sl:Addr) (Q:VK),Inv X pins σ H s->RelV x v->s.heap.IsSliceOf sl vl vu .none->IsPart vl lo->IsPart vu hi->r x lo hi H Q ->
  ∃ T id,typeLookup (.type T) "__getitem__" = pure (some (.builtin id))/\s.TypeIs v T/\wpAny (model X.prog X.w) X.A (getItem v (.ref sl)) (EP X pins σ Q) X.xe s
def tSl (r:V->Option Int->Option Int->Hp->VK->Prop) (te:TE) (tl th:TO):TE:=fun σ H Q=>te σ H λx H1=>tl σ H1 λl H2=>th σ H2 λu H3=>r x l u H3 Q
theorem pe_slice {r:V->Option Int->Option Int->Hp->VK->Prop} (hr:SlR X r) (he:PE X e te) (hl:PO X lo tl) (hu:PO X hi th):PE X (.Subscript e (.Slice lo hi none p2) pos) (tSl r te tl th):=by
 intro pins s σ H Q I h
 refine Subscript_ (thn (he pins s σ H _ I h) λv s1 ⟨x,H1,I1,r1,q1⟩=>?_)
 refine wpAny_Slice (thn (hl pins s1 σ H1 _ I1 q1) λvl s2 ⟨l,H2,I2,pl,q2⟩=>thn (hu pins s2 σ H2 _ I2 q2) λvu s3 ⟨u,H3,I3,pu,q3⟩=>?_)
 rw [evalPart_none]
 refine wpAny_pure ?_
 have I4:Inv X pins σ H3 { s3 with heap:=s3.heap.push { cls:=.type "slice", data:=.fields #[vl,vu,.none] } }:=I3.kept (t':=s3.toks) λb ob q=>Heap.get?_push_of_some _ q
 obtain ⟨T,id,hT,ht,hg⟩:=hr pins { s3 with heap:=s3.heap.push { cls:=.type "slice", data:=.fields #[vl,vu,.none] } } σ H3 x v vl vu l u s3.heap.objs.size Q I4 r1 (Heap.IsSliceOf.new ..) pl pu q3
 show wpAny (model X.prog X.w) X.A (subscriptTail e (.Slice lo hi none p2) v (.ref s3.heap.objs.size)) (EP X pins σ Q) X.xe { s3 with heap:=s3.heap.push { cls:=.type "slice", data:=.fields #[vl,vu,.none] } }
 exact tail_any (ops:=[.ref s3.heap.objs.size,v]) ht hT hg (by with_unfolding_all rfl)
def cutV (xs:List V) (lo hi:Option Int):List V:=(xs.drop (HT.sIx xs.length 0 lo)).take (HT.sIx xs.length xs.length hi - HT.sIx xs.length 0 lo)
theorem cutV_length (xs:List V) (lo hi:Option Int):(cutV xs lo hi).length<=xs.length:=by
 unfold cutV
 rw [zR,yi]
 omega
def rSlT (K:PySem.W.Frag):V->Option Int->Option Int->Hp->VK->Prop:=λx lo hi H Q=>∃ a xs,x=.ref a/\SqT K H a xs /\
 ¬ (HT.sIx xs.length 0 lo=0/\HT.sIx xs.length xs.length hi=xs.length)/\∀ p,H p=none->Q (.ref p) (upd H p (.tup (cutV xs lo hi)))
theorem sl_tup:SlR X (rSlT X.K):=by
 intro pins s σ H x v vl vu lo hi sl Q I rx hs pl pu h
 obtain ⟨a,xs,rfl,hx,hw,q⟩:=h
 cases rx
 obtain ⟨its,r,ht,hz⟩:=I.tuple hx
 have hlen:its.toArray.size=xs.length:=by rw [zO];exact r.length.symm
 refine ⟨"tuple", _,PyProof.Rows.slot_tuple_getitem.lookup,ht.typeIs,?_⟩
 refine HT.getItem_tuple_cut ht hs pl pu (by rw [hlen];exact hw) ?_ (by rw [hlen];exact hz)
 rw [hlen]
 refine ⟨.ref s.heap.objs.size,_,I.laid (t':=s.toks) (o:=.tup (cutV xs lo hi)) (λb ob q=>Heap.get?_push_of_some _ q) (zF _) ?_,rfl,q _ (I.hok.fresh (zF _))⟩
 exact ⟨⟨zm (cutV_length xs lo hi) hz,new_bare⟩,_,(r.drop (HT.sIx xs.length 0 lo)).take (HT.sIx xs.length xs.length hi - HT.sIx xs.length 0 lo),IsTup.new _ _⟩
end
end L2
namespace L2
open PySem PySem.Spec PyProof.Rows
def ixN (n:Nat) (i:Int):Option Nat:=if 0<=i then (if i < n then some i.toNat else none) else if -(n:Int)<=i then some (i + n).toNat else none
def atI {α:Type} (xs:List α) (i:Int):Option α:=(ixN xs.length i).bind λj=>xs[j]?
theorem ixN_seq {n:Nat}{i:Int}{j:Nat} (h:ixN n i=some j):seqIndex? i n=some j/\j < n/\-(n:Int)<=i/\i < n:=by
 unfold ixN at h
 by_cases h0:0<=i
 ·rw [if_pos h0] at h
  by_cases h1:i < n
  ·rw [if_pos h1] at h
   have e:i.toNat=j:=Option.some.inj h
   exact ⟨by rw [seqIndex_of h0 h1,e],by omega,by omega,h1⟩
  ·rw [if_neg h1] at h;cases h
 ·rw [if_neg h0] at h
  by_cases h1:-(n:Int)<=i
  ·rw [if_pos h1] at h
   have e:(i + n).toNat=j:=Option.some.inj h
   exact ⟨by rw [seqIndex_neg (by omega) h1,e],by omega,h1,by omega⟩
  ·rw [if_neg h1] at h;cases h
theorem atI_get {α:Type}{xs:List α}{i:Int}{v:α} (h:atI xs i=some v):∃ j,seqIndex? i xs.length=some j/\xs[j]?=some v/\j < xs.length/\-(xs.length:Int)<=i/\i < xs.length:=by
 unfold atI at h
 cases e:ixN xs.length i with
 | none=>rw [e] at h;cases h
 | some j=>
  rw [e] at h
  obtain ⟨h1,h2,h3,h4⟩:=ixN_seq e
  exact ⟨j,h1,h,h2,h3,h4⟩
theorem xh {α:Type}{xs:List α}{j:Nat}{v:α} (h:xs[j]?=some v):atI xs (j:Int)=some v:=by
 have hj:j < xs.length:=(zK.mp h).1
 have e:ixN xs.length (j:Int)=some j:=by
  unfold ixN
  rw [if_pos (by omega),if_pos (by omega)];simp
 unfold atI;rw [e];exact h
def PlainIx (b:Expr):Prop:=∀ o i,subscripted b false o i=operate [o,i] (getItem o i)
def IxR (X:Cx) (r:R2):Prop:=
 ∀ (value slice:Expr) (pins:List (Addr×Obj)) (s:Shared) (σ:St) (H:Hp) (x y:V) (v u:Value) (Q:VK),Inv X pins σ H s->RelV x v->RelV y u->r x y H Q ->
  subscripted slice false v u=operate [v,u] (getItem v u)->wpAny (model X.prog X.w) X.A (subscriptTail value slice v u) (EP X pins σ Q) X.xe s
def MtR (X:Cx) (id:String) (r:V->List V->Hp->VK->Prop):Prop:=
 ∀ (pins:List (Addr×Obj)) (s:Shared) (σ:St) (H:Hp) (x:V) (xs:List V) (v:Value) (us:List Value) (Q:VK),Inv X pins σ H s->RelV x v->Vals xs us->r x xs H Q ->
  wpAny (model X.prog X.w) X.A (call (.builtin id) (v::us)) (EP X pins σ Q) X.xe s
section
variable {X:Cx}{a b:Expr}{ta tb:TE}{pos:Pos}
theorem xM {r:R2} (hr:IxR X r) (ha:PE X a ta) (hb:PE X b tb) (hs:PlainIx b):PE X (.Subscript a b pos) (tOp r ta tb):=by
 intro pins s σ H Q I h
 exact Subscript_ (binT ha hb I h λv u s2 x y H2 I2 rx ry q=>hr a b pins s2 σ H2 x y v u Q I2 rx ry q (hs _ _))
def rIxL (K:PySem.W.Frag):R2:=λx y H Q=>∃ p xs i v,x=.ref p/\y=.int i/\SqL K H p xs/\atI xs i=some v/\Q v H
def rIxT (K:PySem.W.Frag):R2:=λx y H Q=>∃ p xs i v,x=.ref p/\y=.int i/\SqT K H p xs/\atI xs i=some v/\Q v H
theorem ix_list:IxR X (rIxL X.K):=by
 intro value slice pins s σ H x y v u Q I rx ry h hs
 obtain ⟨p,xs,i,z,rfl,rfl,hq,he,q⟩:=h
 cases rx
 obtain ⟨t,rfl⟩:=ry
 obtain ⟨its,r,pl,hz⟩:=I.list hq
 obtain ⟨j,h1,h2,h3,h4,h5⟩:=atI_get he
 obtain ⟨w,ew,rw'⟩:=r.get h2
 have hl:=r.length
 have hn:=line63
 have fin:EP X pins σ Q w s:=⟨z,H,I,rw',q⟩
 by_cases h0:0<=i
 ·have hj:i.toNat=j:=by
   rw [seqIndex_of h0 h5] at h1
   exact Option.some.inj h1
  exact item_listR pl.isList h0 (by omega) (by rw [hj];simpa using ew) fin hs
 ·have hj:(i + (its.toArray.size:Int)).toNat=j:=by
   rw [seqIndex_neg (by omega) h4] at h1
   rw [zO,<- hl]
   exact Option.some.inj h1
  exact subscriptTail_builtinR (x:=w) pl.isList.typeIs slot_list_getitem.lookup
   (wpAny_getItem_list_neg (Q:=λr s'=>r=w/\EP X pins σ Q r s') pl.isList (by omega) (by rw [zO] <;> omega) (by omega) (by rw [hj];simpa using ew) ⟨rfl,fin⟩) hs
theorem ix_tup:IxR X (rIxT X.K):=by
 intro value slice pins s σ H x y v u Q I rx ry h hs
 obtain ⟨p,xs,i,z,rfl,rfl,hq,he,q⟩:=h
 cases rx
 obtain ⟨t,rfl⟩:=ry
 obtain ⟨its,r,pl,hz⟩:=I.tuple hq
 obtain ⟨j,h1,h2,h3,h4,h5⟩:=atI_get he
 obtain ⟨w,ew,rw'⟩:=r.get h2
 have hl:=r.length
 have hn:=line63
 have fin:EP X pins σ Q w s:=⟨z,H,I,rw',q⟩
 exact subscriptTail_builtinR (x:=w) pl.typeIs slot_tuple_getitem.lookup
  (getItem_tuple (j:=j) (Q:=λr s'=>r=w/\EP X pins σ Q r s') pl (by omega) (by omega) (by rw [zO,<- hl];exact h1) (by simpa using ew) ⟨rfl,fin⟩) hs
theorem mapSeq_set (its:List Value) (n j:Nat) (u:Value):Obj.mapSeq (·.setIfInBounds j u) { cls:=.type "list", data:=.seq its.toArray n }={ cls:=.type "list", data:=.seq (its.set j u).toArray n }:=by
 simp [Obj.mapSeq]
theorem Inv.lst {pins:List (Addr×Obj)}{σ:St}{H:Hp}{s:Shared}{p:Addr}{xs:List V} (I:Inv X pins σ H s) (h:H p=some (.lst xs)) :
  ∃ (its:List Value) (n:Nat),Vals xs its/\s.heap.get? p=some { cls:=.type "list", data:=.seq its.toArray n }/\xs.length<=sizeLine:=by
 obtain ⟨z,its,n,r,e⟩:=I.hok p _ h
 exact ⟨its,n,r,e,z⟩
theorem Inv.lstUpd {pins:List (Addr×Obj)}{σ:St}{H:Hp}{s:Shared}{p:Addr}{xs ys:List V}{its its':List Value}{n n':Nat}{f:Obj->Obj} (I:Inv X pins σ H s) (h:H p=some (.lst xs))
  (ho:s.heap.get? p=some { cls:=.type "list", data:=.seq its.toArray n }) (hf:f { cls:=.type "list", data:=.seq its.toArray n }={ cls:=.type "list", data:=.seq its'.toArray n' }) (r:Vals ys its') (hz:ys.length<=sizeLine) (t:Nat) :
  Inv X pins σ (upd H p (.lst ys)) { s with heap:=s.heap.update p f,toks:=t }:=by
 have e:(s.heap.update p f).get? p=some { cls:=.type "list", data:=.seq its'.toArray n' }:=by
  rw [Heap.get?_update_self f ho (by rw [hf] <;> rfl),hf]
 refine I.write (x:=p) (e:=p) (by rw [h];trivial) (.inl rfl) (λb u hb q=>(Heap.get?_update_other _ _ (Ne.symm hb)).trans q) ⟨_,e⟩ ?_
 exact ⟨hz,its',n',r,e⟩
def rSetL:V->V->V->Hp->(Hp->Prop)->Prop:=λo i v H Q=>∃ p xs k j,o=.ref p/\i=.int k/\H p=some (.lst xs)/\ixN xs.length k=some j/\Q (upd H p (.lst (xs.set j v)))
theorem xr:PSet X rSetL:=by
 intro pins s σ H o i v ov iv u Q I ro ri rv h
 obtain ⟨p,xs,k,j,rfl,rfl,hp,hj,q⟩:=h
 cases ro
 obtain ⟨t,rfl⟩:=ri
 obtain ⟨its,n,r,ho,hz⟩:=I.lst hp
 obtain ⟨h1,h2,h3,h4⟩:=ixN_seq hj
 have hl:=r.length
 have hn:=line63
 have I':Inv X pins σ (upd H p (.lst (xs.set j v))) { s with heap:=s.heap.update p (Obj.mapSeq (·.setIfInBounds j u)) }:=
  I.lstUpd hp ho (mapSeq_set its n j u) (r.set rv j) (by rw [zq];exact hz) s.toks
 by_cases h0:0<=k
 ·have hk:k.toNat=j:=by
   rw [seqIndex_of h0 h4] at h1
   exact Option.some.inj h1
  exact PySem.W.ki_setAt ho h0 (by omega) (by rw [zO,<- hl];exact h4) (by rw [hk];exact ⟨_,I',q⟩)
 ·have hk:(k + (its.toArray.size:Int)).toNat=j:=by
   rw [seqIndex_neg (by omega) h3] at h1
   rw [zO,<- hl]
   exact Option.some.inj h1
  exact PySem.W.ki_setBack ho (by omega) (by rw [zO,<- hl];exact h3) (by omega) (by rw [hk];exact ⟨_,I',q⟩)
def flatV:V->Bool
 | .non=>true
 | .bl _=>true
 | .int _=>true
 | .str _=>true
 | _=>false
def eqV:V->V->Bool
 | .non,.non=>true
 | .bl a,.bl b=>a == b
 | .bl a,.int b=>(if a then 1 else 0) == b
 | .int a,.bl b=>a == (if b then 1 else 0)
 | .int a,.int b=>a == b
 | .str a,.str b=>a == b
 | _,_=>false
theorem eqAt_V {A:Around}{s:Shared}{y x:V}{u v:Value} (ry:RelV y u) (rx:RelV x v) (fy:flatV y=true) (fx:flatV x=true):SeqAt.EqAt A s u v (eqV y x):=by
 cases y with
 | non=>
  cases ry
  cases x with
  | non=>cases rx;exact SeqAt.EqAt.same _
  | bl b=>cases rx;exact SeqAt.EqAt.none_bool b
  | int b=>obtain ⟨t,rfl⟩:=rx;exact SeqAt.EqAt.none_int b t
  | str b=>obtain ⟨t,rfl⟩:=rx;exact SeqAt.EqAt.none_str b t
  | _=>exact absurd (show false=true from fx) zL
 | bl a=>
  cases ry
  cases x with
  | non=>cases rx;exact SeqAt.EqAt.bool_none a
  | bl b=>cases rx;exact SeqAt.EqAt.bool_bool a b
  | int b=>obtain ⟨t,rfl⟩:=rx;exact SeqAt.EqAt.bool_int a b t
  | str b=>obtain ⟨t,rfl⟩:=rx;exact SeqAt.EqAt.bool_str a b t
  | _=>exact absurd (show false=true from fx) zL
 | int a=>
  obtain ⟨t',rfl⟩:=ry
  cases x with
  | non=>cases rx;exact SeqAt.EqAt.int_none a t'
  | bl b=>cases rx;exact SeqAt.EqAt.int_bool a t' b
  | int b=>obtain ⟨t,rfl⟩:=rx;exact SeqAt.EqAt.int_int a t' b t
  | str b=>obtain ⟨t,rfl⟩:=rx;exact SeqAt.EqAt.int_str a t' b t
  | _=>exact absurd (show false=true from fx) zL
 | str a=>
  obtain ⟨t',rfl⟩:=ry
  cases x with
  | non=>cases rx;exact SeqAt.EqAt.str_none a t'
  | bl b=>cases rx;exact SeqAt.EqAt.str_bool a t' b
  | int b=>obtain ⟨t,rfl⟩:=rx;exact SeqAt.EqAt.str_int a t' b t
  | str b=>obtain ⟨t,rfl⟩:=rx;exact SeqAt.EqAt.str_str a t' b t
  | _=>exact absurd (show false=true from fx) zL
 | _=>exact absurd (show false=true from fy) zL
def eqU (x:V) (u:Value):Bool:=match u with
 | .none=>eqV .non x
 | .bool b=>eqV (.bl b) x
 | .int i _=>eqV (.int i) x
 | .str z _=>eqV (.str z) x
 | _=>false
theorem eqU_of {x y:V}{u:Value} (r:RelV y u) (f:flatV y=true):eqU x u=eqV y x:=by
 cases y with
 | non=>cases r;rfl
 | bl b=>cases r;rfl
 | int i=>obtain ⟨t,rfl⟩:=r;rfl
 | str z=>obtain ⟨t,rfl⟩:=r;rfl
 | _=>exact absurd (show false=true from f) zL
theorem any_eqU {x:V}:∀ {xs:List V}{us:List Value},Vals xs us->xs.all flatV=true->us.any (eqU x)=xs.any λy=>eqV y x
 | _,_,.nil,_=>rfl
 | y::xs,u::us,.cons r t,f=>by
  rw [List.all_cons,yj] at f
  rw [List.any_cons,List.any_cons,eqU_of r f.1,any_eqU t f.2]
theorem mem_eqAt {A:Around}{s:Shared}{x:V}{v:Value} (rx:RelV x v) (fx:flatV x=true):∀ {xs:List V}{us:List Value},Vals xs us->xs.all flatV=true->∀ u∈us,SeqAt.EqAt A s u v (eqU x u)
 | _,_,.nil,_=>λu hu=>by cases hu
 | y::xs,u::us,.cons r t,f=>λu' hu=>by
  rw [List.all_cons,yj] at f
  rcases zC.mp hu with rfl | hu
  ·rw [eqU_of r f.1];exact eqAt_V r rx f.1 fx
  ·exact mem_eqAt rx fx t f.2 u' hu
def inV (x:V) (xs:List V):Bool:=xs.any λy=>eqV y x
def rIn (K:PySem.W.Frag) (neg:Bool):R2:=λx y H Q=>∃ p xs,y=.ref p/\(SqL K H p xs\/SqT K H p xs)/\flatV x=true/\xs.all flatV=true/\Q (.bl (if neg then !inV x xs else inV x xs)) H
theorem op_in_seq:OpR X (compareOp .In) (rIn X.K false):=by
 intro pins s σ H x y v u Q I rx ry h
 obtain ⟨p,xs,rfl,hq,fx,fs,q⟩:=h
 cases ry
 rcases hq with hq | hq
 ·obtain ⟨its,r,pl,hz⟩:=I.list hq
  refine SeqAt.in_listAt (eqU x) pl.isList (λw hw=>mem_eqAt rx fx r fs w (by simpa using hw)) ⟨.bl _,H,I,rfl,?_⟩
  rw [show its.toArray.any (eqU x)=its.any (eqU x) by simp,any_eqU r fs]
  exact q
 ·obtain ⟨its,r,pl,hz⟩:=I.tuple hq
  refine SeqAt.in_tupleAt (eqU x) pl (λw hw=>mem_eqAt rx fx r fs w (by simpa using hw)) ⟨.bl _,H,I,rfl,?_⟩
  rw [show its.toArray.any (eqU x)=its.any (eqU x) by simp,any_eqU r fs]
  exact q
theorem op_notIn_seq:OpR X (compareOp .NotIn) (rIn X.K true):=by
 intro pins s σ H x y v u Q I rx ry h
 obtain ⟨p,xs,rfl,hq,fx,fs,q⟩:=h
 cases ry
 rcases hq with hq | hq
 ·obtain ⟨its,r,pl,hz⟩:=I.list hq
  refine SeqAt.notIn_listAt (eqU x) pl.isList (λw hw=>mem_eqAt rx fx r fs w (by simpa using hw)) ⟨.bl _,H,I,rfl,?_⟩
  rw [show its.toArray.any (eqU x)=its.any (eqU x) by simp,any_eqU r fs]
  exact q
 ·obtain ⟨its,r,pl,hz⟩:=I.tuple hq
  refine SeqAt.notIn_tupleAt (eqU x) pl (λw hw=>mem_eqAt rx fx r fs w (by simpa using hw)) ⟨.bl _,H,I,rfl,?_⟩
  rw [show its.toArray.any (eqU x)=its.any (eqU x) by simp,any_eqU r fs]
  exact q
theorem call_len_seq:CallR X (.builtin "len") (λxs H Q=>∃ p ys,xs=[.ref p]/\(SqL X.K H p ys\/SqT X.K H p ys)/\Q (.int ys.length) H):=by
 intro pins s σ H xs us Q I r h
 obtain ⟨p,ys,rfl,hq,q⟩:=h
 obtain ⟨u,rfl,rx⟩:=vals1 r
 cases rx
 have hn:=line63
 rcases hq with hq | hq
 ·obtain ⟨its,r',pl,hz⟩:=I.list hq
  have hlen:=r'.length
  exact Calls.call_len_list pl.isList (by simp only [zO] <;> omega) ⟨.int ys.length,H,I.tok _,⟨s.toks + 1,by rw [zO,hlen]⟩,q⟩
 ·obtain ⟨its,r',pl,hz⟩:=I.tuple hq
  have hlen:=r'.length
  exact len_tuple pl (by simp only [zO] <;> omega) ⟨.int ys.length,H,I.tok _,⟨s.toks + 1,by rw [zO,hlen]⟩,q⟩
theorem call_list_of:CallR X (.type "list") (λxs H Q=>∃ p ys,xs=[.ref p]/\(SqL X.K H p ys\/SqT X.K H p ys)/\∀ l,H l=none->Q (.ref l) (upd H l (.lst ys))):=by
 intro pins s σ H xs us Q I r h
 obtain ⟨p,ys,rfl,hq,q⟩:=h
 obtain ⟨u,rfl,rx⟩:=vals1 r
 cases rx
 have fin:∀ (its:List Value),Vals ys its->ys.length<=sizeLine->∀ (h':Heap) (c':Nat),(∀ b o',s.heap.get? b=some o'->h'.get? b=some o') ->
   h'.get? s.heap.objs.size=some { cls:=.type "list", dict:=none,data:=.seq its.toArray c',slots:=#[] }->EP X pins σ Q (.ref s.heap.objs.size) { s with heap:=h' }:=λits r' hz h' c' kp e=>
  ⟨.ref s.heap.objs.size,_,I.laid (t':=s.toks) kp (zF _) (show ObjOk X.prog X.w _ h' _ (.lst ys) from ⟨hz,its,c',r',e⟩),rfl,q _ (I.hok.fresh (zF _))⟩
 rcases hq with hq | hq
 ·obtain ⟨its,r',pl,hz⟩:=I.list hq
  have hlen:=r'.length
  obtain ⟨o,ho,hc,n,hd⟩:=pl.isList
  exact call_list_seq p (.inl rfl) ho hc hd (λh' c' kp e=>fin its r' hz h' c' kp e) (by simp only [zO] <;> omega)
 ·obtain ⟨its,r',pl,hz⟩:=I.tuple hq
  have hlen:=r'.length
  obtain ⟨o,ho,hc,n,hd⟩:=pl
  exact call_list_seq p (.inr rfl) ho hc hd (λh' c' kp e=>fin its r' hz h' c' kp e) (by simp only [zO] <;> omega)
theorem call_tuple_of:CallR X (.type "tuple") (λxs H Q=>∃ p ys,xs=[.ref p]/\((SqL X.K H p ys/\∀ l,H l=none->Q (.ref l) (upd H l (.tup ys)))\/(SqT X.K H p ys/\Q (.ref p) H))):=by
 intro pins s σ H xs us Q I r h
 obtain ⟨p,ys,rfl,h⟩:=h
 obtain ⟨u,rfl,rx⟩:=vals1 r
 cases rx
 rcases h with ⟨hq,q⟩ | ⟨hq,q⟩
 ·obtain ⟨its,r',pl,hz⟩:=I.list hq
  have hlen:=r'.length
  refine call_tuple_list pl.isList (λh' kp=>?_) (by simp only [zO] <;> omega)
  have I1:Inv X pins σ H { s with heap:=h' }:=I.kept (t':=s.toks) kp
  have I2:Inv X pins σ (upd H h'.objs.size (.tup ys)) { s with heap:=h'.push { cls:=.type "tuple", data:=.seq its.toArray } }:=
   I1.laid (t':=s.toks) (λb o e=>Heap.get?_push_of_some _ e) (zF _) (show ObjOk X.prog X.w _ _ _ (.tup ys) from ⟨⟨hz,new_bare⟩,its,r',IsTup.new _ _⟩)
  exact ⟨.ref h'.objs.size,_,I2,rfl,q _ (I1.hok.fresh (zF _))⟩
 ·obtain ⟨its,r',pl,hz⟩:=I.tuple hq
  exact call_tuple_same pl ⟨.ref p,H,I,rfl,q⟩
def tyV (K:PySem.W.Frag) (T:String) (x:V) (H:Hp):Prop:=match x with
 | .str _=>T = "str"
 | .int _=>T = "int"
 | .ref p=>(T = "list" /\ ∃ xs,SqL K H p xs)\/(T = "tuple" /\ ((∃ o,K.lookup p=some o/\o.cls=.type "tuple" /\ o.dict=none)\/∃ xs,H p=some (.tup xs))) \/
   (T = "dict" /\ ((∃ kvs,H p=some (.dK kvs))\/∃ kvs,H p=some (.dT kvs)))\/(T = "set" /\ ∃ S n,H p=some (.set S n))
 | _=>False
theorem tyV_is {pins:List (Addr×Obj)}{σ:St}{H:Hp}{s:Shared}{T:String}{x:V}{v:Value} (I:Inv X pins σ H s) (r:RelV x v) (ty:tyV X.K T x H) :
  s.TypeIs v T/\∀ a,v=.ref a->∃ ob,s.heap.get? a=some ob/\ob.dict=none:=by
 cases x with
 | str z=>
  obtain ⟨t,rfl⟩:=r
  cases (show T = "str" from ty)
  exact ⟨typeIs_str s z t,λ_ e=>nomatch e⟩
 | int i=>
  obtain ⟨t,rfl⟩:=r
  cases (show T = "int" from ty)
  exact ⟨typeIs_int s i t,λ_ e=>nomatch e⟩
 | ref p=>
  cases r
  rcases ty with ⟨rfl,xs,hq⟩ | ⟨rfl,⟨o,hk,hc,hd⟩ | ⟨xs,hk⟩⟩ | ⟨rfl,hk⟩ | ⟨rfl,S,n,hk⟩
  ·obtain ⟨its,_,pl,_⟩:=I.list hq
   refine ⟨pl.isList.typeIs,λa e=>?_⟩
   cases e
   obtain ⟨o,n,e,c,hd,_⟩:=pl
   exact ⟨o,e,hd⟩
  ·refine ⟨⟨o,I.kIn p o hk,hc⟩,λa e=>?_⟩
   cases e
   exact ⟨o,I.kIn _ o hk,hd⟩
  ·obtain ⟨nb,_,_,o,e,c,_⟩:=I.hok p _ hk
   exact ⟨⟨o,e,c⟩,λa z=>by cases z;exact ⟨o,e,nb.2 o e⟩⟩
  ·have z:∃ o,s.heap.get? p=some o/\o.ExactDict:=by
    rcases hk with ⟨kvs,hk⟩ | ⟨kvs,hk⟩
    ·obtain ⟨_,_,_,_,o,_,_,e,ex,_⟩:=I.hok p _ hk
     exact ⟨o,e,ex⟩
    ·obtain ⟨_,_,_,_,o,_,_,e,ex,_⟩:=I.hok p _ hk
     exact ⟨o,e,ex⟩
   obtain ⟨o,e,ex⟩:=z
   refine ⟨⟨o,e,ex.1⟩,λa e2=>?_⟩
   cases e2
   exact ⟨o,e,ex.2.1⟩
  ·obtain ⟨o,_,_,_,e,ex,_⟩:=I.hok p _ hk
   refine ⟨⟨o,e,ex.1⟩,λa e2=>?_⟩
   cases e2
   exact ⟨o,e,ex.2.1⟩
 | _=>exact False.elim ty
def tBM (K:PySem.W.Frag) (T:String) (r:V->List V->Hp->VK->Prop) (to:TE) (t:TA):TE:=fun σ H Q=>to σ H λx H1=>tyV K T x H1/\t σ H1 λxs H2=>r x xs H2 Q
variable {o e:Expr}{es:List Expr}{to:TE}{t:TA}{name:Str}{apos cpos:Pos}{T id:String}{r:V->List V->Hp->VK->Prop}
theorem pe_bm (pa:PlainAttrs T) (slot:Slot T name id) (hty:typeOf (.builtin id)=pure (.type "method_descriptor")) (hm:MtR X id r) (ho:PE X o to) (ha:PA X (e::es) t)
  (hbase:attributeBase o name X.env (eval o X.env)=eval o X.env:=by rfl)
  (hfew:((backTo cpos (starEach (e::es) X.env)).all (λx=>!x.1) && (backToKw cpos (keywordEach [] X.env)).all (λx=>x.1.isSome)
   && decide ((e::es).length + ([]:List Keyword).length + (if ([]:List Keyword).isEmpty then 0 else 1) < 30))=true:=by rfl)
  (hline:(apos.endLine == cpos.line)=true:=by rfl) (hs:starEach (e::es) X.env=(false,eval e X.env)::starEach es X.env:=by rfl) (hplain:(backTo cpos (starEach es X.env)).any (·.1)=false:=by rfl) :
  PE X (.Call (.Attribute o name apos) (e::es) [] cpos) (tBM X.K T r to t):=by
 intro pins s σ H Q I h
 refine wpAny_Call_method_late hbase hfew hline rfl (thn (ho pins s σ H _ I h) λv s1 ⟨x,H1,I1,r1,ty,q1⟩=>?_)
 obtain ⟨h1,h2⟩:=tyV_is I1 r1 ty
 refine ⟨T,id,pa,slot,hty,h1,h2,?_⟩
 have hA:=ha cpos pins s1 σ H1 _ I1 q1
 rw [hs] at hA ⊢
 refine Calls.callWith_builtin (by show (false || (backTo cpos (starEach es X.env)).any (·.1))=false;rw [hplain] <;> rfl) (Calls.evalArgs_plain ?_)
 exact thn hA λus s2 ⟨vs,H2,I2,r2,q2⟩=>hm pins s2 σ H2 x vs v us Q I2 r1 r2 q2
/- xs.append(e),list.index on a module's tuple .. are MtR facts of 06m -/
end
end L2
namespace L2
open PySem PySem.Spec PyProof.Rows
def MtM (X:Cx) (id:String) (r:V->List V->Hp->VK->Prop):Prop:=
 ∀ (pins:List (Addr×Obj)) (s:Shared) (σ:St) (H:Hp) (x:V) (xs:List V) (v:Value) (us:List Value) (Q:VK),Inv X pins σ H s->RelV x v->Vals xs us->r x xs H Q ->
  wpAny (model X.prog X.w) X.A (call (.builtin id) (v::us)) (EP X pins σ Q) X.xe s
theorem Vals.one:∀ {x:V}{us:List Value},Vals [x] us->∃ u,us=[u]/\RelV x u
 | _,_,.cons r .nil=>⟨_,rfl,r⟩
theorem Vals.reverse {xs:List V}{us:List Value} (h:Vals xs us):Vals xs.reverse us.reverse:=by
 induction h with
 | nil=>exact .nil
 | cons r t ih=>rw [List.reverse_cons,List.reverse_cons];exact Vals.append ih (.cons r .nil)
theorem Vals.rep {xs:List V}{us:List Value} (h:Vals xs us):∀ k:Nat,Vals (List.replicate k xs).flatten (List.replicate k us).flatten
 | 0=>.nil
 | k + 1=>by
  rw [yC,yC,yc,yc]
  exact Vals.append h (Vals.rep h k)
theorem foldl_rep (its:List Value):∀ (k:Nat) (acc:List Value),
  List.foldl (λx1 x2=>x1++x2) acc.toArray (List.replicate k its.toArray)=(acc++(List.replicate k its).flatten).toArray
 | 0,acc=>by simp
 | k + 1,acc=>by
  have e:acc.toArray++its.toArray=(acc++its).toArray:=by simp
  have e2:(acc++its)++(List.replicate k its).flatten=acc++(List.replicate (k + 1) its).flatten:=by
   rw [yC,yc,List.append_assoc]
  rw [<-e2,<- foldl_rep its k (acc++its),<- e,yC,List.foldl_cons]
section
variable {X:Cx}{pins:List (Addr×Obj)}{σ:St}{H:Hp}{s:Shared}{l b:Addr}{xs ys zs:List V}
theorem Inv.lset {its its':List Value}{n:Nat}{f:Array Value->Array Value}{t':Nat} (I:Inv X pins σ H s) (hH:H l=some (.lst xs))
  (e:s.heap.get? l=some { cls:=.type "list", data:=.seq its.toArray n }) (hf:f its.toArray=its'.toArray) (hv:Vals ys its') (hz:ys.length<=sizeLine) :
  Inv X pins σ (upd H l (.lst ys)) { s with heap:=s.heap.update l (Obj.mapSeq f),toks:=t' }:=by
 have q:=PySem.IsL.update e f
 rw [hf] at q
 refine I.write (x:=l) (e:=l) (by rw [hH];exact trivial) (.inl rfl) (λb' u hb hu=>(Heap.get?_update_other s.heap (Obj.mapSeq f) (Ne.symm hb)).trans hu) ⟨_,q⟩ ?_
 exact ⟨hz,its',_,hv,q⟩
theorem Inv.lnew {its:List Value}{t':Nat} (I:Inv X pins σ H s) (hv:Vals ys its) (hz:ys.length<=sizeLine) :
  Inv X pins σ (upd H s.heap.objs.size (.lst ys)) { s with heap:=s.heap.push { cls:=.type "list", data:=.seq its.toArray },toks:=t' }:=
 I.laid (λ_ _ q=>Heap.get?_push_of_some _ q) (zF _) ⟨hz,its,0,hv,Heap.get?_push_size _ rfl⟩
theorem Inv.fresh (I:Inv X pins σ H s):H s.heap.objs.size=none:=I.hok.fresh (zF _)
theorem Inv.lstM (I:Inv X pins σ H s) (hH:H l=some (.lst xs)):xs.length<=sizeLine/\∃ (its:List Value) (n:Nat),Vals xs its/\xs.length=its.length/\s.heap.get? l=some { cls:=.type "list", data:=.seq its.toArray n }:=by
 obtain ⟨z,its,n,r,e⟩:=I.hok l _ hH
 exact ⟨z,its,n,r,r.length,e⟩
theorem notLongL {n:Nat} (h:n<=sizeLine):Builtin.List.listTooLong n=false:=by
 unfold Builtin.List.listTooLong
 exact decide_eq_false (by omega)
end
section
variable {X:Cx}
def rAppend:V->List V->Hp->VK->Prop:=λx vs H Q=>∃ l xs y,x=.ref l/\vs=[y]/\H l=some (.lst xs)/\xs.length < sizeLine/\Q .non (upd H l (.lst (xs++[y])))
theorem mt_append:MtM X "list.append" rAppend:=by
 intro pins s σ H x vs v us Q I rx rv h
 obtain ⟨l,xs,y,rfl,rfl,hH,hz,q⟩:=h
 cases rx
 obtain ⟨u,rfl,ru⟩:=rv.one
 obtain ⟨z,its,n,r,hl,e⟩:=I.lstM hH
 refine call_meets F.slot_list_append ⟨_,e,rfl⟩ F.entry_list_append (F.args_list_append_2 _ _) (PySem.list_append l its.toArray n u (by rw [zO];omega)) ⟨e,?_⟩
 refine ⟨.non,_,I.lset (its':=its++[u]) hH e (by simp) (r.append (.cons ru .nil)) ?_,rfl,q⟩
 rw [zT,yZ]
 omega
def rCat:R2:=λx y H Q=>∃ l b xs zs,x=.ref l/\y=.ref b/\H l=some (.lst xs)/\H b=some (.lst zs)/\xs.length + zs.length<=sizeLine/\∀ p,H p=none->Q (.ref p) (upd H p (.lst (xs++zs)))
theorem op_cat:OpR X (binaryOp .Add) rCat:=by
 intro pins s σ H x y v u Q I rx ry h
 obtain ⟨l,b,xs,zs,rfl,rfl,hH,hB,hz,q⟩:=h
 cases rx
 cases ry
 obtain ⟨z,its,n,r,hl,e⟩:=I.lstM hH
 obtain ⟨z2,its2,n2,r2,hl2,e2⟩:=I.lstM hB
 refine PySem.P.add_list e e2 ?_ (by rw [zO,zO];omega)
 have ea:its.toArray++its2.toArray=(its++its2).toArray:=by simp
 rw [ea]
 exact ⟨.ref _,_,I.lnew (t':=s.toks) (r.append r2) (by rw [zT];omega),rfl,q _ I.fresh⟩
def rRep:R2:=λx y H Q=>∃ l k xs,x=.ref l/\y=.int k/\H l=some (.lst xs)/\-(2 ^ 63)<=k/\k < 2 ^ 63/\xs.length * k.toNat<=sizeLine /\
 ∀ p,H p=none->Q (.ref p) (upd H p (.lst (List.replicate k.toNat xs).flatten))
theorem len_rep {α:Type} (xs:List α) (k:Nat):(List.replicate k xs).flatten.length=k * xs.length:=by
 induction k with
 | zero=>simp
 | succ k ih=>rw [yC,yc,zT,ih,Nat.succ_mul,Nat.add_comm]
theorem op_rep:OpR X (binaryOp .Mult) rRep:=by
 intro pins s σ H x y v u Q I rx ry h
 obtain ⟨l,k,xs,rfl,rfl,hH,h1,h2,hz,q⟩:=h
 cases rx
 obtain ⟨t,rfl⟩:=ry
 obtain ⟨z,its,n,r,hl,e⟩:=I.lstM hH
 have hlen:its.toArray.size * k.toNat<=sizeLine:=by rw [zO,<- hl];exact hz
 have hcap:¬ its.toArray.size * k.toNat > (2 ^ 63 - 1) / 8:=by
  have:(sizeLine:Nat)<=(2 ^ 63 - 1) / 8:=by decide
  omega
 have hfit:¬ (!Builtin.List.listFitsIndex k)=true:=by
  rw [fitsIndex_both h1 h2]
  exact zL
 have hlong:¬ Builtin.List.listTooLong (its.toArray.size * k.toNat)=true:=by
  rw [notLongL hlen]
  exact zL
 have hnew:List.foldl (λx1 x2=>x1++x2) #[] (List.replicate (if its.toArray.isEmpty=true then 0 else k.toNat) its.toArray)=(List.replicate k.toNat its).flatten.toArray:=by
  have f0:∀ m:Nat,List.foldl (λx1 x2=>x1++x2) #[] (List.replicate m its.toArray)=(List.replicate m its).flatten.toArray:=λm=>by
   have:=foldl_rep its m []
   rw [List.nil_append] at this
   exact this
  rw [f0]
  cases its with
  | nil=>simp
  | cons a r'=>rw [if_neg (by simp)]
 refine wpAny_binaryOp_repeat_ref (T := "list") (U := "int") (by decide) ⟨_,e,rfl⟩ (λs'=>typeIs_int s' k t) noFill_list_mul F.fills_int_mul F.slot_int_rmul repeat_list F.slot_int_index.lookup
  (call_meets F.slot_int_rmul (typeIs_int s k t) F.entry_int_rmul (F.args_int_rmul_2 _ _) (int___rmul___int_list k t l its.toArray n)
   ⟨e,rfl,⟨_,e,rfl⟩,call_meets F.slot_list_mul ⟨_,e,rfl⟩ F.entry_list_mul (F.args_list_mul_2 _ _) (AutoListH.list___mul___list_int_3 l its.toArray n k t hfit hcap hlong) ⟨e,?_⟩⟩)
 rw [hnew]
 exact ⟨.ref _,_,I.lnew (t':=s.toks) (r.rep k.toNat) (by rw [len_rep,Nat.mul_comm];exact hz),rfl,q _ I.fresh⟩
end
section
variable {prog:Program}{w:World}{A:Around}{E:Value->Shared->Prop}{s:Shared}
set_option maxRecDepth 100000 in
end
section
variable {X:Cx}
end
end L2
namespace Att
open PySem PySem.W PySem.Calls PyProof.Rows
theorem ints_of_wellAll {P:Params}{h:Heap}:∀ (ns:List Int) (vs:List Value),WellAll P h vs (ns.map WData.int)->IntsAre vs ns:=by
 intro ns
 induction ns with
 | nil=>
  intro vs w
  rw [yq] at w
  cases w
  exact .nil
 | cons n ns ih=>
  intro vs w
  rw [zz] at w
  cases w with
  | cons a b=>
   cases a
   exact .cons _ _ (ih _ b)
theorem script_of {l:OpenLaw}{n:Nat} (hn:l.most=some n) {P:Params}{h:Heap}{args:List WData}{vals:List Value}
  (hpre:l.row.toRowW.claim.pre args=true) (hwl:WellAll P h vals args) :
  ∃ a vs ns,vals=[Value.ref a]/\args=[WData.list (ns.map WData.int)]/\h.get? a=some { cls:=.type "list", data:=.seq vs.toArray }/\IntsAre vs ns/\ns.length<=n:=by
 have hsh:WShape.hasAll [] args [.list .int]=true:=(pre_splitW hpre).1
 have hc:l.pre.holds [] { args:=args }=true:=(pre_splitW hpre).2
 obtain ⟨d,r,rfl,h1,h2⟩:=hasAllW_cons hsh
 obtain rfl:=hasAllW_nil h2
 obtain ⟨xs,rfl,h3⟩:=hasW_list h1
 obtain ⟨ns,rfl⟩:=items_int h3
 have hlen:ns.length<=n:=by
  unfold OpenLaw.pre at hc
  have h4:(WTm.not (.lt (.lit (.int (n:Int))) (.len (.arg 0)))).holds [] { args:=[.list (ns.map .int)] }=true:=by
   have h4:=(holds_andW hc).1
   rw [hn] at h4
   exact h4
  have h5:=condW_of h4 (w_not (w_lt w_lit (w_len_list (w_arg rfl))))
  rw [zA] at h5
  refine yl λq=>?_
  have q':(n:Int) < ((ns.length:Nat):Int):=by omega
  first
   | (rw [decide_eq_true q'] at h5;exact absurd h5 (by decide))
   | (simp at h5;omega)
 cases hwl with
 | cons w1 w2=>
  cases w2
  cases w1 with
  | list ho hall=>exact ⟨_,_,ns,rfl,rfl,ho,ints_of_wellAll ns _ hall,hlen⟩
theorem post_true (l:OpenLaw) (args:List WData):l.row.toRowW.claim.post args (.bool true) args=true:=
 postW_of (r:=l.row.toRowW) (X:=(true == true))
  (show WShape.has [] (.bool true) .bool=true by first | rfl | decide | simp [WShape.has,WShape.arms,WShape.armsAll])
  (show (WTm.eq .res (.lit (.bool true))).value [] { args:=args,res:=some (.bool true),after:=args }=some (.bool (true == true)) from w_eq_bool (w_res rfl) w_lit) rfl
theorem attach_call {l:OpenLaw}{n:Nat}{q:Program}{loose:List Str}{XP:(Str->Option Value)->Heap->Prop}{YP:World->Heap->Prop}{d:DefRec}
  (hn:l.most=some n) (hdf:d.params.defaults=[])
  (call:∀ (w:World) (s₀ s₁:Shared) (mg mb:Str->Option Value) (fa:Addr) (o:Obj) (pm cd doc:Value) (a:Addr) (vs:List Value) (ns:List Int),
   Ground q loose [] XP w s₀ mg mb s₁.heap->YP w s₁.heap ->
   s₁.heap.get? fa=some o->o.data=.func (docDef d.name d.params d.body d.scope pm cd doc)->s₁.heap.CodeRec cd d.name->mg d.name=some (.ref fa) ->
   s₁.heap.get? a=some { cls:=.type "list", data:=.seq vs.toArray }->IntsAre vs ns->ns.length<=n->s₁.gens=#[] ->
   codeAny (model l.prog w) callerA (.call (.ref fa) ⟨[.ref a],[]⟩) (λr s'=>r=.ok (.ret (.bool true))/\OldK s₁.heap s'.heap/\s'.os=s₁.os/\AllBare s'.gens) s₁) :
  WalkO q loose XP YP l.row.toRowW d [] (λf vs=>PySem.call f vs):=by
 intro w s₀ s₁ mg mb G Y fa o pm cd doc dV kV ho hd hcd hD hmg hg args vals as hpre hlay hrd hwl hlo
 obtain rfl:dV=.none:=Dflts.none hD hdf
 obtain rfl:kV=.none:=Dflts.noKw hD
 obtain ⟨a,vs,ns,rfl,rfl,hobj,hints,hlen⟩:=script_of hn hpre hwl
 refine enter_call (codeAny_mono (call w s₀ s₁ mg mb fa o pm cd doc a vs ns G Y ho (fd_plain hd) hcd hmg hobj hints hlen hg) λr s' hq=>?_)
 obtain ⟨rfl,h2,h3,h4⟩:=hq
 exact ⟨.inl ⟨.bool true,.bool true,[],rfl,λ_=>rfl,.bool true,post_true l _,λ_=>⟨List.Pairwise.nil,λ_ hm=>(nomatch hm)⟩⟩,h2,h3,h4⟩
section
variable {prog:Program}{w:World}{A:Around}{E:Value->Shared->Prop}{s:Shared}{K:Frag}
def ledger (h:Heap) (L d:Addr):List (Addr×Obj):=(List.range h.objs.size).filterMap λa=>if a=L\/a=d then none else (h.get? a).map λo=>(a,o)
end
end Att
namespace L2
open PySem PySem.Spec PyProof.Rows
theorem vals_ints:∀ {vs:List Value}{ns:List Int},IntsAre vs ns->Vals (ns.map V.int) vs
 | _,_,.nil=>.nil
 | _,_,.cons n t h=>.cons ⟨t,rfl⟩ (vals_ints h)
def Only (H:Hp):Prop:=∀ b,H b=none\/∃ o xs,H b=some (.frz o (.lst xs))
theorem law_call {P:Program}{w:World}{K:PySem.W.Frag}{mg mb:Str->Option Value}{CX:CXT}{k:Nat}{fa a:Addr}{fd:FuncData}{x:Str}{sp:Sp}{s₁:Shared}{vs:List Value}{ns:List Int}
  (KX:K.In s₁.heap) (hns:s₁.heap.Ns mainGlobals mg) (hb:s₁.heap.Ns builtinsNs mb) (hbb:∀ x:Str,x ≠ "__name__" -> mb x=bootBuiltins x) (hlim:s₁.heap.NoLimit) (hg:s₁.gens=#[])
  (ha:s₁.heap.get? a=some { cls:=.type "list", data:=.seq vs.toArray }) (hi:IntsAre vs ns) (hl:ns.length<=sizeLine) (hr:Room k callerA)
  (F:∀ base:Heap,K.In base->base.Ns mainGlobals mg->FnOk P w K mg base CX k fa fd [x] sp) (hbind:∀ (s:Shared) (u:Value),BindsTo s fd ⟨[u],[]⟩ [(x,u)])
  (hsp:∀ H:Hp,Only H->SqL K H a (ns.map V.int)->sp [.ref a] H (λv _=>v=.bl true) λ_ _ _=>False)
  (hCX:∀ H e s',CX [] H s₁ (λ_ _ _=>False) e s'->False) :
  codeAny (model P w) callerA (.call (.ref fa) ⟨[.ref a],[]⟩) (λr s'=>r=.ok (.ret (.bool true))/\OldK s₁.heap s'.heap/\s'.os=s₁.os/\AllBare s'.gens) s₁:=by
 have rv:=vals_ints hi
 have lenV:=hi.length
 -- from an abstract heap in which nothing but the script may be tracked
 have core:∀ H:Hp,Only H->SqL K H a (ns.map V.int)->HOk P w H s₁.heap->(∀ b,H b≠none->b=a)->(H a≠none->K.lookup a=none) ->
   codeAny (model P w) callerA (.call (.ref fa) ⟨[.ref a],[]⟩) (λr s'=>r=.ok (.ret (.bool true))/\OldK s₁.heap s'.heap/\s'.os=s₁.os/\AllBare s'.gens) s₁:=by
  intro H hO hS hok hA hK
  have base_of:∀ {b:Addr}{o:Obj},s₁.heap.get? b=some o->H b=none->(hidT s₁.heap H).get? b=some o:=λe n=>hidT_get e n
  have noA:∀ {b:Addr}{o:Obj}{es:Array DictEntry}{ep:Nat},s₁.heap.get? b=some o->o.data=.dict es ep->H b=none:=λ{b o es ep} e d=>by
   cases q:H b with
   | none=>rfl
   | some u=>
    have e':b=a:=hA b (by rw [q];simp)
    subst e'
    rw [ha] at e;cases e
    have d':Data.seq vs.toArray _=Data.dict es ep:=d
    cases d'
  have nsK:∀ {b:Addr}{m:Str->Option Value},s₁.heap.Ns b m->(hidT s₁.heap H).Ns b m:=λ{b m} ⟨o,es,ep,e,d,r⟩=>⟨o,es,ep,base_of e (noA e d),d,r⟩
  have hKb:K.In (hidT s₁.heap H):=λb o e=>base_of (KX b o e) (by
   cases q:H b with
   | none=>rfl
   | some u=>
    have e':b=a:=hA b (by rw [q];simp)
    subst e'
    rw [hK (by rw [q];simp)] at e;cases e)
  have hM:Mod K mg (hidT s₁.heap H):=⟨hKb,nsK hns,⟨mb,nsK hb,hbb⟩,let ⟨mc,h1,h2⟩:=hlim;⟨mc,nsK h1,h2⟩⟩
  have e0:Env0 P w K mg (hidT s₁.heap H) callerA [] s₁ H:=⟨rfl,hM,λb o e=>of_hidT e,Nat.le_of_eq (hidT_size _ _),trivial,λb hb=>absurd (show b∈([]:List Addr) from hb) (by simp),hok,.of_eq hg⟩
  refine codeAny_mono ((F _ hKb (nsK hns)).run callerA [] s₁ H ⟨[.ref a],[]⟩ [.ref a] [.ref a] _ _ hr e0 (hbind s₁ (.ref a)) (.cons rfl .nil) (hsp H hO hS)) λr s' h=>?_
  cases r with
  | error e=>exact (hCX H e s' h).elim
  | ok fl=>
   cases fl with
   | next=>exact False.elim h
   | brk=>exact False.elim h
   | cont=>exact False.elim h
   | ret u=>
    obtain ⟨v,H',os,bare,un,hok',r',q⟩:=h
    have q':v=.bl true:=q
    subst q'
    obtain rfl:u=Value.bool true:=r'
    refine ⟨rfl,OldK.of_keep λb o e=>?_,os,bare⟩
    cases q:H b with
    | none=>exact un.keep b o e q (by intro z;exact absurd (show b∈([]:List Addr) from z) (by simp)) (by simp)
    | some u=>
     rcases hO b with z | ⟨ob,xs,z⟩
     ·rw [q] at z;cases z
     ·have z2:=un.frzs b ob _ z
      obtain ⟨e1,_⟩:=hok b _ z
      obtain ⟨e2,_⟩:=hok' b _ z2
      rw [e] at e1;cases e1
      exact e2
 cases hk:K.lookup a with
 | some o=>
  -- the script is one of the module's own objects
  have e:=KX a o hk
  rw [ha] at e
  cases e
  refine core (λ_=>none) (λ_=>.inl rfl) (.inr ⟨_,vs.toArray,_,hk,rfl,rfl,rfl,by rw [zO,lenV];exact hl,by simpa using rv⟩) (λb u z=>by have z':(none:Option HO)=some u:=z;cases z') (λb z=>absurd rfl z) λz=>absurd rfl z
 | none=>
  refine core (λb=>if b=a then some (.frz { cls:=.type "list", data:=.seq vs.toArray } (.lst (ns.map V.int))) else none) (λb=>?_) (.inl (.inr ⟨{ cls:=.type "list", data:=.seq vs.toArray },if_pos rfl⟩)) (λb u z=>?_) (λb z=>?_) λ_=>hk
  ·by_cases hb:b=a
   ·exact .inr ⟨_,_,if_pos hb⟩
   ·exact .inl (if_neg hb)
  ·by_cases hb:b=a
   ·have z':=(if_pos hb).symm.trans z
    cases z'
    subst hb
    exact ⟨ha,by rw [zA];exact hl,vs,_,rv,ha⟩
   ·have z':=(if_neg hb).symm.trans z
    cases z'
  ·by_cases hb:b=a
   ·exact hb
   ·exact absurd (if_neg hb) z
end L2
namespace L2
open PySem PySem.Spec PyProof.Rows
theorem walk_of {l:PySem.W.OpenLaw}{n k:Nat}{q:Program}{loose:List Str}{XP:(Str->Option Value)->Heap->Prop}{YP:World->Heap->Prop}{d:DefRec}{K:Params->PySem.W.Frag}{CX:World->CXT}{sp:World->Sp}{x:Str}
  (hn:l.most=some n) (hn2:n<=sizeLine) (hdf:d.params.defaults=[]) (hr:Room k callerA)
  (hY:∀ (w:World) (h:Heap),YP w h->(K w.params).In h)
  (F:∀ (w:World) (mg:Str->Option Value) (fa:Addr) (h:Heap),(K w.params).In h->h.Ns mainGlobals mg->mg d.name=some (.ref fa) ->
   ∃ fd:FuncData,(∀ (s:Shared) (u:Value),BindsTo s fd ⟨[u],[]⟩ [(x,u)]) /\
    ∀ base:Heap,(K w.params).In base->base.Ns mainGlobals mg->FnOk l.prog w (K w.params) mg base (CX w) k fa fd [x] (sp w))
  (hsp:∀ (w:World) (H:Hp) (a:Addr) (ns:List Int),ns.length<=n->Only H->SqL (K w.params) H a (ns.map V.int)->sp w [.ref a] H (λv _=>v=.bl true) λ_ _ _=>False)
  (hCX:∀ (w:World) (H:Hp) (s:Shared) (e:Value) (s':Shared),CX w [] H s (λ_ _ _=>False) e s'->False) :
  PySem.W.WalkO q loose XP YP l.row.toRowW d [] (λf vs=>PySem.call f vs):=by
 refine Att.attach_call hn hdf λw s₀ s₁ mg mb fa o pm cd doc a vs ns G Y ho hd hcd hmg hobj hints hlen hg=>?_
 have KX:=hY w _ Y
 obtain ⟨fd,hb,hF⟩:=F w mg fa _ KX G.T.g hmg
 exact law_call KX G.T.g G.T.b G.T.builtins G.T.nolimit hg hobj hints (zm hlen hn2) hr hF hb (λH hO hS=>hsp w H a ns hlen hO hS) λH e s'=>hCX w H s₁ e s'
end L2
namespace L2
open PySem PySem.Spec PyProof.Rows
def defArgs (s:Stmt):Arguments:=match s with
 | .FunctionDef _ a _ _ _ _ _ _ _ _=>a
 | _=>{ posonlyargs:=[],args:=[],vararg:=none,kwonlyargs:=[],kw_defaults:=[],kwarg:=none,defaults:=[] }
def defBody (s:Stmt):List Stmt:=match s with
 | .FunctionDef _ _ b _ _ _ _ _ _ _=>b
 | _=>[]
def defScope (s:Stmt):Scope:=match s with
 | .FunctionDef _ _ _ _ _ _ sc _ _ _=>sc
 | _=>{ kind:=.function,names:=[],isGenerator:=false,isCoroutine:=false }
abbrev CX0:CXT:=λ_ _ _ _ _ _=>False
abbrev E0:XK:=λ_ _ _=>False
theorem pass0 {X:Cx}:Passes CX0 X E0:=λ_ _ _ _ _ _ _ h=>h.elim
structure Fun (K:PySem.W.Frag) (x qual:Str) (st:Stmt) (f:Addr) (fd:FuncData):Prop where
 ex:∃ (oc:Value) (od:Option Addr) (kV doc pm:Value) (an:Option Addr) (cdv ct:Value) (osl:Array (Option Value)),
  fd=yp x qual (defArgs st) (defBody st) (defScope st) .none kV doc pm an cdv ct/\K.lookup f=some ⟨oc,od,.func fd,osl⟩/\PySem.W.codeIn K cdv qual=true
 kp:zN K (.ref f)=true
section
variable {P:Program}{w:World}{K:PySem.W.Frag}{mg:Str->Option Value}{base:Heap}
theorem Fun.ok {x qual:Str}{st:Stmt}{f:Addr}{fd:FuncData}{N ps:List Str}{k:Nat}{sp:Sp} (F:Fun K x qual st f fd) (S:FnScope N ps (defScope st)) (len:∀ vs H Q E,sp vs H Q E->vs.length=ps.length)
  (hbody:∀ (cdv:Value) (A:Around) (outer:List Env) (s:Shared) (H:Hp) (vs:List V) (Q:VK) (E:XK),Room k (A.deeper (envOfC qual (defScope st) s.heap.objs.size f cdv))->sp vs H Q E ->
   ∃ t,PSs (cxOf CX0 P w K mg base N qual (defScope st) f cdv A outer s H E).nox (defBody st) t/\t { nx:=λ_ H'=>Q .non H',rt:=Q } (start N vs) H):FnOk P w K mg base CX0 (k + 1) f fd ps sp:=by
 obtain ⟨oc,od,kV,doc,pm,an,cdv,ct,osl,rfl,lk,hcd⟩:=F.ex
 refine fn_of lk hcd S len λA outer s H vs Q E hr hsp=>?_
 obtain ⟨t,h,q⟩:=hbody cdv A outer s H vs Q E hr hsp
 exact ⟨t,h.nox,q⟩
theorem Fun.binds {x qual:Str}{st:Stmt}{f:Addr}{fd:FuncData}{ps:List Str} (F:Fun K x qual st f fd)
  (h:∀ (kV doc pm:Value) (an:Option Addr) (cdv ct:Value) (us:List Value),us.length=ps.length->bindArgs (yp x qual (defArgs st) (defBody st) (defScope st) .none kV doc pm an cdv ct) ⟨us,[]⟩=pure (ps.zip us)):Binds K fd ps []:=by
 obtain ⟨oc,od,kV,doc,pm,an,cdv,ct,osl,rfl,lk,hcd⟩:=F.ex
 exact .all (h kV doc pm an cdv ct)
theorem fun_mk {x qual:Str}{st:Stmt}{f:Addr}{oc:Value}{od an:Option Addr}{osl:Array (Option Value)}{kV doc pm cdv ct:Value} (l:K.lookup f=some ⟨oc,od,.func (yp x qual (defArgs st) (defBody st) (defScope st) .none kV doc pm an cdv ct),osl⟩)
  (c:PySem.W.codeIn K cdv qual=true) (k:zN K (.ref f)=true):Fun K x qual st f (yp x qual (defArgs st) (defBody st) (defScope st) .none kV doc pm an cdv ct):=⟨⟨oc,od,kV,doc,pm,an,cdv,ct,osl,rfl,l,c⟩,k⟩
end
section
variable {X:Cx}
theorem pv (i:Nat) {x:Str}{pos:Pos} (hN:X.N[i]?=some x:=by rfl) (hv:Vis X.env.scope x:=by first | exact Or.inl rfl | exact Or.inr (Or.inl rfl) | exact Or.inr (Or.inr rfl)) (hd:(x == ("__debug__" : Str))=false:=by decide)
  (hcd:(x == ("__classdict__" : Str))=false:=by decide):PE X (.Name x pos) (tVar i):=pe_var hN hv hd hcd
end
def Same (H H':Hp):Prop:=∀ b o,H b=some o->H' b=some o
theorem Same.refl (H:Hp):Same H H:=λ_ _ h=>h
theorem Same.trans {H H1 H2:Hp} (a:Same H H1) (b:Same H1 H2):Same H H2:=λc o h=>b c o (a c o h)
theorem Same.seq {K:PySem.W.Frag}{H H':Hp}{a:Addr}{xs:List V} (e:Same H H') (h:SqL K H a xs):SqL K H' a xs:=by
 rcases h with (h | ⟨o,h⟩) | h
 ·exact .inl (.inl (e _ _ h))
 ·exact .inl (.inr ⟨o,e _ _ h⟩)
 ·exact .inr h
end L2
namespace L2
open PySem PySem.Spec PyProof.Rows
theorem loop_comp {prog:Program}{w:World}{A:Around}{R:Result->Shared->Prop}{s:Shared}{elt target iter:Expr}{ifs:List Expr}{scope:Scope}{pos:Pos}{it acc:Value}{env:Env} (I:Nat->Shared->Prop)
  (turn:∀ n s,I n s->wpAny (model prog w) A (pyNext it) (λr s₁=>match r with
   | none=>R (.ok .next) s₁
   | some v=>wpAny (model prog w) A (letOwnedTupleGo target it v) (λ_ s₁'=>wpAny (model prog w) A (assign target env v) (λ_ s₂=>
     wpAny (model prog w) A (forIn ifs true λc r=>if r=true then do let ok <- isTrue c env (eval c env);pure (ForInStep.yield ok) else pure (ForInStep.yield r)) (λok s₃=>
      if ok=true then wpAny (model prog w) A (eval elt env) (λx s₄=>
       wpAny (model prog w) A (call (.builtin "list.append") [acc,x]) (λ_ s₅=>∃ m,m < n/\I m s₅) (λ_ _=>False) s₄) (λ_ _=>False) s₃
      else ∃ m,m < n/\I m s₃) (λ_ _=>False) s₂) (λ_ _=>False) s₁') (λ_ _=>False) s₁) (λ_ _=>False) s)
  (n:Nat) (h:I n s) :
  codeAny (model prog w) A (.compLoop (.ListComp elt [⟨target,iter,ifs,0⟩] scope pos) 0 it acc env) R s:=by
 refine codeAny_loop rfl I (λn s hI=>?_) n h
 show wpAny _ A ((compTurn (.ListComp elt [⟨target,iter,ifs,0⟩] scope pos) 0 it acc env).onRaise (λx=>do noteFrame x env;theTreesLotGoes x)) _ _ s
 refine wpAny_noted ?_
 rw [compTurn_list]
 refine wpAny_bind (wpAny_standAt (wpAny_bind (wpAny_mono (turn n s hI) (λr s₁ h₁=>?_) λ_ _ h'=>h'.elim)))
 cases r with
 | none=>exact wpAny_pure h₁
 | some v=>
  refine wpAny_bind (wpAny_mono h₁ (λ_ s₁' h₁'=>?_) λ_ _ h'=>h'.elim)
  refine wpAny_bind (wpAny_mono h₁' (λ_ s₂ h₂=>wpAny_bind (wpAny_mono h₂ (λok s₃ h₃=>?_) λ_ _ h'=>h'.elim)) λ_ _ h'=>h'.elim)
  cases ok with
  | false=>exact wpAny_pure ⟨rfl,h₃⟩
  | true=>
   exact wpAny_bind (wpAny_bind (wpAny_mono h₃ (λx s₄ h₄=>wpAny_bind (wpAny_mono h₄ (λ_ s₅ h₅=>wpAny_pure (wpAny_pure ⟨rfl,h₅⟩)) λ_ _ h'=>h'.elim)) λ_ _ h'=>h'.elim))
def clOf (names:List (Str×NameKind)) (env:Env) (cs:List (Str×Addr)):List (Str×Addr):=
 names.foldl (λcs p=>if p.2=.free then (match env.cells.lookup p.1 with | some c=>(p.1,c)::cs | none=>cs) else cs) cs
theorem closure_loop {env:Env}:∀ (names:List (Str×NameKind)) (cs:List (Str×Addr)),(∀ y∈names,y.2=.free->∃ c,env.cells.lookup y.1=some c) ->
  (forIn names cs λx r=>(if (x.2 == NameKind.free)=true then do let a <- cellOf env x.1;pure (ForInStep.yield ((x.1,a)::r)) else pure (ForInStep.yield r):Sem _))=pure (clOf names env cs)
 | [],cs,_=>by simp [clOf]
 | (n,k)::r,cs,h=>by
  have ih:=λcs=>closure_loop r cs λy hy=>h y (zW _ hy)
  simp only [List.forIn_cons]
  by_cases hk:k=.free
  ·subst hk
   obtain ⟨c,e⟩:=h (n,.free) zf rfl
   have e':env.cells.lookup n=some c:=e
   have ec:cellOf env n=pure c:=by unfold cellOf;rw [e']
   simp only [beq_self_eq_true,if_true,ec,pure_bind]
   rw [ih]
   simp [clOf,e']
  ·have hb:(k == NameKind.free)=false:=by simpa using hk
   simp only [hb,zb,if_false,pure_bind]
   rw [ih]
   simp [clOf,hk]
theorem closureFor_eq {scope:Scope}{env:Env} (h:∀ y∈scope.names,y.2=.free->∃ c,env.cells.lookup y.1=some c):closureFor scope env=pure (clOf scope.names env []):=by
 unfold closureFor
 have:=closure_loop scope.names [] h
 simp only [bind_pure]
 exact this
theorem clOf_mem {env:Env}:∀ (names:List (Str×NameKind)) (cs:List (Str×Addr)) (x:Str) (c:Addr),(x,c)∈clOf names env cs->(x,c)∈cs\/env.cells.lookup x=some c
 | [],cs,x,c,h=>.inl h
 | (n,k)::r,cs,x,c,h=>by
  have h':(x,c)∈clOf r env (if k=.free then (match env.cells.lookup n with | some c=>(n,c)::cs | none=>cs) else cs):=h
  rcases clOf_mem r _ x c h' with q | q
  ·split at q
   ·cases e:env.cells.lookup n with
    | none=>rw [e] at q;exact .inl q
    | some d=>
     rw [e] at q
     rcases zC.mp q with z | z
     ·cases z;exact .inr e
     ·exact .inl z
   ·exact .inl q
  ·exact .inr q
theorem clOf_keep {env:Env}:∀ (names:List (Str×NameKind)) (cs:List (Str×Addr)) (x:Str),(∃ c,(x,c)∈cs)->∃ c,(x,c)∈clOf names env cs
 | [],cs,x,h=>h
 | (n,k)::r,cs,x,⟨c,h⟩=>by
  refine clOf_keep r _ x ?_
  dsimp only
  split
  ·split
   ·exact ⟨c,zW _ h⟩
   ·exact ⟨c,h⟩
  ·exact ⟨c,h⟩
theorem clOf_has {env:Env}:∀ (names:List (Str×NameKind)) (cs:List (Str×Addr)) (x:Str),(x,NameKind.free)∈names->(∃ c,env.cells.lookup x=some c)->∃ c,(x,c)∈clOf names env cs
 | [],_,_,h,_=>by simp at h
 | (n,k)::r,cs,x,h,⟨c,e⟩=>by
  rcases zC.mp h with z | z
  ·have e1:x=n:=congrArg Prod.fst z
   have e2:NameKind.free=k:=congrArg Prod.snd z
   subst e1 e2
   refine clOf_keep r _ x ⟨c,?_⟩
   dsimp only
   rw [if_pos rfl,e]
   exact zf
  ·exact clOf_has r _ x z ⟨c,e⟩
theorem lookup_of_mem {β:Type}:∀ (l:List (Str×β)) (x:Str) (c:β),(x,c)∈l->∃ d,l.lookup x=some d
 | (n,d)::r,x,c,h=>by
  cases hx:x == n with
  | true=>exact ⟨d,by simp [zt,hx]⟩
  | false=>
   simp only [zt,hx]
   rcases zC.mp h with z | z
   ·cases z;simp at hx
   ·exact lookup_of_mem r x c z
theorem xl {names:List (Str×NameKind)}{env:Env}{x:Str}{c:Addr} (h:(clOf names env []).lookup x=some c):env.cells.lookup x=some c:=by
 rcases clOf_mem names [] x c (za h) with q | q
 ·simp at q
 ·exact q
theorem clOf_some {names:List (Str×NameKind)}{env:Env}{x:Str}{c:Addr} (h:(x,NameKind.free)∈names) (e:env.cells.lookup x=some c):(clOf names env []).lookup x=some c:=by
 obtain ⟨d,hd⟩:=clOf_has names [] x h ⟨c,e⟩
 obtain ⟨d',hd'⟩:=lookup_of_mem _ _ _ hd
 have:=xl hd'
 rw [e] at this
 cases this
 exact hd'
theorem wA {env:Env}:∀ {names:List (Str×NameKind)}{x:Str},names.lookup x=some .free ->
  (names.map λ(n,k)=>if (k == NameKind.free && env.scope.kind == .function && env.kindOf n == some .cell) then (n,NameKind.cell) else (n,k)).lookup x=some .cell \/
  (names.map λ(n,k)=>if (k == NameKind.free && env.scope.kind == .function && env.kindOf n == some .cell) then (n,NameKind.cell) else (n,k)).lookup x=some .free
 | [],_,h=>by simp at h
 | (n,k)::r,x,h=>by
  have ih:=@wA env r x
  show List.lookup x ((if (k == NameKind.free && env.scope.kind == .function && env.kindOf n == some .cell)=true then (n,NameKind.cell) else (n,k))::_)=_\/List.lookup x ((if (k == NameKind.free && env.scope.kind == .function && env.kindOf n == some .cell)=true then (n,NameKind.cell) else (n,k))::_)=_
  by_cases hc:(k == NameKind.free && env.scope.kind == .function && env.kindOf n == some .cell)=true
  ·rw [if_pos hc]
   cases hx:x == n with
   | true=>left;simp [zt,hx]
   | false=>
    simp only [zt,hx] at h ⊢
    exact ih h
  ·rw [if_neg hc]
   cases hx:x == n with
   | true=>
    simp only [zt,hx] at h
    cases h
    right;simp [zt,hx]
   | false=>
    simp only [zt,hx] at h ⊢
    exact ih h
structure CompScope (own:List Str) (caps:List Nat) (N:List Str) (sc scope:Scope):Prop where
 kind:scope.kind=.function
 nocell:∀ y∈scope.names,y.2≠.cell
 loc:∀ y∈scope.names,y.2=.local->scope.names.lookup y.1=some .local
 fr:∀ y∈scope.names,y.2=.free->sc.names.lookup y.1=some .cell\/sc.names.lookup y.1=some .free
 cap:∀ i∈caps,i < N.length/\scope.names.lookup ((N[i]?).getD Str.empty)=some .free
def cxComp (X:Cx) (own:List Str) (caps:List Nat) (scope:Scope) (s:Shared) (H:Hp) (fp:List Addr) (C:Addr):Cx:=
 { X with N:=own++caps.map (λi=>(X.N[i]?).getD Str.empty),s₀:=s,H₀:=H,env:=compEnvC scope (clOf scope.names X.env []) C X.env,outer:=X.stack,ex:=fp,fn:=λ_=>false,pn:=[],xe:=λ_ _=>False }
def tau0 (n:Nat) (caps:List Nat) (σ:St):St:=List.replicate n none++caps.map λi=>(σ[i]?).join
section
variable {X:Cx}{pins:List (Addr×Obj)}{σ:St}{H:Hp}{s:Shared}
theorem free_of_kind {scope:Scope}{env:Env} (nc:∀ y∈scope.names,y.2≠.cell) {x:Str}{k:NameKind} (hk:k=.cell\/k=.free) (h:(relabel scope env).names.lookup x=some k):(x,NameKind.free)∈scope.names:=by
 have hm:=za h
 obtain ⟨⟨n,k0⟩,hy,e⟩:=zS.mp hm
 dsimp only at e
 split at e
 ·rename_i hc
  simp only [yj,beq_iff_eq] at hc
  have e1:n=x:=congrArg Prod.fst e
  subst e1
  rw [hc.1.1] at hy
  exact hy
 ·cases e
  rcases hk with z | z
  ·subst z;exact absurd rfl (nc _ hy)
  ·subst z;exact hy
theorem inv_comp {own:List Str}{caps:List Nat}{scope:Scope}{fp:List Addr}{D C:Addr}{o:Obj} {h1:Heap}{tk:Nat} (I:Inv X pins σ H s) (S:CompScope own caps X.N X.env.scope scope)
  (f:∀ b∈fp,FpOk X pins H b) (fl:∀ b∈fp,b < s.heap.objs.size) (hD:s.heap.objs.size<=D) (hC:s.heap.objs.size<=C) (hDC:D≠C) (keep:∀ b o,s.heap.get? b=some o->h1.get? b=some o)
  (hns:h1.Ns C λ_=>none) (hacc:h1.get? D=some o) (ho:∀ v,o.data≠.cell v) :
  Inv (cxComp X own caps scope s H fp C) [(D,o)] (tau0 own.length caps σ) H { s with heap:=h1,toks:=tk }:=by
 have sub:∀ b∈frs X.stack,b < s.heap.objs.size:=λb hb=>by
  rcases zC.mp (I.stkSub b hb) with e | hb
  ·rw [e];exact I.lt
  ·by_cases q:b < s.heap.objs.size
   ·exact q
   ·exact absurd hb (I.nofs (yl q))
 refine ⟨⟨I.ok.mod,S.kind,I.ok.glob,I.ok.blt,hC,λx y c h1 h2=>I.ok.inj x y c (xl h1) (xl h2),λx hx=>?_,λx c z _=>absurd (show false=true from z) zL,I.ok.hd,I.ok.frames,.inl rfl,
   λb hb=>⟨zZ (zU (fl b hb) hC),λx c e=>(f b hb).2.2.2.2.1 x c (xl e)⟩,I.bs,zm I.ok.bsz I.sz,λb ob e hb=>?_,λb hb hs=>?_,I.stack,I.stkFree⟩,
  rfl,I.bare,Un.kept keep,⟨_,hns,λi x v e1 e2 e3=>?_⟩,λx c e=>?_,I.hok.fresh hC,λx c e=>I.freeC x c (xl e),λp hp=>?_,I.hok.kept keep,?_⟩
 ·have hm:(x,NameKind.free)∈scope.names:=by
   rcases hx with hx | hx
   ·exact free_of_kind S.nocell (.inl rfl) hx
   ·exact free_of_kind S.nocell (.inr rfl) hx
  obtain ⟨c,hc⟩:=I.ok.has x (S.fr _ hm rfl)
  exact ⟨c,clOf_some hm hc⟩
 ·rcases (f b hb).2.2.2.1 with z | z
  ·exact I.ok.noex b ob e z
  ·exact absurd (zU (Heap.lt_size e) (zm I.ok.bsz z)) (zp _)
 ·rcases zC.mp (I.stkSub b hs) with e | e
  ·exact (f b hb).2.1 e
  ·exact (f b hb).2.2.1 e
 ·have e2':(List.replicate own.length (none:Option V)++caps.map λi=>(σ[i]?).join)[i]?=some (some v):=e2
  have e1':(own++caps.map (λi=>(X.N[i]?).getD Str.empty))[i]?=some x:=e1
  have hi:own.length<=i:=by
   by_cases q:i < own.length
   ·rw [yB (by simpa using q),z4,if_pos q] at e2'
    cases e2'
   ·exact yl q
  rw [zo (by simpa using hi),zX,zG] at e2'
  rw [zo hi,zG] at e1'
  cases ek:caps[i - own.length]? with
  | none=>rw [ek] at e1';cases e1'
  | some k=>
   rw [ek] at e1' e2'
   have ex:(X.N[k]?).getD Str.empty=x:=Option.some.inj e1'
   have ev:(σ[k]?).join=some v:=Option.some.inj e2'
   have ev':σ[k]?=some (some v):=by
    cases q:σ[k]? with
    | none=>rw [q] at ev;cases ev
    | some y=>rw [q] at ev;exact congrArg some ev
   obtain ⟨hl,hf⟩:=S.cap k (zD ek)
   have eN:X.N[k]?=some x:=by
    rw [zH hl] at ex ⊢
    exact congrArg some ex
   rw [ex] at hf
   have hm:=za hf
   have hfr:=S.fr _ hm rfl
   obtain ⟨m,_,hl'⟩:=I.loc
   obtain ⟨u,ru,lk⟩:=hl' k x v eN ev' (.inr hfr)
   refine ⟨u,ru,.inr ⟨wA hf,?_⟩⟩
   rcases lk with ⟨kl,_⟩ | ⟨_,c,hc,ob,hob,hd⟩
   ·have kl':X.env.scope.names.lookup x=some .local:=kl
    rcases hfr with z | z
    ·have z':X.env.scope.names.lookup x=some .cell:=z
     rw [z'] at kl';cases kl'
    ·have z':X.env.scope.names.lookup x=some .free:=z
     rw [z'] at kl';cases kl'
   ·exact ⟨c,clOf_some hm hc,ob,keep c ob hob,hd⟩
 ·obtain ⟨v,ob,hob,hd⟩:=I.cell x c (xl e)
  exact ⟨v,ob,keep c ob hob,hd⟩
 ·have e:p=(D,o):=by simpa using (show p∈[]++[(D,o)] from hp)
  subst e
  refine ⟨hacc,I.hok.fresh hD,hDC,λz=>?_,ho⟩
  exact absurd (zU (sub D z) hD) (zp _)
 ·show (tau0 own.length caps σ).length=(own++caps.map (λi=>(X.N[i]?).getD Str.empty)).length
  simp [tau0]
def PTs (X:Cx) (ifs:List Expr) (t:TT):Prop:=
 ∀ (pins:List (Addr×Obj)) (s:Shared) (σ:St) (H:Hp) (Q:Bool->Hp->Prop),Inv X pins σ H s->t σ H Q ->
  wpAny (model X.prog X.w) X.A (forIn ifs true λc r=>if r=true then do let ok <- isTrue c X.env (eval c X.env);pure (ForInStep.yield ok) else pure (ForInStep.yield r)) (TP X pins σ Q) X.xe s
def tYes:TT:=λ_ H Q=>Q true H
theorem xk:PTs X [] tYes:=λ_ s σ H Q I h=>wpAny_tests_nil ⟨H,I,h⟩
theorem pts_one {c:Expr}{t:TT} (h:PT X c t):PTs X [c] t:=λpins s σ H Q I q=>wpAny_tests_one (h pins s σ H Q I q)
def tComp (n:Nat) (caps:List Nat) (wi:TI) (g:TG) (tc:TT) (te:TE):TE:=fun σ H Q=>wi σ H λJ H1=>∃ W:Nat->Nat->St->List V->Hp->Prop,(∃ m,W 0 m (tau0 n caps σ) [] H1)/\∀ i m τ acc H,W i m τ acc H ->
 (J.stop i H/\acc.length<=sizeLine/\∀ p,H p=none->Q (.ref p) (upd H p (.lst acc))) \/
 (J.go i H/\acc.length < sizeLine/\∀ x H',J.yld i H x H'->g x τ H' fun τ2 H2=>tc τ2 H2 λb H3=>if b=true then te τ2 H3 λy H4=>∃ m',m' < m/\W (i + 1) m' τ2 (acc++[y]) H4 else ∃ m',m' < m/\W (i + 1) m' τ2 acc H3)
theorem HOk.track {P:Program}{w:World}{H:Hp}{h:Heap}{a:Addr}{o:HO} (x:HOk P w H h) (hn:H a=none) (new:ObjOk P w (upd H a o) h a o):HOk P w (upd H a o) h:=λb u e=>by
 by_cases hb:b=a
 ·subst hb;rw [yy] at e;cases e;exact new
 ·rw [xG hb] at e
  exact (x b u e).stay (λc v _ q=>q) (λc q=>by rw [xG (xA q hn)];exact q) λc xs q=>by rw [xG (xA q hn)];exact q
theorem xt {own:List Str}{caps:List Nat}{elt tg iter:Expr}{ifs:List Expr}{scope:Scope}{pos:Pos}{wi:TI}{g:TG}{tc:TT}{te:TE} (hc:X.calm=true) (S:CompScope own caps X.N X.env.scope scope) (hi:PI X tg iter wi)
  (hg:∀ s H fp C,PG (cxComp X own caps scope s H fp C) tg g) (ht:∀ s H fp C,PTs (cxComp X own caps scope s H fp C) ifs tc) (he:∀ s H fp C,PE (cxComp X own caps scope s H fp C) elt te)
  (hs:∀ x,foldedSetIterable iter X.env x=pure x:=by intro _;rfl):PE X (.ListComp elt [⟨tg,iter,ifs,0⟩] scope pos) (tComp own.length caps wi g tc te):=by
 intro pins s σ H Q I h
 rw [eval_ListComp]
 refine wpAny_comprehension_free (use:=none) (cl:=clOf scope.names X.env []) rfl hs (closureFor_eq λy hy e=>I.ok.has y.1 (S.fr y hy e)) S.kind S.loc
  (wpAny_mono (hi pins s σ H _ I h) (λv s1 h1=>thn h1 λitv s2 h2=>?_) λ_ _ e=>e)
 obtain ⟨it,fp,tn,J,H2,e,I2,T,st2,f2,W,⟨m0,w0⟩,turn⟩:=h2
 subst e
 refine wpAny_newObj_type (wpAny_newFunctionEnv S.nocell (by intro y hy;simp at hy) (λh₁ hns₁ hsb₁=>?_) S.kind)
 dsimp only at hns₁ hsb₁ ⊢
 generalize hH2:s2.heap.push { cls:=.type "list", dict:=none,data:=.seq ([]:List Value).toArray }=G at hns₁ hsb₁ ⊢
 have hG:G.objs.size=s2.heap.objs.size + 1:=by rw [<-hH2,Heap.size_push]
 have hDC:s2.heap.objs.size≠G.objs.size:=by rw [hG];exact zZ (Nat.lt_succ_self _)
 have hCle:s2.heap.objs.size<=G.objs.size:=by rw [hG];exact Nat.le_succ _
 have below:∀ b,b < s2.heap.objs.size->b≠G.objs.size:=λb hb=>by rw [hG];exact zZ (yd hb)
 have old:∀ b o,s2.heap.get? b=some o->h₁.get? b=some o:=λb o e=>hsb₁.extBut b o (below b (Heap.lt_size e)) (Heap.get?_push_of_some _ (hH2 ▸ Heap.get?_push_of_some _ e))
 have hacc:h₁.get? s2.heap.objs.size=some { cls:=.type "list", dict:=none,data:=.seq ([]:List Value).toArray }:=hsb₁.extBut _ _ hDC (Heap.get?_push_of_some _ (hH2 ▸ Heap.get?_push_size _ rfl))
 have fl:∀ b∈fp,b < s2.heap.objs.size:=λb hb=>let ⟨o,e,_⟩:=T.obj _ _ st2 b hb;Heap.lt_size e
 have hns₁':h₁.Ns G.objs.size λ_=>none:=hns₁
 have I4:=inv_comp (tk:=s2.toks + ([]:List (Str×Value)).length) I2 S f2 fl (zF _) hCle hDC old hns₁' hacc (λv z=>nomatch z)
 have st4:tn 0 h₁:=T.keep _ _ _ st2 λb _ o e=>old b o e
 generalize hs4:({ s2 with heap:=h₁,toks:=s2.toks + ([]:List (Str×Value)).length }:Shared)=s4 at I4 ⊢
 have e4:s4.heap=h₁:=by rw [<-hs4]
 rw [<-e4] at st4
 -- the loop
 have loop:codeAny (model X.prog X.w) X.A (.compLoop (.ListComp elt [⟨tg,iter,ifs,0⟩] scope pos) 0 (.ref it) (.ref s2.heap.objs.size) (compEnvC scope (clOf scope.names X.env []) G.objs.size X.env))
   (compPost (model X.prog X.w) X.A X.xe none (EP X pins σ Q) (.ref s2.heap.objs.size) G.objs.size) s4:=by
  let Y:=cxComp X own caps scope s2 H2 fp G.objs.size
  have stat:∀ {H':Hp}{its:List Value}{n:Nat},(∀ b∈fp,H' b=none)->∀ b∈fp,FpOk Y [(s2.heap.objs.size,({ cls:=.type "list", data:=.seq its.toArray n }:Obj))] H' b:=λ{H' its n} hn b hb=>by
   refine ⟨hn b hb,below b (fl b hb),λz=>?_,.inl hb,λx c e=>(f2 b hb).2.2.2.2.1 x c (xl e),λp hp=>?_⟩
   ·rcases zC.mp (I2.stkSub b z) with e | e
    ·exact (f2 b hb).2.1 e
    ·exact (f2 b hb).2.2.1 e
   ·have e:p=(s2.heap.objs.size,({ cls:=.type "list", data:=.seq its.toArray n }:Obj)):=by simpa using (show p∈[]++[_] from hp)
    subst e
    exact yE (fl b hb)
  refine loop_comp (λn s'=>∃ i τ acc its k H',Inv Y [(s2.heap.objs.size,({ cls:=.type "list", data:=.seq its.toArray k }:Obj))] τ H' s'/\tn i s'.heap/\(∀ b∈fp,H' b=none)/\Vals acc its/\W i n τ acc H') ?_ m0
   ⟨0,_,[],[],0,H2,I4,st4,λb hb=>(f2 b hb).1,.nil,w0⟩
  rintro n s5 ⟨i,τ,acc,its,k,H5,I5,st5,fr5,rv5,w5⟩
  rcases turn i n τ acc H5 w5 with ⟨stop,hz,q⟩ | ⟨go,hz,step⟩
  ·refine thn (T.done Y rfl rfl rfl hc i _ s5 τ H5 (λ_ _=>False) I5 (stat fr5) st5 stop) λr s6 ⟨hr,I6⟩=>?_
   subst hr
   obtain ⟨eD,nD,_,_,_⟩:=I6.pin _ (zJ _ (zE.mpr rfl))
   obtain ⟨m6,hm6,_⟩:=I6.loc
   refine ⟨m6,hm6,λh' hsb=>?_⟩
   have hC6:H5 G.objs.size=none:=I6.free
   have eD':h'.get? s2.heap.objs.size=some { cls:=.type "list", data:=.seq its.toArray k }:=hsb.extBut _ _ hDC eD
   have hok6:HOk X.prog X.w H5 h':=λb u e=>(I6.hok b u e).stay (λc v hcv qv=>hsb.extBut c v (by
     rcases hcv with z | z
     ·subst z;exact xA e hC6
     ·exact xA z hC6) qv) (λ_ q=>q) λ_ _ q=>q
   refine ⟨.ref s2.heap.objs.size,_,?_,rfl,q _ nD⟩
   have ub:=I6.base
   refine I2.call' (ch:=fp) (s':={ s6 with heap:=h' }) I6.os ⟨λb o e n' hb hx=>hsb.extBut b o (below b (Heap.lt_size e)) (ub.keep b o e n' hb hx),λb o e n' hb hx=>?_,λb o e n' hx=>?_,λb o e hx=>?_,λb xs e=>?_,λb o u e=>?_,λb ps e=>?_⟩
    (hok6.track nD ⟨hz,its,k,rv5,eD'⟩) I6.bare λb hb=>⟨(f2 b hb).2.2.2.1,(f2 b hb).2.1,(f2 b hb).2.2.2.2.1,(f2 b hb).2.2.2.2.2⟩
   ·obtain ⟨sl,e'⟩:=ub.slot b o e n' hb hx
    exact ⟨sl,hsb.extBut b _ (below b (Heap.lt_size e)) e'⟩
   ·rw [xG (zZ (Heap.lt_size e))]
    exact ub.free b o e n' hx
   ·obtain ⟨o',e'⟩:=ub.there b o e hx
    exact ⟨o',hsb.extBut b _ (below b (Heap.lt_size e)) e'⟩
   ·have z:=ub.tups b xs e
    rw [xG (xA z nD)];exact z
   ·have z:=ub.frzs b o u e
    rw [xG (xA z nD)];exact z
   ·obtain ⟨more,z⟩:=ub.tbls b ps e
    exact ⟨more,by rw [xG (xA z nD)];exact z⟩
  ·refine thn (T.item Y rfl rfl rfl hc i _ s5 τ H5 (λ_ _=>False) I5 (stat fr5) st5 go) λr s6 ⟨u,hr,h6⟩=>?_
   subst hr
   refine thn h6 λ_ s7 ⟨x,H7,I7,r7,y7,st7,fr7⟩=>?_
   have I7':=I7.pinned (stat fr7) (T.obj _ _ st7)
   refine thn (hg s2 H2 fp G.objs.size _ s7 τ H7 x u _ I7' r7 (step x H7 y7)) λ_ s8 ⟨τ8,H8,I8,q8⟩=>?_
   refine thn (ht s2 H2 fp G.objs.size _ s8 τ8 H8 _ I8 q8) λok s9 ⟨H9,I9,q9⟩=>?_
   -- the iterator's state behind the turn
   have back:∀ {s':Shared}{τ':St}{H':Hp},Inv Y ([(s2.heap.objs.size,({ cls:=.type "list", data:=.seq its.toArray k }:Obj))]++pinsAt fp s7.heap) τ' H' s'->(tn (i + 1) s'.heap/\∀ b∈fp,H' b=none):=λ{s' τ' H'} Ib=>
    ⟨T.keep _ _ _ st7 λb hb o e=>(Ib.pin (b,o) (zJ _ (zJ _ (xy hb e)))).1,λb hb=>by
     obtain ⟨o,e,d⟩:=T.obj _ _ st7 b hb
     exact (Ib.pin (b,o) (zJ _ (zJ _ (xy hb e)))).2.1⟩
   cases ok with
   | false=>
    obtain ⟨m',hm',w'⟩:=q9
    obtain ⟨sb,fb⟩:=back I9
    exact ⟨m',hm',i + 1,τ8,acc,its,k,H9,I9.unpinned,sb,fb,rv5,w'⟩
   | true=>
    refine thn (he s2 H2 fp G.objs.size _ s9 τ8 H9 _ I9 q9) λy s10 ⟨yv,H10,I10,r10,q10⟩=>?_
    obtain ⟨m',hm',w'⟩:=q10
    obtain ⟨sb,fb⟩:=back I10
    obtain ⟨eD,nD,neD,nfD,_⟩:=I10.pin (s2.heap.objs.size,_) (zJ _ (yI _ (zE.mpr rfl)))
    have hl:acc.length=its.length:=rv5.length
    refine call_meets F.slot_list_append ⟨_,eD,rfl⟩ F.entry_list_append (F.args_list_append_2 _ _) (PySem.list_append s2.heap.objs.size its.toArray k y (by rw [zO];omega)) ⟨eD,?_⟩
    have q:=PySem.IsL.update eD (λa:Array Value=>a.push y)
    have Iu:Inv Y [] τ8 H10 s10:=I10.pins_of λp hp=>nomatch hp
    have It:=Iu.turned (t':=s10.toks) (it:=s2.heap.objs.size) (h':=s10.heap.update s2.heap.objs.size (Obj.mapSeq (λa:Array Value=>a.push y))) (λb o hb e=>(Heap.get?_update_other s10.heap _ (Ne.symm hb)).trans e) nD neD (.inr (zF _))
     (λx c e z=>by
      obtain ⟨v,ob,hob,_⟩:=I2.cell x c (xl e)
      exact absurd (Heap.lt_size hob) (by rw [z];exact zp _)) (λp hp=>nomatch hp)
    have It':=It.pins_of (pins':=[(s2.heap.objs.size,({ cls:=.type "list", data:=.seq (its++[y]).toArray (k + 1) }:Obj))]) λp hp=>by
     have e:p=_:=zE.mp hp
     subst e
     exact ⟨by simpa using q,nD,neD,nfD,λv z=>nomatch z⟩
    refine ⟨m',hm',i + 1,τ8,acc++[yv],its++[y],_,H10,It',T.keep _ _ _ sb λb hb o e=>(Heap.get?_update_other s10.heap _ (yE (fl b hb))).trans e,fb,rv5.append (.cons r10 .nil),w'⟩
 exact codeAny_compStart_list loop (T.self _ 0 s4 _ _ st4 loop)
end
end L2
namespace L2
open PySem PySem.Spec PyProof.Rows
open AutoSeq1 (wpAny_loadPart')
section
variable {prog:Program}{w:World}{A:Around}{E:Value->Shared->Prop}{s:Shared}
theorem nxT_in {it t:Addr}{i:Nat} {items}{x:Value}{Q:Value->Shared->Prop} (hit:s.heap.IsTupleIter it t i) (ht:s.heap.IsTuple t items) (hx:items[i]?=some x)
  (hQ:∀ h',h'.IsTupleIter it t (i + 1)->Heap.SameBut it s.heap h'->Q x { s with heap:=h' }):wpAny (model prog w) A (Builtin.SmallTypes.nextOf (.ref it)) Q E s:=by
 have ty:=hit.typeIs (s:=s)
 obtain ⟨o,ho,hc,hd⟩:=hit
 obtain ⟨ot,hot,_,n,hdt⟩:=ht
 have new:=hQ _ ⟨_,Heap.get?_update_self (Obj.mapFields (·.set! 1 (rawInt (i + 1)))) ho (Obj.isFreed_of_fields (Obj.data_mapFields hd _)),(Obj.cls_mapFields ..).trans hc,by rw [Obj.data_mapFields hd];simp [rawInt]⟩ (Heap.SameBut.update ..)
 unfold Builtin.SmallTypes.nextOf
 refine wpAny_bind (wpAny_callSpecial?_slot ty F.slot_tuple_iterator_next (wpAny_call_entry F.slot_tuple_iterator_next ty F.entry_tuple_iterator_next ?_ (F.args_tuple_iterator_next_1 _)))
 unfold Builtin.«tuple_iterator.__next__»
 wp_walk using wpAny_field ho hd (x:=.ref t) rfl,wpAny_field ho hd (x:=.int i 0) rfl,wpAny_seqItems hot hdt
 simp only [zc,hx]
 wp_walk using wpAny_setField ho hd (by simp)
 exact ⟨x,rfl,wpAny_pure new⟩
theorem nxT_out {it t:Addr}{i:Nat} {items}{Q:Value->Shared->Prop} (hh:A.handled=none) (hit:s.heap.IsTupleIter it t i) (ht:s.heap.IsTuple t items) (hx:items[i]?=none)
  (hE:∀ h' e,Heap.ExtBut it s.heap h'->(∃ o,h'.get? e=some o/\o.cls=.type "StopIteration")->E (.ref e) { s with heap:=h' }):wpAny (model prog w) A (Builtin.SmallTypes.nextOf (.ref it)) Q E s:=by
 have ty:=hit.typeIs (s:=s)
 obtain ⟨o,ho,hc,hd⟩:=hit
 obtain ⟨ot,hot,_,n,hdt⟩:=ht
 have hh1:A.in1.handled=none:=hh
 unfold Builtin.SmallTypes.nextOf
 refine wpAny_bind (wpAny_callSpecial?_slot ty F.slot_tuple_iterator_next (wpAny_call_entry F.slot_tuple_iterator_next ty F.entry_tuple_iterator_next ?_ (F.args_tuple_iterator_next_1 _)))
 unfold Builtin.«tuple_iterator.__next__»
 wp_walk using wpAny_field ho hd (x:=.ref t) rfl,wpAny_field ho hd (x:=.int i 0) rfl,wpAny_seqItems hot hdt
 simp only [zc,hx]
 wp_walk using wpAny_setField ho hd (by simp)
 simp only [raiseNew]
 refine wpAny_bind (wpAny_handled ?_)
 rw [hh1]
 exact wpAny_bind (wpAny_pure (wpAny_throw (hE _ _ (((Heap.SameBut.update ..).extBut.push _).push _) ⟨_,Heap.get?_push_size _ rfl,rfl⟩)))
end
theorem drawsT {prog:Program}{w:World}{A:Around} (hh:A.handled=none) (it t:Addr) (hne:t≠it) (items:Array Value) :
  Draws prog w A it [it,t] items.size (λi v=>items[i]?=some v) (λi h=>h.IsTupleIter it t i/\h.IsTuple t items) where
 live:=λ_ _ st=>let ⟨⟨o,ho,_⟩,_⟩:=st;⟨o,ho⟩
 frame:=λ_ _ _ st hk=>let ⟨⟨o,ho,r⟩,o',ho',r'⟩:=st;⟨⟨o,hk it (by simp) o ho,r⟩,o',hk t (by simp) o' ho',r'⟩
 item:=λi s Q E hi st hQ=>nxT_in st.1 st.2 (Array.getElem?_eq_getElem hi) λh' a b=>hQ _ h' s.toks (Array.getElem?_eq_getElem hi) ⟨a,st.2.extBut b.extBut hne⟩ b
 done:=λs Q E st hE=>nxT_out hh st.1 st.2 (Array.getElem?_eq_none (zF _)) hE
section
variable {prog:Program}{w:World}{A:Around}{E:Value->Shared->Prop}{s:Shared}
end
end L2
namespace L2
open PySem PySem.Spec PyProof.Rows
def tyS (H:Hp):V->Option String
 | .non=>some "NoneType"
 | .bl _=>some "bool"
 | .int _=>some "int"
 | .str _=>some "str"
 | .ref a=>match H a with
  | some (.lst _)=>some "list"
  | some (.frz _ (.lst _))=>some "list"
  | some (.tup _)=>some "tuple"
  | some (.dK _)=>some "dict"
  | _=>none
 | _=>none
theorem tyS_of {K:PySem.W.Frag}{H:Hp}{x:V}{t:String} (h:tyS H x=some t):TyOf K H x (.type t):=by
 cases x with
 | non=>cases h;exact .non
 | bl b=>cases h;exact .bl b
 | int i=>cases h;exact .int i
 | str x=>cases h;exact .str x
 | ref a=>
  unfold tyS at h
  dsimp only at h
  split at h
  ·rename_i e;cases h;exact .lst e
  ·rename_i e;cases h;exact .frz e
  ·rename_i e;cases h;exact .tup e
  ·rename_i e;cases h;exact .dK e
  ·cases h
 | _=>cases h
theorem tyS_six {H:Hp}{x:V}{t:String} (h:tyS H x=some t):t = "NoneType" \/ t = "bool" \/ t = "int" \/ t = "str" \/ t = "list" \/ t = "tuple" \/ t = "dict" := by
 cases x with
 | ref a=>
  unfold tyS at h
  dsimp only at h
  split at h <;> cases h <;> simp
 | _=>cases h <;> simp
def isSub (t T:String):Bool:=t == T || (t == "bool" && T == "int")
theorem kit_of {K:PySem.W.Frag}{t T:String} (h:t = "NoneType" \/ t = "bool" \/ t = "int" \/ t = "str" \/ t = "list" \/ t = "tuple" \/ t = "dict") (hT:T = "int" \/ T = "bool" \/ T = "list" \/ T = "tuple"):PySem.W.kitOne K (.type t) (.type T)=some (isSub t T):=by
 rcases h with rfl | rfl | rfl | rfl | rfl | rfl | rfl <;> rcases hT with rfl | rfl | rfl | rfl <;> first | rfl | decide +kernel
section
variable {X:Cx}
theorem xq:CallR X (.builtin "isinstance") (λxs H Q=>∃ x t T,xs=[x,.ty T]/\tyS H x=some t/\(T = "int" \/ T = "bool" \/ T = "list" \/ T = "tuple")/\Q (.bl (isSub t T)) H):=by
 intro pins s σ H xs us Q I r h
 obtain ⟨x,t,T,rfl,ht,hT,q⟩:=h
 obtain ⟨u,w',rfl,r1,r2⟩:=vals2 r
 cases r2
 exact isinst_ok I r1 (tyS_of ht) (kit_of (tyS_six ht) hT) λtk=>⟨.bl _,H,I.tok tk,rfl,q⟩
theorem op_fdivB:OpR X (binaryOp .FloorDiv) (rI (λ_ j=>0 < j/\j < 2 ^ 200) λi j=>.int (i / j)):=opI λi j _ _ _ _ _ hc q=>by
 have e:i.fdiv j=i / j:=Int.fdiv_eq_ediv_of_nonneg _ (by omega)
 rw [<-e] at q
 refine floordiv_int (by omega) q (.inl (PyProof.noPylong_of_log2 ?_))
 have h0:j.natAbs≠0:=by omega
 have h1:j.natAbs < 2 ^ 200:=by omega
 have:=(Nat.log2_lt h0).mpr h1
 omega
theorem op_neNil (hu:X.A.units + 64 < cLine):OpR X (compareOp .NotEq) (λx y H Q=>∃ a b xs,x=.ref a/\y=.ref b/\SqL X.K H a xs/\SqL X.K H b []/\Q (.bl (!xs.isEmpty)) H):=by
 intro pins s σ H x y v u Q I rx ry h
 obtain ⟨a,b,xs,rfl,rfl,ha,hb,q⟩:=h
 cases rx;cases ry
 obtain ⟨its,r,p,_⟩:=I.list ha
 obtain ⟨its2,r2,p2,_⟩:=I.list hb
 cases r2
 cases r with
 | nil=>exact SeqAt.RcNeAt.lists (e:=λ_=>true) p.isList p2.isList rfl (by omega) (λj h1=>absurd h1 (yG _)) _ _ _ _ ⟨.bl _,H,I,rfl,q⟩
 | cons r1 rr=>exact SeqAt.RcNeAt.lists_lengths p.isList p2.isList (by simp) (by omega) _ _ _ _ ⟨.bl _,H,I,rfl,q⟩
theorem op_eqUnit (hu:X.A.units + 64 < cLine):OpR X (compareOp .Eq) (λx y H Q=>∃ a b xs,x=.ref a/\y=.ref b/\SqT X.K H a xs/\SqT X.K H b []/\Q (.bl xs.isEmpty) H):=by
 intro pins s σ H x y v u Q I rx ry h
 obtain ⟨a,b,xs,rfl,rfl,ha,hb,q⟩:=h
 cases rx;cases ry
 obtain ⟨its,r,p,_⟩:=I.tuple ha
 obtain ⟨its2,r2,p2,_⟩:=I.tuple hb
 cases r2
 have q':Q (.bl ((List.range (min its.toArray.size ([]:List Value).toArray.size)).all (λ_=>true) && its.toArray.size == ([]:List Value).toArray.size)) H:=by
  cases r with
  | nil=>simpa using q
  | cons r1 rr=>simpa using q
 exact SeqAt.RcAt.tuples (e:=λ_=>true) p p2 (by omega) (λj h1 h2=>absurd h2 (yG _)) _ _ _ _ ⟨.bl _,H,I,rfl,q'⟩
variable {K:PySem.W.Frag}
theorem xX {es:List Expr}{k:Nat}{t:TGs}{n:Nat}{pos:Pos} (hK:X.K=K) (hc:X.calm=true) (h:PGs X es t)
  (hn:(assignEach es X.env).length=n:=by rfl) (hst:(assignEach es X.env).findIdx? (·.1)=none:=by rfl):PG X (.Tuple es k pos) (gTup K n t):=by subst hK;exact pg_tup hc h hn hst
theorem xm {tg l:Expr}{tl:TE} (hK:X.K=K) (hl:PE X l tl):PI X tg l (iList K tl):=by subst hK;exact pi_list hl
theorem pi_tup'' {tg l:Expr}{tl:TE} (hK:X.K=K) (hl:PE X l tl):PI X tg l (iTup K tl):=by subst hK;exact pi_tup hl
theorem xL (hK:X.K=K):IxR X (rIxL K):=by subst hK;exact ix_list
theorem xQ (hK:X.K=K):IxR X (rIxT K):=by subst hK;exact ix_tup
theorem sl_tup' (hK:X.K=K):SlR X (rSlT K):=by subst hK;exact sl_tup
theorem op_in_seq' (hK:X.K=K):OpR X (compareOp .In) (rIn K false):=by subst hK;exact op_in_seq
theorem xJ (hK:X.K=K):CallR X (.builtin "len") (λxs H Q=>∃ p ys,xs=[.ref p]/\(SqL K H p ys\/SqT K H p ys)/\Q (.int ys.length) H):=by subst hK;exact call_len_seq
theorem wK (hK:X.K=K):CallR X (.type "list") (λxs H Q=>∃ p ys,xs=[.ref p]/\(SqL K H p ys\/SqT K H p ys)/\∀ l,H l=none->Q (.ref l) (upd H l (.lst ys))):=by subst hK;exact call_list_of
end
end L2
namespace L2
open PySem PySem.Spec PyProof.Rows
theorem get_list {X:Cx}{K:PySem.W.Frag} (hK:X.K=K):PGet X (λo i H Q=>∃ p xs v,∃ k:Nat,o=.ref p/\i=.int k/\SqL K H p xs/\xs[k]?=some v/\Q v H):=by
 subst hK
 intro pins s σ H o i ov iv Q I ro ri h
 obtain ⟨p,xs,v,k,rfl,rfl,hq,hv,q⟩:=h
 cases ro
 obtain ⟨t,rfl⟩:=ri
 obtain ⟨its,r,pl,hz⟩:=I.list hq
 obtain ⟨w,ew,rw'⟩:=r.get hv
 have hk:k < xs.length:=(zK.mp hv).1
 have hn:=line63
 exact wpAny_getItem_list pl.isList (by omega) (by omega) (by simpa using ew) ⟨v,H,I,rw',q⟩
end L2
namespace SmSort
open PySem PySem.W PyProof.Rows
def KOK {α:Type} (n:Nat) (c:Nat->Nat->Bool):KasT α->(α->Prop)->Prop
 | .ret a,P=>P a
 | .ask i j k,P=>i < n/\j < n/\KOK n c (k (c i j)) P
theorem KOK.bind {α β:Type}{n:Nat}{c:Nat->Nat->Bool}{f:α->KasT β}{P:β->Prop}:∀ (t:KasT α),KOK n c t (λa=>KOK n c (f a) P)->KOK n c (t.bind f) P
 | .ret a,h=>h
 | .ask i j k,h=>⟨h.1,h.2.1,KOK.bind (k (c i j)) h.2.2⟩
theorem KOK.mono {α:Type}{n:Nat}{c:Nat->Nat->Bool}{P P':α->Prop} (hp:∀ a,P a->P' a):∀ (t:KasT α),KOK n c t P->KOK n c t P'
 | .ret a,h=>hp a h
 | .ask i j k,h=>⟨h.1,h.2.1,KOK.mono hp (k (c i j)) h.2.2⟩
theorem KOK.wp {α:Type}{n:Nat}{c:Nat->Nat->Bool}{P:α->Prop}{Q:α->Shared->Prop}{cmp:Nat->Nat->(Bool->Shared->Prop)->Shared->Prop}{s:Shared}
  (hc:∀ i j C,i < n->j < n->C (c i j) s->cmp i j C s) (hq:∀ a,P a->Q a s):∀ (t:KasT α),KOK n c t P->t.kasWp cmp Q s
 | .ret a,h=>hq a h
 | .ask i j k,h=>hc i j _ h.1 h.2.1 (KOK.wp hc hq (k (c i j)) h.2.2)
section
variable {n:Nat}{f:Nat->Int}
def at' (p:Array Nat) (i:Nat):Nat:=(p[i]?).getD 0
theorem wB (p:Array Nat) (i:Nat):p.getD i 0=at' p i:=by unfold at';simp
def g (f:Nat->Int) (p:Array Nat) (i:Nat):Int:=f (at' p i)
def Pm (n:Nat) (p:Array Nat):Prop:=p.Perm (List.toArray (List.range n))
theorem Pm.size {p:Array Nat} (h:Pm n p):p.size=n:=by rw [Array.Perm.size_eq h];simp
theorem Pm.lt {p:Array Nat} (h:Pm n p) {i:Nat} (hi:i < n):at' p i < n:=by
 have hs:=h.size
 have e:at' p i=p[i]'(by omega):=by unfold at';simp [hs,hi]
 have hm:p[i]'(by omega)∈p:=Array.getElem_mem _
 have hm':=(Array.Perm.mem_iff h).mp hm
 rw [e]
 simpa using hm'
theorem Pm.rev {p:Array Nat} (h:Pm n p) (i j:Nat):Pm n (kas_rev p i j):=(mirror_perm p i j _).trans h
theorem Pm.bub {p:Array Nat} (h:Pm n p) (k d:Nat):Pm n (bubble p k d):=(bubble_perm p k d).trans h
theorem g_rev {p:Array Nat}{i j:Nat} (hj:j<=p.size) (k:Nat):g f (kas_rev p i j) k=if i<=k/\k < j then g f p (i + j - 1 - k) else g f p k:=by
 unfold g at' kas_rev
 rw [getElem?_mirror_all hj k]
 split <;> rfl
theorem g_bub {p:Array Nat}{src d:Nat} (hs:src < p.size) (hd:d<=src) (k:Nat):g f (bubble p src d) k=if k=src - d then g f p src else if src - d < k/\k<=src then g f p (k - 1) else g f p k:=by
 unfold g at'
 rw [getElem?_bubble hs d hd k]
 split
 ·rfl
 ·split <;> rfl
def Up (f:Nat->Int) (p:Array Nat) (k:Nat):Prop:=∀ i j,i<=j->j < k->g f p i<=g f p j
def Dn (f:Nat->Int) (p:Array Nat) (k:Nat):Prop:=∀ i j,i<=j->j < k->g f p j<=g f p i
def cf (f:Nat->Int) (i j:Nat):Bool:=decide (f i < f j)
theorem asc_ok {p:Array Nat} (hp:Pm n p):∀ (q m:Nat),1<=m->m + q<=n->Up f p m->KOK n (cf f) (kas_asc p q m) (λm'=>m<=m'/\m'<=m + q/\Up f p m'/\(m' < m + q->g f p m' < g f p (m' - 1)))
 | 0,m,_,_,hu=>⟨zF _,zF _,hu,λh=>absurd h (zp _)⟩
 | q + 1,m,h1,h2,hu=>by
  unfold kas_asc
  refine ⟨by rw [wB];exact hp.lt (by omega),by rw [wB];exact hp.lt (by omega),?_⟩
  rw [wB,wB]
  by_cases hc:g f p m < g f p (m - 1)
  ·have e:cf f (at' p m) (at' p (m - 1))=true:=decide_eq_true hc
   rw [e];dsimp only;rw [if_pos rfl]
   exact ⟨zF _,by omega,hu,λ_=>hc⟩
  ·have e:cf f (at' p m) (at' p (m - 1))=false:=decide_eq_false hc
   rw [e];dsimp only;rw [if_neg zL]
   refine KOK.mono (λm' h=>⟨by omega,by omega,h.2.2.1,λz=>h.2.2.2 (by omega)⟩) _ (asc_ok hp q (m + 1) (by omega) (by omega) λi j hij hj=>?_)
   by_cases hjm:j < m
   ·exact hu i j hij hjm
   ·have ej:j=m:=by omega
    subst ej
    by_cases hi:i=j
    ·subst hi;omega
    ·have:=hu i (j - 1) (by omega) (by omega)
     omega
def Blk (f:Nat->Int) (p:Array Nat) (m q:Nat):Prop:=∀ i,m<=i + (q + 1)->i < m->g f p i=g f p (m - 1)
theorem rev_same {p:Array Nat} (hp:Pm n p) {m q:Nat} (hm:m<=n) (hq:q + 1<=m) (hb:Blk f p m q) (k:Nat):g f (kas_rev p (m - (q + 1)) m) k=g f p k:=by
 rw [g_rev (by rw [hp.size];exact hm)]
 split
 ·rename_i h
  rw [hb _ (by omega) (by omega),hb k (by omega) (by omega)]
 ·rfl
theorem desc_ok:∀ (t:Nat) (p:Array Nat) (m q:Nat),Pm n p->1<=m->m + t<=n->q + 1<=m->Dn f p m->Blk f p m q ->
  KOK n (cf f) (kas_desc t p m q) (λr=>Pm n r.1/\m<=r.2.1/\r.2.1<=n/\r.2.2 + 1<=r.2.1/\Dn f r.1 r.2.1/\Blk f r.1 r.2.1 r.2.2)
 | 0,p,m,q,hp,h1,h2,h3,hd,hb=>⟨hp,zF _,by simpa using h2,h3,hd,hb⟩
 | t + 1,p,m,q,hp,h1,h2,h3,hd,hb=>by
  unfold kas_desc
  refine ⟨by rw [wB];exact hp.lt (by omega),by rw [wB];exact hp.lt (by omega),?_⟩
  rw [wB,wB]
  by_cases hc:g f p m < g f p (m - 1)
  ·have e:cf f (at' p m) (at' p (m - 1))=true:=decide_eq_true hc
   rw [e];dsimp only;rw [if_pos rfl]
   have step:∀ p':Array Nat,Pm n p'->(∀ k,g f p' k=g f p k)->KOK n (cf f) (kas_desc t p' (m + 1) 0) (λr=>Pm n r.1/\m<=r.2.1/\r.2.1<=n/\r.2.2 + 1<=r.2.1/\Dn f r.1 r.2.1/\Blk f r.1 r.2.1 r.2.2):=λp' hp' hg=>by
    refine KOK.mono (λr h=>⟨h.1,by omega,h.2.2⟩) _ (desc_ok t p' (m + 1) 0 hp' (by omega) (by omega) (by omega) (λi j hij hj=>?_) λi hi hi'=>?_)
    ·rw [hg,hg]
     by_cases hjm:j < m
     ·exact hd i j hij hjm
     ·have ej:j=m:=by omega
      subst ej
      by_cases hi:i=j
      ·subst hi;omega
      ·have:=hd i (j - 1) (by omega) (by omega)
       omega
    ·have:i=m + 1 - 1:=by omega
     rw [this]
   split
   ·exact step _ (hp.rev _ _) (rev_same hp (by omega) h3 hb)
   ·exact step _ hp λ_=>rfl
  ·have e:cf f (at' p m) (at' p (m - 1))=false:=decide_eq_false hc
   rw [e];dsimp only;rw [if_neg zL]
   refine ⟨hp.lt (by omega),hp.lt (by omega),?_⟩
   by_cases hc2:g f p (m - 1) < g f p m
   ·have e2:cf f (at' p (m - 1)) (at' p m)=true:=decide_eq_true hc2
    rw [e2];dsimp only;rw [if_pos rfl]
    exact ⟨hp,zF _,by show m<=n;omega,h3,hd,hb⟩
   ·have e2:cf f (at' p (m - 1)) (at' p m)=false:=decide_eq_false hc2
    rw [e2];dsimp only;rw [if_neg zL]
    have eq:g f p m=g f p (m - 1):=by omega
    refine KOK.mono (λr h=>⟨h.1,by omega,h.2.2⟩) _ (desc_ok t p (m + 1) (q + 1) hp (by omega) (by omega) (by omega) (λi j hij hj=>?_) λi hi hi'=>?_)
    ·by_cases hjm:j < m
     ·exact hd i j hij hjm
     ·have ej:j=m:=by omega
      subst ej
      by_cases hi:i=j
      ·subst hi;omega
      ·have:=hd i (j - 1) (by omega) (by omega)
       omega
    ·rw [show m + 1 - 1=m from rfl]
     by_cases hi2:i=m
     ·rw [hi2]
     ·rw [hb i (by omega) (by omega),eq]
theorem tail3_ok {p:Array Nat}{m:Nat} (hp:Pm n p) (h1:1<=m) (hm:m<=n) (hd:Dn f p m):KOK n (cf f) (kas_tail3 m n p) (λr=>Pm n r.2/\r.1<=n/\1<=r.1/\Up f r.2 r.1):=by
 unfold kas_tail3
 have hp':=hp.rev 0 m
 refine KOK.bind _ (KOK.mono (λm' h=>⟨hp',by omega,by omega,h.2.2.1⟩) _ (asc_ok hp' (n - m) m h1 (by omega) λi j hij hj=>?_))
 rw [g_rev (by rw [hp.size];exact hm),g_rev (by rw [hp.size];exact hm),if_pos ⟨by omega,by omega⟩,if_pos ⟨by omega,by omega⟩]
 exact hd _ _ (by omega) (by omega)
theorem descPart_ok {p:Array Nat}{m:Nat} (hp:Pm n p) (h1:1<=m) (hm:m < n) (hd:Dn f p (m + 1)):KOK n (cf f) (kas_descPart m n p) (λr=>Pm n r.2/\r.1<=n/\1<=r.1/\Up f r.2 r.1):=by
 unfold kas_descPart
 refine KOK.bind _ (KOK.mono (λr h=>?_) _ (desc_ok (n - (m + 1)) p (m + 1) 0 hp (by omega) (by omega) (by omega) hd λi hi hi'=>by rw [show i=m + 1 - 1 by omega]))
 obtain ⟨a1,a2,a3,a4,a5,a6⟩:=h
 split
 ·exact tail3_ok (a1.rev _ _) (by omega) a3 λi j hij hj=>by
   rw [rev_same a1 a3 a4 a6,rev_same a1 a3 a4 a6]
   exact a5 i j hij hj
 ·exact tail3_ok a1 (by omega) a3 a5
theorem count_ok {p:Array Nat} (hn:1<=n) (hp:Pm n p):KOK n (cf f) (kas_count n p) (λr=>Pm n r.2/\r.1<=n/\1<=r.1/\Up f r.2 r.1):=by
 unfold kas_count
 refine KOK.bind _ (KOK.mono (λm h=>?_) _ (asc_ok hp (n - 1) 1 (zF _) (by omega) λi j hij hj=>by rw [show i=j by omega];omega))
 obtain ⟨a1,a2,a3,a4⟩:=h
 split
 ·exact ⟨hp,by omega,a1,a3⟩
 ·rename_i hne
  have hlt:m < n:=by
   have:¬ m=n:=by simpa using hne
   omega
  have a4':=a4 (by omega)
  split
  ·rename_i hm1
   refine ⟨by rw [wB];exact hp.lt (by omega),by rw [wB];exact hp.lt (by omega),?_⟩
   rw [wB,wB]
   by_cases hc:g f p 0 < g f p (m - 1)
   ·have e:cf f (at' p 0) (at' p (m - 1))=true:=decide_eq_true hc
    rw [e];dsimp only;rw [if_pos rfl]
    exact ⟨hp,by omega,a1,a3⟩
   ·have e:cf f (at' p 0) (at' p (m - 1))=false:=decide_eq_false hc
    rw [e];dsimp only;rw [if_neg zL]
    have all:∀ k,k < m->g f p k=g f p 0:=λk hk=>by
     have:=a3 0 k (by omega) hk
     have:=a3 k (m - 1) (by omega) (by omega)
     omega
    have gr:∀ k,g f (kas_rev p 0 m) k=g f p k:=λk=>by
     rw [g_rev (by rw [hp.size];omega)]
     split
     ·rw [all _ (by omega),all k (by omega)]
     ·rfl
    refine descPart_ok (hp.rev _ _) a1 hlt λi j hij hj=>?_
    rw [gr,gr]
    by_cases hjm:j < m
    ·rw [all i (by omega),all j hjm];omega
    ·have ej:j=m:=by omega
     subst ej
     by_cases hi:i=j
     ·subst hi;omega
     ·have:=all i (by omega)
      have:=all (j - 1) (by omega)
      omega
  ·refine descPart_ok hp a1 hlt λi j hij hj=>?_
   have em:m=1:=by omega
   subst em
   by_cases hi:i=j
   ·subst hi;omega
   ·have e1:i=0:=by omega
    have e2:j=1:=by omega
    subst e1 e2
    have:g f p 1 < g f p 0:=a4'
    omega
theorem place_ok {p:Array Nat}{k:Nat} (hp:Pm n p) (hk:k < n) (hu:Up f p k):∀ (t l r:Nat),l<=r->r<=k->r<=l + t->(∀ i,i < l->g f p i<=g f p k)->(∀ i,r<=i->i < k->g f p k < g f p i) ->
  KOK n (cf f) (kas_place p k t l r) (λl'=>l'<=k/\(∀ i,i < l'->g f p i<=g f p k)/\∀ i,l'<=i->i < k->g f p k < g f p i)
 | 0,l,r,h1,h2,h3,ha,hb=>⟨by omega,ha,λi hi hi'=>hb i (by omega) hi'⟩
 | t + 1,l,r,h1,h2,h3,ha,hb=>by
  unfold kas_place
  split
  ·exact ⟨by omega,ha,λi hi hi'=>hb i (by omega) hi'⟩
  ·rename_i hlr
   refine ⟨by rw [wB];exact hp.lt hk,by rw [wB];exact hp.lt (by omega),?_⟩
   rw [wB,wB]
   by_cases hc:g f p k < g f p ((l + r) / 2)
   ·have e:cf f (at' p k) (at' p ((l + r) / 2))=true:=decide_eq_true hc
    rw [e];dsimp only;rw [if_pos rfl]
    refine place_ok hp hk hu t l ((l + r) / 2) (by omega) (by omega) (by omega) ha λi hi hi'=>?_
    have:=hu ((l + r) / 2) i (by omega) hi'
    omega
   ·have e:cf f (at' p k) (at' p ((l + r) / 2))=false:=decide_eq_false hc
    rw [e];dsimp only;rw [if_neg zL]
    refine place_ok hp hk hu t ((l + r) / 2 + 1) r (by omega) (by omega) (by omega) (λi hi=>?_) hb
    have:=hu i ((l + r) / 2) (by omega) (by omega)
    omega
theorem bin_ok:∀ (t:Nat) (p:Array Nat) (k:Nat),Pm n p->k + t=n->Up f p k->KOK n (cf f) (kas_bin t p k) (λp'=>Pm n p'/\Up f p' n)
 | 0,p,k,hp,hk,hu=>⟨hp,by rw [<-hk];exact hu⟩
 | t + 1,p,k,hp,hk,hu=>by
  unfold kas_bin
  refine KOK.bind _ (KOK.mono (λl h=>?_) _ (place_ok hp (by omega) hu k 0 k (by omega) (by omega) (by omega) (λi hi=>absurd hi (yG _)) λi hi hi'=>absurd hi' (by omega)))
  obtain ⟨a1,a2,a3⟩:=h
  refine bin_ok t _ (k + 1) (hp.bub _ _) (by omega) λi j hij hj=>?_
  have hs:k < p.size:=by rw [hp.size];omega
  rw [g_bub hs (by omega),g_bub hs (by omega)]
  have el:k - (k - l)=l:=by omega
  rw [el]
  by_cases hil:i=l
  ·rw [if_pos hil]
   by_cases hjl:j=l
   ·rw [if_pos hjl];omega
   ·rw [if_neg hjl,if_pos ⟨by omega,by omega⟩]
    have:=a3 (j - 1) (by omega) (by omega)
    omega
  ·rw [if_neg hil]
   by_cases hi2:l < i/\i<=k
   ·rw [if_pos hi2]
    rw [if_neg (by omega),if_pos ⟨by omega,by omega⟩]
    exact hu _ _ (by omega) (by omega)
   ·rw [if_neg hi2]
    have hi3:i < l:=by omega
    by_cases hjl:j=l
    ·rw [if_pos hjl];exact a2 i hi3
    ·rw [if_neg hjl]
     by_cases hj2:l < j/\j<=k
     ·rw [if_pos hj2];exact hu _ _ (by omega) (by omega)
     ·rw [if_neg hj2];exact hu _ _ hij (by omega)
theorem sort_ok (hn:1<=n):KOK n (cf f) (kas_sort n) (λp=>Pm n p/\Up f p n):=by
 unfold kas_sort
 refine KOK.bind _ (KOK.mono (λr h=>?_) _ (count_ok hn (show Pm n (List.toArray (List.range n)) from Array.Perm.refl _)))
 obtain ⟨a1,a2,a3,a4⟩:=h
 split
 ·have e:max r.1 1=r.1:=by omega
  rw [e]
  exact bin_ok _ _ _ a1 (by omega) a4
 ·have e:r.1=n:=by omega
  exact ⟨a1,by rw [<-e];exact a4⟩
end
end SmSort
namespace SmSort
def lx:List Int->List Int->Bool
 | [],[]=>false
 | [],_::_=>true
 | _::_,[]=>false
 | x::xs,y::ys=>if x=y then lx xs ys else decide (x < y)
theorem lx_irr:∀ r:List Int,lx r r=false
 | []=>rfl
 | x::xs=>by unfold lx;rw [if_pos rfl];exact lx_irr xs
theorem lx_tr:∀ {a b c:List Int},lx a b=true->lx b c=true->lx a c=true
 | [],[],_,h,_=>by cases h
 | [],_::_,[],_,h=>by cases h
 | [],_::_,_::_,_,_=>rfl
 | _::_,[],_,h,_=>by cases h
 | _::_,_::_,[],_,h=>by cases h
 | x::xs,y::ys,z::zs,h,h'=>by
  unfold lx at h h' ⊢
  split at h
  ·split at h'
   ·rename_i e1 e2;rw [if_pos (e1.trans e2)];exact lx_tr h h'
   ·rename_i e1 e2
    simp only [decide_eq_true_eq] at h'
    rw [if_neg (by omega)];simp only [decide_eq_true_eq];omega
  ·simp only [decide_eq_true_eq] at h
   split at h'
   ·rename_i e1 e2
    rw [if_neg (by omega)];simp only [decide_eq_true_eq];omega
   ·simp only [decide_eq_true_eq] at h'
    rw [if_neg (by omega)];simp only [decide_eq_true_eq];omega
theorem lx_tot:∀ {a b:List Int},lx a b=false->lx b a=false->a=b
 | [],[],_,_=>rfl
 | [],_::_,h,_=>by cases h
 | _::_,[],_,h=>by cases h
 | x::xs,y::ys,h,h'=>by
  unfold lx at h h'
  split at h
  ·rename_i e;subst e;rw [if_pos rfl] at h';rw [lx_tot h h']
  ·rename_i e
   rw [if_neg λz=>e z.symm] at h'
   simp only [decide_eq_false_iff_not] at h h'
   omega
def rk (rs:List (List Int)) (r:List Int):Int:=((rs.countP λx=>lx x r:Nat):Int)
theorem countP_lt {α:Type}{p q:α->Bool}{a:α}:∀ {l:List α},(∀ x,p x=true->q x=true)->a∈l->p a=false->q a=true->l.countP p < l.countP q
 | [],_,h,_,_=>by cases h
 | x::l,hpq,h,h1,h2=>by
  have hm:l.countP p<=l.countP q:=List.countP_mono_left λx _=>hpq x
  rcases zC.mp h with rfl | h
  ·rw [List.countP_cons_of_neg (by rw [h1];exact zL),List.countP_cons_of_pos h2];omega
  ·have:=countP_lt hpq h h1 h2
   rw [List.countP_cons,List.countP_cons]
   cases e:p x with
   | true=>rw [hpq x e];simp;omega
   | false=>cases e2:q x <;> simp <;> omega
theorem rk_lt {rs:List (List Int)}{a b:List Int} (ha:a∈rs):decide (rk rs a < rk rs b)=lx a b:=by
 unfold rk
 cases h:lx a b with
 | true=>
  have:=countP_lt (p:=λx=>lx x a) (q:=λx=>lx x b) (λx hx=>lx_tr hx h) ha (lx_irr a) h
  simp only [decide_eq_true_eq];omega
 | false=>
  have hm:rs.countP (λx=>lx x b)<=rs.countP (λx=>lx x a):=List.countP_mono_left λx _ hx=>by
   cases h':lx b a with
   | true=>exact lx_tr hx h'
   | false=>rw [lx_tot h h'];exact hx
  simp only [decide_eq_false_iff_not];omega
end SmSort
namespace L2
open PySem PySem.Spec PyProof.Rows PySem.W SmSort
theorem ObjOk.at {P:Program}{w:World}{H:Hp}{h:Heap}{a:Addr}{o:HO} (x:ObjOk P w H h a o):∃ ob,h.get? a=some ob:=by
 cases o with
 | lst xs=>obtain ⟨_,_,_,_,e⟩:=x;exact ⟨_,e⟩
 | tup xs=>obtain ⟨_,_,_,ob,e,_⟩:=x;exact ⟨_,e⟩
 | dK kvs=>obtain ⟨_,_,_,_,o,_,_,e,_⟩:=x;exact ⟨_,e⟩
 | dT kvs=>obtain ⟨_,_,_,_,o,_,_,e,_⟩:=x;exact ⟨_,e⟩
 | set S n=>obtain ⟨o,_,_,_,e,_⟩:=x;exact ⟨_,e⟩
 | ins C dx fs=>obtain ⟨_,_,_,e,_⟩:=x;exact ⟨_,e⟩
 | own y=>obtain ⟨_,e⟩:=x;exact ⟨_,e⟩
 | xd fs=>obtain ⟨_,⟨_,_,_,e,_⟩,_⟩:=x;exact ⟨_,e⟩
 | rng lo hi=>obtain ⟨_,_,_,e⟩:=x;exact ⟨_,e⟩
 | frz ob u=>obtain ⟨e,_⟩:=x;exact ⟨_,e⟩
 | tbl ps=>exact ⟨_,(show h.get? a=some _ from x)⟩
 | met f y=>exact ⟨_,(show h.get? a=some _ from x)⟩
 | ext φ=>obtain ⟨_,⟨_,e⟩,_⟩:=x;exact ⟨_,e⟩
section
variable {X:Cx}{pins:List (Addr×Obj)}{σ:St}{H:Hp}{s:Shared}
theorem Inv.sortedTo {m:Str->Option Value}{h':Heap}{D:Addr}{its:List Value}{c:Nat}{xs:List V} (I:Inv X pins σ H s) (F0:Fr X.base X.env.locals s.heap m) (F:Fr X.base X.env.locals h' m)
  (N:News X.base X.env.locals h' ((D,listOf its.toArray c)::allNews X.base s.heap X.env.locals)) (lt:∀ q∈allNews X.base s.heap X.env.locals,q.1 < D) (hv:Vals xs its) (hz:xs.length<=sizeLine) :
  Inv X pins σ (upd H D (.lst xs)) { s with heap:=h' }/\H D=none:=by
 obtain ⟨eD,nL,nb⟩:=N (D,listOf its.toArray c) (.head _)
 have oldD:s.heap.get? D=none:=by
  cases q:s.heap.get? D with
  | none=>rfl
  | some o=>exact absurd (lt (D,o) (mem_allNews nL nb q)) (zp _)
 have hD:H D=none:=by
  cases q:H D with
  | none=>rfl
  | some u=>
   obtain ⟨ob,e⟩:=(I.hok D u q).at
   rw [oldD] at e;cases e
 have keep:∀ b o,b≠X.env.locals->s.heap.get? b=some o->h'.get? b=some o:=λb o hb e=>by
  cases q:X.base.get? b with
  | some u=>
   have:=I.bk b u q
   rw [e] at this;cases this
   exact F.keep b _ q
  | none=>exact (N (b,o) (.tail _ (mem_allNews hb q e))).1
 have neD:∀ b o,s.heap.get? b=some o->b≠D:=λb o e z=>by rw [z,oldD] at e;cases e
 have neT:∀ b u,H b=some u->b≠D:=λb u e z=>by rw [z,hD] at e;cases e
 refine ⟨I.step (g':=s.gens) (t':=s.toks) (d':=s.drawn) (ch:=[]) (λ_ z=>nomatch z) (λb o hb _ _ e _=>keep b o hb e) (λb o hb _ _ e _=>⟨o.slots,keep b o hb e⟩) (λb o _ e n=>by rw [xG (neD b o e)];exact n) (λb o _ e=>?_)
  (λb ys e=>by rw [xG (neT b _ e)];exact e) (λb o u e=>by rw [xG (neT b _ e)];exact e) (λb ps e=>⟨#[],by rw [xG (neT b _ e),e,Array.append_empty]⟩) (λm' hm=>?_) (λb u e=>?_) I.bare,hD⟩
 ·by_cases hb:b=X.env.locals
  ·obtain ⟨o',_,_,q,_⟩:=F.ns
   exact ⟨o',by rw [hb];exact q⟩
  ·exact ⟨o,keep b o hb e⟩
 ·obtain ⟨o1,es1,ep1,e1,d1,k1,f1⟩:=hm
  obtain ⟨o2,es2,ep2,e2,d2,k2,f2⟩:=F0.ns
  rw [e1] at e2;cases e2
  rw [d1] at d2;cases d2
  obtain ⟨o3,es3,ep3,e3,d3,k3,f3⟩:=F.ns
  exact ⟨o3,es3,ep3,e3,d3,k3,λname=>(f3 name).trans ((f2 name).symm.trans (f1 name))⟩
 ·by_cases hb:b=D
  ·subst hb;rw [yy] at e;cases e
   exact ⟨hz,its,c,hv,eD⟩
  ·rw [xG hb] at e
   refine (I.hok b u e).stay (λc v hc q=>keep c v (λz=>?_) q) (λc q=>by rw [xG (neT c _ q)];exact q) λc ys q=>by rw [xG (neT c _ q)];exact q
   rcases hc with rfl | hc
   ·rw [z,I.free] at e;cases e
   ·rw [z,I.free] at hc;cases hc
end
section
variable {prog:Program}{w:World}{A:Around}{E:Value->Shared->Prop}{s:Shared}
theorem sort_short {a:Addr}{its:List Value}{k:Nat}{P:PySem.Fin->Shared->Prop} (hx:s.heap.get? a=some (seqObj "list" its.toArray k)) (few:its.length < 2)
  (done:P (.done (.ret .none)) { s with heap:=sortedHeap s.heap a its its.toArray }):wpAny (model prog w) A (Builtin.«list.sort» ⟨[.ref a],[]⟩) P E s:=by
 have here:a < s.heap.objs.size:=Heap.lt_size hx
 have line:its.length<=sizeLine:=by rw [sizeLine_eq];omega
 rw [list_sort_plain]
 obtain ⟨e1,at1⟩:∃ e1,(s.heap.update a (Obj.mapSeq λ_=>(#[]:Array Value))).get? a=some (seqObj "list" #[] e1):=⟨_,get?_update_seq hx (λ_=>#[])⟩
 refine wpAny_bind (listItems_at hx rfl (wpAny_bind (listUpdate_at hx rfl (wpAny_bind (seqEpoch_at at1 rfl (wpAny_bind (wpAny_newTuple (wpAny_bind (wpAny_newList (wpAny_holding ?_) (zg _))) line))))
  (by rw [zO];exact line) (zg _))))
 have at2:(((s.heap.update a (Obj.mapSeq λ_=>(#[]:Array Value))).push (seqObj "tuple" its.toArray 0)).push (seqObj "list" #[] 0)).get? a=some (seqObj "list" #[] e1):=
  Heap.get?_push_of_some _ (Heap.get?_push_of_some _ at1)
 show wpAny (model prog w) A _ P E { s with heap:=((s.heap.update a (Obj.mapSeq λ_=>(#[]:Array Value))).push (seqObj "tuple" its.toArray 0)).push (seqObj "list" #[] 0) }
 have less:its.toArray.size < 2:=by rw [zO];exact few
 have snds:(arrOf (SortSt.mk' general' (its.toArray.zip its.toArray) #[] 7 none)).map (·.2)=its.toArray:=by
  show (its.toArray.zip its.toArray).map (·.2)=its.toArray
  match its,few with
  | [],_=>simp
  | [_],_=>simp
 dsimp only
 rw [if_pos less,if_pos less]
 refine wpAny_bind (wpAny_pure ?_)
 rw [StateT.run_pure]
 refine wpAny_bind (wpAny_pure ?_)
 dsimp only
 refine wpAny_bind (seqEpoch_at at2 rfl (wpAny_bind (listUpdate_at at2 rfl ?_ (zg _) (by rw [snds,zO];omega))))
 simp only [bne_self_eq_false,zb,if_false]
 rw [snds]
 exact wpAny_pure done
theorem sorted_short {l:Addr}{its:List Value}{Q:Value->Shared->Prop} (hl:s.heap.IsList l its.toArray) (few:its.length < 2)
  (done:Q (.ref (s.heap.objs.size + 1)) { s with heap:=sortedAll s.heap its its.toArray }):wpAny (model prog w) A (call (.builtin "sorted") [.ref l]) Q E s:=by
 have line:its.length<=sizeLine:=by rw [sizeLine_eq];omega
 refine Calls.call_function_entry kind_sorted plain_sorted entry_sorted (args_sorted1 _) ?_
 unfold Builtin.«sorted»
 refine wpAny_bind (m:=checkCount "sorted" 1 1 _) (wpAny_pure (wpAny_bind (collect_list hl (wpAny_bind (wpAny_newList ?_ line)) line)))
 have sz:((s.heap.push (seqObj "list" #[] 0)).update s.heap.objs.size (Obj.mapSeq (·++its.toArray))).objs.size=s.heap.objs.size + 1:=by rw [Heap.size_update,size_push']
 have atL:(((s.heap.push (seqObj "list" #[] 0)).update s.heap.objs.size (Obj.mapSeq (·++its.toArray))).push (seqObj "list" its.toArray 0)).get? (s.heap.objs.size + 1)=some (seqObj "list" its.toArray 0):=by
  rw [<-sz];exact Heap.get?_push_size _ rfl
 show wpAny _ _ _ _ _ { s with heap:=((s.heap.push (seqObj "list" #[] 0)).update s.heap.objs.size (Obj.mapSeq (·++its.toArray))).push (seqObj "list" its.toArray 0) }
 rw [sz]
 exact wpAny_bind (wpAny_holding (wpAny_call_entry slot_list_sort ⟨_,atL,rfl⟩ entry_list_sort (sort_short atL few ⟨_,rfl,wpAny_pure ⟨_,rfl,done⟩⟩) (args_list_sort _)))
end
section
variable {X:Cx}
theorem vals_refs:∀ {ps:List (Addr×List Int)}{us:List Value},Vals (ps.map λa=>V.ref a.1) us->us=ps.map λa=>Value.ref a.1
 | [],us,r=>by cases r;rfl
 | a::ps,us,r=>by
  cases r with
  | cons x y=>rw [vals_refs y];cases x;rfl
def RowAt (h:Heap) (a:Addr) (r:List Int):Prop:=∃ o items n,h.get? a=some o/\o.cls=.type "tuple" /\ o.data=.seq items n/\Vals (r.map V.int) items.toList
theorem vals_lex {prog:Program}{w:World}{A:Around}{s:Shared}{b fin:Bool}{Q:Bool->Shared->Prop}:∀ {r r':List Int}{us us':List Value}{i:Nat},Vals (r.map V.int) us->Vals (r'.map V.int) us'->fin=decide (us.length < us'.length)->Q (lx r r') s ->
  KatLex prog w A b fin Q (us.zip us') i s
 | [],[],us,us',i,ru,ru',hf,q=>by cases ru;cases ru';exact kat_nil (by rw [hf];exact q)
 | [],_::_,us,us',i,ru,ru',hf,q=>by
  cases ru;cases ru' with
  | cons _ _=>exact kat_nil (by rw [hf];simpa [lx] using q)
 | _::_,[],us,us',i,ru,ru',hf,q=>by
  cases ru';cases ru with
  | cons _ _=>exact kat_nil (by rw [hf];simpa [lx] using q)
 | x::r,y::r',us,us',i,ru,ru',hf,q=>by
  cases ru with
  | cons rx ru=>
  cases ru' with
  | cons ry ru'=>
  obtain ⟨t,rfl⟩:=rx
  obtain ⟨t',rfl⟩:=ry
  refine kat_cons (wpAny_eqBool_int ?_)
  unfold lx at q
  by_cases e:x=y
  ·subst e
   rw [if_pos rfl] at q
   rw [show (x == x)=true from by simp]
   exact kat_yes (vals_lex ru ru' (by rw [hf];simp) q)
  ·rw [if_neg e] at q
   rw [show (x == y)=false from by simpa using e]
   refine kat_no ?_
   cases (b && i == 0) with
   | true=>exact oneLt_int q
   | false=>exact kat_one _ _ (lt_int q)
theorem kat_tups {h:Heap}:∀ {ps:List (Addr×List Int)},(∀ a∈ps,RowAt h a.1 a.2/\a.2≠[])->∃ fs,KatTups h (ps.map λa=>Value.ref a.1) fs/\fs.length=ps.length/\∀ v∈fs,∃ i t,v=Value.int i t
 | [],_=>⟨[],KatTups.nil,rfl,λ_ z=>nomatch z⟩
 | (a,r)::ps,hp=>by
  obtain ⟨fs,k,l,f⟩:=kat_tups λa ha=>hp a (.tail _ ha)
  obtain ⟨⟨o,items,n,ho,hc,hd,hv⟩,hn⟩:=hp (a,r) (.head _)
  match r,hn,hv with
  | x::r,_,hv=>
   obtain ⟨u,hu,t,e⟩:=Vals.get (i:=0) hv rfl
   refine ⟨u::fs,KatTups.cons ho hc hd (by rw [<-hu];simp) k,by simp [l],λv hv=>?_⟩
   rcases zC.mp hv with rfl | hv
   ·exact ⟨x,t,e⟩
   ·exact f v hv
theorem range_map {α:Type} (d:α) (l:List α):(List.range l.length).map (λi=>l.getD i d)=l:=by
 apply List.ext_getElem
 ·simp
 ·intro i h1 h2
  simp [List.getD,h2]
theorem vals_of_refs:∀ (ps:List (Addr×List Int)),Vals (ps.map λa=>V.ref a.1) (ps.map λa=>Value.ref a.1)
 | []=>.nil
 | _::ps=>.cons rfl (vals_of_refs ps)
theorem call_sortT:CallR X (.builtin "sorted") (λxs H Q=>∃ p,∃ ps:List (Addr×List Int),xs=[.ref p]/\SqL X.K H p (ps.map λa=>V.ref a.1)/\ps.length < 64/\(∀ a∈ps,H a.1=some (.tup (a.2.map V.int))/\a.2≠[]) /\
  ∀ l qs,H l=none->List.Perm qs ps->qs.Pairwise (λa b=>lx b.2 a.2=false)->Q (.ref l) (upd H l (.lst (qs.map λa=>V.ref a.1)))):=by
 intro pins s σ H xs us Q I r h
 obtain ⟨p,ps,rfl,hq,h64,hrow,q⟩:=h
 obtain ⟨u,rfl,rx⟩:=vals1 r
 cases rx
 obtain ⟨its,r',pl,hz⟩:=I.list hq
 have ei:=vals_refs r'
 subst ei
 have hlen:(ps.map λa=>Value.ref a.1).length=ps.length:=by simp
 by_cases h2:ps.length < 2
 ·refine sorted_short pl.isList (by omega) ?_
  have sz:((s.heap.push (seqObj "list" #[] 0)).update s.heap.objs.size (Obj.mapSeq (·++(ps.map λa=>Value.ref a.1).toArray))).objs.size=s.heap.objs.size + 1:=by rw [Heap.size_update,size_push']
  have kp:∀ b o,s.heap.get? b=some o->(sortedAll s.heap (ps.map λa=>Value.ref a.1) (ps.map λa=>Value.ref a.1).toArray).get? b=some o:=λb o e=>by
   have lb:b < s.heap.objs.size:=Heap.lt_size e
   unfold sortedAll sortedHeap
   rw [Heap.get?_update_ne _ _ _ _ (zZ (yd lb))]
   refine Heap.get?_push_of_some _ (Heap.get?_push_of_some _ ?_)
   rw [Heap.get?_update_ne _ _ _ _ (zZ (yd lb))]
   refine Heap.get?_push_of_some _ ?_
   rw [Heap.get?_update_ne _ _ _ _ (zZ lb)]
   exact Heap.get?_push_of_some _ e
  obtain ⟨c,ec⟩:∃ c,(sortedAll s.heap (ps.map λa=>Value.ref a.1) (ps.map λa=>Value.ref a.1).toArray).get? (s.heap.objs.size + 1)=some (seqObj "list" (ps.map λa=>Value.ref a.1).toArray c):=by
   have e0:=Heap.get?_push_size ((s.heap.push (seqObj "list" #[] 0)).update s.heap.objs.size (Obj.mapSeq (·++(ps.map λa=>Value.ref a.1).toArray))) (o:=seqObj "list" (ps.map λa=>Value.ref a.1).toArray 0) rfl
   rw [sz] at e0
   unfold sortedAll sortedHeap
   have e1:=get?_update_seq e0 (λ_=>(#[]:Array Value))
   exact ⟨_,get?_update_seq (Heap.get?_push_of_some _ (Heap.get?_push_of_some _ e1)) _⟩
  refine ⟨.ref (s.heap.objs.size + 1),_,I.laid (t':=s.toks) kp (Nat.le_succ _) (show ObjOk X.prog X.w _ _ _ (.lst (ps.map λa=>V.ref a.1)) from ⟨hz,_,c,r',ec⟩),rfl,q _ ps (I.hok.fresh (Nat.le_succ _)) (List.Perm.refl _) ?_⟩
  match ps,h2 with
  | [],_=>exact .nil
  | [_],_=>exact List.pairwise_singleton _ _
 ·obtain ⟨m,F⟩:=I.fr
  refine kat_sorted F (news_all (g:=X.base) (h:=s.heap)) pl.isList (by omega) (by omega) λD e1 h' F' N' lt=>?_
  have keep:∀ b o,b≠X.env.locals->s.heap.get? b=some o->h'.get? b=some o:=λb o hb e=>by
   cases q:X.base.get? b with
   | some u=>
    have:=I.bk b u q
    rw [e] at this;cases this
    exact F'.keep b _ q
   | none=>exact (N' (b,o) (.tail _ (mem_allNews hb q e))).1
  have rowAt:∀ a∈ps,RowAt h' a.1 a.2/\a.2≠[]:=λa ha=>by
   obtain ⟨ht,hn⟩:=hrow a ha
   obtain ⟨_,its,rv,o,e,c,n,d⟩:=I.hok a.1 _ ht
   refine ⟨⟨o,_,n,keep a.1 o (λz=>?_) e,c,d,rv⟩,hn⟩
   rw [z,I.free] at ht;cases ht
  obtain ⟨fs,kt,lf,hf⟩:=kat_tups rowAt
  refine kat_kind (T:=.type "int") kt (by omega) (λv hv=>?_) (by decide) ?_
  ·obtain ⟨i,t,rfl⟩:=hf v hv
   exact Looks.now
  have n1:1<=(ps.map λa=>Value.ref a.1).length:=by omega
  refine KOK.wp (c:=cf λi=>rk (ps.map (·.2)) ((ps.map (·.2)).getD i [])) (λi j C hi hj hC=>?_) (λpp hp=>?_) _ (sort_ok (f:=λi=>rk (ps.map (·.2)) ((ps.map (·.2)).getD i [])) n1)
  ·have hi':i < ps.length:=by omega
   have hj':j < ps.length:=by omega
   obtain ⟨⟨o,items,n,ho,hc,hd,hv⟩,hn⟩:=rowAt ps[i] (zj hi')
   obtain ⟨⟨o',items',n',ho',hc',hd',hv'⟩,hn'⟩:=rowAt ps[j] (zj hj')
   unfold kas_ask
   have ei:(ps.map λa=>Value.ref a.1).getD i Value.none=.ref ps[i].1:=by simp [hi']
   have ej:(ps.map λa=>Value.ref a.1).getD j Value.none=.ref ps[j].1:=by simp [hj']
   rw [ei,ej]
   refine kat_lt ho hd ho' hd' (vals_lex hv hv' (by simp) ?_)
   have e:cf (λi=>rk (ps.map (·.2)) ((ps.map (·.2)).getD i [])) i j=lx ps[i].2 ps[j].2:=by
    unfold cf
    have e1:(ps.map (·.2)).getD i []=ps[i].2:=by simp [hi']
    have e2:(ps.map (·.2)).getD j []=ps[j].2:=by simp [hj']
    simp only [e1,e2]
    exact rk_lt (zS.mpr ⟨ps[i],zj hi',rfl⟩)
   rw [e] at hC
   exact hC
  ·obtain ⟨pm,up⟩:=hp
   refine KasFin.intro F' N' (UpdF.head λx hx=>zZ (lt x hx)) λh2' c F2 N2=>?_
   have pl:pp.toList.Perm (List.range ps.length):=by
    have:=pm.toList
    rw [hlen] at this
    simpa using this
   have eo:(pp.toList.map λi=>(ps.map λa=>Value.ref a.1).getD i Value.none)=(pp.toList.map λi=>ps.getD i (0,[])).map λa=>Value.ref a.1:=by
    rw [zd]
    refine yg λi hi=>?_
    have hi':i < ps.length:=zv.mp (pl.mem_iff.mp hi)
    simp [hi']
   have perm:(pp.toList.map λi=>ps.getD i (0,[])).Perm ps:=by
    have:=pl.map λi=>ps.getD i (0,[])
    rwa [range_map] at this
   rw [eo] at N2
   have hzz:((pp.toList.map λi=>ps.getD i (0,[])).map λa=>V.ref a.1).length<=sizeLine:=by
    rw [zA,perm.length_eq,sizeLine_eq];omega
   obtain ⟨I2,hD⟩:=I.sortedTo F F2 N2 lt (vals_of_refs _) hzz
   refine ⟨.ref D,_,I2,rfl,q D _ hD perm ?_⟩
   rw [List.pairwise_iff_getElem]
   intro i j hi hj hij
   simp only [zA,Array.length_toList] at hi hj
   simp only [List.getElem_map,Array.getElem_toList]
   have hn:pp.size=ps.length:=by rw [pm.size];exact hlen
   have key:=up i j (yb hij) (by omega)
   have a1:pp[i] < ps.length:=zv.mp (pl.mem_iff.mp (by simp))
   have a2:pp[j] < ps.length:=zv.mp (pl.mem_iff.mp (by simp))
   unfold g at'  at key
   simp only [hi,hj,getElem?_pos,Option.getD_some] at key
   have e1:(ps.map (·.2)).getD pp[i] []=ps[pp[i]].2:=by simp [a1]
   have e2:(ps.map (·.2)).getD pp[j] []=ps[pp[j]].2:=by simp [a2]
   rw [e1,e2] at key
   have e3:ps.getD pp[i] (0,[])=ps[pp[i]]:=by simp [a1]
   have e4:ps.getD pp[j] (0,[])=ps[pp[j]]:=by simp [a2]
   rw [e3,e4]
   have:=rk_lt (rs:=ps.map (·.2)) (a:=ps[pp[j]].2) (b:=ps[pp[i]].2) (zS.mpr ⟨_,zj a2,rfl⟩)
   rw [<-this]
   simp only [decide_eq_false_iff_not]
   omega
end
end L2
namespace L2
open PySem PySem.Spec PyProof.Rows
def notStar:Expr->Bool
 | .Starred _ _=>false
 | _=>true
theorem star_cons {e:Expr}{es:List Expr}{env:Env} (h:notStar e=true):starEach (e::es) env=(false,eval e env)::starEach es env:=by
 cases e <;> first | rfl | cases h
@[irreducible] def PA2 (X:Cx) (es:List Expr) (t:TA):Prop:=PA X es t
theorem yw {X:Cx}{es:List Expr}{t:TA} (h:PA2 X es t):PA X es t:=by unfold PA2 at h;exact h
theorem pa_in {X:Cx}{es:List Expr}{t:TA} (h:PA X es t):PA2 X es t:=by unfold PA2;exact h
theorem xE {X:Cx}:PA2 X [] tNil:=pa_in wP
theorem yx {X:Cx}{e:Expr}{es:List Expr}{te:TE}{t:TA} (ha:PE X e te) (hr:PA2 X es t) (hn:notStar e=true):PA2 X (e::es) (tCons te t):=pa_in (pa_cons ha (yw hr) (star_cons hn))
@[irreducible] def PSs2 (X:Cx) (es:List Stmt) (t:TS):Prop:=PSs X es t
theorem xI {X:Cx}{es:List Stmt}{t:TS} (h:PSs2 X es t):PSs X es t:=by unfold PSs2 at h;exact h
theorem bl_in {X:Cx}{es:List Stmt}{t:TS} (h:PSs X es t):PSs2 X es t:=by unfold PSs2;exact h
theorem xT {X:Cx}{a:Stmt}{t:TS} (h:PS X a t):PSs2 X [a] t:=bl_in (pss_one h)
theorem xO {X:Cx}{a b:Stmt}{rest:List Stmt}{t u:TS} (h:PS X a t) (hr:PSs2 X (b::rest) u):PSs2 X (a::b::rest) (tSeq t u):=bl_in (pss_cons h (xI hr))
end L2
namespace L2
open PySem PySem.Spec PyProof.Rows
section
variable {K:PySem.W.Frag}{a:Addr}{xs:List V}{n:Nat}{caps:List Nat}{g:TG}{tc:TT}{te:TE}{σ:St}{H:Hp}{Qf:Addr->Hp->List V->Prop}
theorem comp_of {J:It} (Pv:Nat->St->List V->Hp->Prop) (len:Nat) (h0:Pv 0 (tau0 n caps σ) [] H) (hn:len<=1000) (hl:∀ i τ acc H,Pv i τ acc H->acc.length<=i)
  (hgo:∀ i τ acc H,i < len->Pv i τ acc H->J.go i H) (hstop:∀ τ acc H,Pv len τ acc H->J.stop len H)
  (hs:∀ i τ acc H (C:St->List V->Hp->Prop),i < len->Pv i τ acc H->(∀ τ acc H,Pv (i + 1) τ acc H->C τ acc H)->∀ x H',J.yld i H x H'->g x τ H' fun τ2 H2=>tc τ2 H2 λb H3=>if b=true then te τ2 H3 λy H4=>C τ2 (acc++[y]) H4 else C τ2 acc H3)
  (hd:∀ τ acc H,Pv len τ acc H->∀ p,H p=none->Qf p H acc) :
  ∃ W:Nat->Nat->St->List V->Hp->Prop,(∃ m,W 0 m (tau0 n caps σ) [] H)/\∀ i m τ acc H,W i m τ acc H ->
   (J.stop i H/\acc.length<=sizeLine/\∀ p,H p=none->Qf p H acc) \/
   (J.go i H/\acc.length < sizeLine/\∀ x H',J.yld i H x H'->g x τ H' fun τ2 H2=>tc τ2 H2 λb H3=>if b=true then te τ2 H3 λy H4=>∃ m',m' < m/\W (i + 1) m' τ2 (acc++[y]) H4 else ∃ m',m' < m/\W (i + 1) m' τ2 acc H3):=by
 have line:1001<=sizeLine:=by rw [sizeLine_eq];decide
 refine ⟨λi m τ acc H=>m=len - i/\i<=len/\Pv i τ acc H,⟨len,by simp,zg _,h0⟩,?_⟩
 rintro i m τ acc H ⟨rfl,hi,p⟩
 have q:=hl i τ acc H p
 by_cases hlt:i < len
 ·exact .inr ⟨hgo i τ acc H hlt p,by omega,λx H' y=>hs i τ acc H (fun τ acc H=>∃ m',m' < len - i/\m'=len - (i + 1)/\i + 1<=len/\Pv (i + 1) τ acc H) hlt p (fun τ acc H p'=>⟨len - (i + 1),by omega,rfl,hlt,p'⟩) x H' y⟩
 ·have e:i=len:=by omega
  subst e
  exact .inl ⟨hstop τ acc H p,by omega,hd τ acc H p⟩
theorem comp_tup (Pv:Nat->St->List V->Hp->Prop) (h0:Pv 0 (tau0 n caps σ) [] H) (hn:xs.length<=1000) (hl:∀ i τ acc H,Pv i τ acc H->acc.length<=i/\SqT K H a xs)
  (hs:∀ i x τ acc H (C:St->List V->Hp->Prop),xs[i]?=some x->Pv i τ acc H->(∀ τ acc H,Pv (i + 1) τ acc H->C τ acc H)->g x τ H fun τ2 H2=>tc τ2 H2 λb H3=>if b=true then te τ2 H3 λy H4=>C τ2 (acc++[y]) H4 else C τ2 acc H3)
  (hd:∀ τ acc H,Pv xs.length τ acc H->∀ p,H p=none->Qf p H acc) :
  ∃ W:Nat->Nat->St->List V->Hp->Prop,(∃ m,W 0 m (tau0 n caps σ) [] H)/\∀ i m τ acc H,W i m τ acc H ->
   ((Itt K a).stop i H/\acc.length<=sizeLine/\∀ p,H p=none->Qf p H acc) \/
   ((Itt K a).go i H/\acc.length < sizeLine/\∀ x H',(Itt K a).yld i H x H'->g x τ H' fun τ2 H2=>tc τ2 H2 λb H3=>if b=true then te τ2 H3 λy H4=>∃ m',m' < m/\W (i + 1) m' τ2 (acc++[y]) H4 else ∃ m',m' < m/\W (i + 1) m' τ2 acc H3):=
 comp_of (J:=Itt K a) Pv xs.length h0 hn (λi τ acc H p=>(hl i τ acc H p).1) (λi τ acc H hi p=>⟨xs,xs[i],(hl i τ acc H p).2,by simp [hi]⟩) (fun τ acc H p=>⟨xs,(hl _ τ acc H p).2,zF _⟩)
  (λi τ acc H C hi p c x H' y=>by obtain ⟨e,y⟩:=y;subst e;exact hs i x τ acc _ C (y xs (hl i τ acc _ p).2) p c) hd
theorem xj (Pv:Nat->St->List V->Hp->Prop) (h0:Pv 0 (tau0 n caps σ) [] H) (hn:xs.length<=1000) (hl:∀ i τ acc H,Pv i τ acc H->acc.length<=i/\SqL K H a xs)
  (hs:∀ i x τ acc H (C:St->List V->Hp->Prop),xs[i]?=some x->Pv i τ acc H->(∀ τ acc H,Pv (i + 1) τ acc H->C τ acc H)->g x τ H fun τ2 H2=>tc τ2 H2 λb H3=>if b=true then te τ2 H3 λy H4=>C τ2 (acc++[y]) H4 else C τ2 acc H3)
  (hd:∀ τ acc H,Pv xs.length τ acc H->∀ p,H p=none->Qf p H acc) :
  ∃ W:Nat->Nat->St->List V->Hp->Prop,(∃ m,W 0 m (tau0 n caps σ) [] H)/\∀ i m τ acc H,W i m τ acc H ->
   ((Itl K a).stop i H/\acc.length<=sizeLine/\∀ p,H p=none->Qf p H acc) \/
   ((Itl K a).go i H/\acc.length < sizeLine/\∀ x H',(Itl K a).yld i H x H'->g x τ H' fun τ2 H2=>tc τ2 H2 λb H3=>if b=true then te τ2 H3 λy H4=>∃ m',m' < m/\W (i + 1) m' τ2 (acc++[y]) H4 else ∃ m',m' < m/\W (i + 1) m' τ2 acc H3):=
 comp_of (J:=Itl K a) Pv xs.length h0 hn (λi τ acc H p=>(hl i τ acc H p).1) (λi τ acc H hi p=>⟨xs,xs[i],(hl i τ acc H p).2,by simp [hi]⟩) (fun τ acc H p=>⟨xs,(hl _ τ acc H p).2,zF _⟩)
  (λi τ acc H C hi p c x H' y=>by obtain ⟨e,y⟩:=y;subst e;exact hs i x τ acc _ C (y xs (hl i τ acc _ p).2) p c) hd
end
end L2
namespace Sm
open PySem L2 SmSort
def But (p:Addr) (H H':Hp):Prop:=∀ b u,b≠p->H b=some u->H' b=some u
theorem But.refl (p:Addr) (H:Hp):But p H H:=λ_ _ _ h=>h
theorem But.trans {p:Addr} {H H1 H2:Hp} (a:But p H H1) (b:But p H1 H2):But p H H2:=λc u n h=>b c u n (a c u n h)
theorem But.set {p:Addr}{H:Hp}{o:HO}:But p H (upd H p o):=λb u n h=>by rw [xG n];exact h
theorem But.new {p l:Addr}{H:Hp}{o:HO} (h:H l=none):But p H (upd H l o):=λb u n e=>by rw [xG (xA e h)];exact e
def Purse (H:Hp) (p:Addr):Prop:=∃ a b c:Int,H p=some (.lst [.int a,.int b,.int c])
def Go (p:Addr) (H H':Hp):Prop:=But p H H'/\Purse H' p
theorem Go.trans {p:Addr} {H H1 H2:Hp} (a:Go p H H1) (b:Go p H1 H2):Go p H H2:=⟨a.1.trans b.1,b.2⟩
theorem Go.refl {p:Addr}{H:Hp} (a:Purse H p):Go p H H:=⟨But.refl p H,a⟩
theorem Purse.new {p l:Addr}{H:Hp}{o:HO} (a:Purse H p) (h:H l=none):Purse (upd H l o) p:=by
 obtain ⟨x,y,z,e⟩:=a
 exact ⟨x,y,z,by rw [xG (xA e h)];exact e⟩
theorem Purse.ne {p l:Addr}{H:Hp} (a:Purse H p) (h:H l=none):l≠p:=by
 obtain ⟨x,y,z,e⟩:=a
 exact (xA e h).symm
theorem Go.new {p l:Addr} {H H1:Hp}{o:HO} (a:Go p H H1) (h:H1 l=none):Go p H (upd H1 l o):=⟨a.1.trans (But.new h),a.2.new h⟩
theorem Purse.tup {p t:Addr}{H:Hp}{xs:List V} (a:Purse H p) (h:H t=some (.tup xs)):t≠p:=by
 obtain ⟨x,y,z,e⟩:=a
 exact ne_of h e (by intro z;cases z)
def Tups (H H':Hp):Prop:=∀ b xs,H b=some (.tup xs)->H' b=some (.tup xs)
theorem Tups.refl (H:Hp):Tups H H:=λ_ _ h=>h
theorem Tups.trans {H H1 H2:Hp} (a:Tups H H1) (b:Tups H1 H2):Tups H H2:=λc u h=>b c u (a c u h)
theorem Go.tups {p:Addr}{H H':Hp} (a:Go p H H') (h:Purse H p):Tups H H':=λb xs e=>a.1 b _ (h.tup e) e
theorem Tups.new {l:Addr}{H:Hp}{o:HO} (h:H l=none):Tups H (upd H l o):=λb u e=>by rw [xG (xA e h)];exact e
theorem Tups.set {l:Addr}{H:Hp}{xs:List V}{o:HO} (h:H l=some (.lst xs)):Tups H (upd H l o):=λb u e=>by rw [xG (ne_of e h (by intro z;cases z))];exact e
theorem Tups.same {H H':Hp} (h:Same H H'):Tups H H':=λb u e=>h b _ e
structure M4 where
 lo:Int
 hi:Int
 t:Int
 m:Int
def M4.vs (r:M4):List V:=[.int r.lo,.int r.hi,.int r.t,.int r.m]
def apart (a b:M4):Prop:=a.lo≠b.lo/\a.lo≠b.hi/\a.hi≠b.lo/\a.hi≠b.hi
structure Good (w:Int) (ms:List M4):Prop where
 few:ms.length<=60
 each:∀ r∈ms,0<=r.lo/\r.lo < r.hi/\r.hi < w/\1<=r.t/\r.t<=1000000000/\1<=r.m/\r.m<=99
 order:ms.Pairwise λa b=>a.t < b.t\/(a.t=b.t/\a.lo < b.lo/\apart a b)
def RowsAt (H:Hp) (ps:List (Addr×M4)):Prop:=∀ a∈ps,H a.1=some (.tup a.2.vs)
structure BookAt (H:Hp) (b:Addr) (rooms:List Int) (tr tm:Addr) (ps:List (Addr×M4)):Prop where
 book:H b=some (.tup [.ref tr,.ref tm])
 rooms:H tr=some (.tup (rooms.map V.int))
 meets:H tm=some (.tup (ps.map λa=>V.ref a.1))
 rows:RowsAt H ps
theorem RowsAt.tups {H H':Hp}{ps:List (Addr×M4)} (a:RowsAt H ps) (t:Tups H H'):RowsAt H' ps:=λx hx=>t _ _ (a x hx)
theorem BookAt.tups {H H':Hp}{b tr tm:Addr}{rooms:List Int}{ps:List (Addr×M4)} (a:BookAt H b rooms tr tm ps) (t:Tups H H'):BookAt H' b rooms tr tm ps:=
 ⟨t _ _ a.book,t _ _ a.rooms,t _ _ a.meets,a.rows.tups t⟩
def spLaw (K:PySem.W.Frag):Sp:=λvs H Q _=>∃ (a:Addr) (ns:List Int),vs=[.ref a]/\SqL K H a (ns.map V.int)/\ns.length<=63/\∀ H',Q (.bl true) H'
def spPurse (K:PySem.W.Frag):Sp:=λvs H Q _=>∃ (a:Addr) (ns:List Int) (k:Nat),vs=[.ref a,.int k]/\SqL K H a (ns.map V.int)/\k < 1000/\∀ p H',H p=none->Purse H' p->Same H H'->Q (.ref p) H'
def spTake:Sp:=λvs H Q _=>∃ p n,vs=[.ref p,.int n]/\0 < n/\n < 2 ^ 200/\Purse H p/\∀ d H',0<=d->d < n->Go p H H'->Q (.int d) H'
def spFar:Sp:=λvs H Q _=>∃ p,vs=[.ref p]/\Purse H p/\∀ d H',0<=d->d<=1000000000->Go p H H'->Q (.int d) H'
def spRooms:Sp:=λvs H Q _=>∃ p,∃ n:Nat,vs=[.ref p,.int n]/\n<=1000/\Purse H p/\∀ (t:Addr) (rooms:List Int) (H':Hp),Go p H H'->H' t=some (.tup (rooms.map V.int))->rooms.length=n->(∀ r∈rooms,(0:Int)<=r/\r<=99)->Q (.ref t) H'
def spStep:Sp:=λvs H Q _=>∃ p,vs=[.ref p]/\Purse H p/\∀ d H',0<=d->d<=16000000->Go p H H'->Q (.int d) H'
def spMeetings:Sp:=λvs H Q _=>∃ p,∃ w:Int,∃ n:Nat,vs=[.ref p,.int w,.int n]/\n<=60/\w < 1000/\(n=0\/2<=w)/\Purse H p /\
 ∀ (t:Addr) (ps:List (Addr×M4)) (H':Hp),Go p H H'->H' t=some (.tup (ps.map λa=>V.ref a.1))->RowsAt H' ps->Good w (ps.map (·.2))->ps.length=n->Q (.ref t) H'
def spBook:Sp:=λvs H Q _=>∃ p,∃ a:Int,∃ n:Nat,vs=[.ref p,.int a,.int n]/\1<=a/\a<=100/\n<=60/\Purse H p /\
 ∀ (b:Addr) (rooms:List Int) (tr tm:Addr) (ps:List (Addr×M4)) (H':Hp),Go p H H'->BookAt H' b rooms tr tm ps->1<=rooms.length->(rooms.length:Int)<=a->(∀ r∈rooms,(0:Int)<=r/\r<=99)->Good rooms.length (ps.map (·.2))->ps.length<=n->Q (.ref b) H'
theorem iteD {c A B:Prop} [Decidable c] (h1:c->A) (h2:¬ c->B):if decide c=true then A else B:=by
 by_cases h:c
 ·rw [if_pos (decide_eq_true h)];exact h1 h
 ·rw [if_neg (by simpa using h)];exact h2 h
theorem iteB0 {c:Bool}{A B:Prop} (hc:c=false) (h:B):if c=true then A else B:=by
 rw [if_neg (by rw [hc];exact zL)];exact h
theorem iteB1 {c:Bool}{A B:Prop} (hc:c=true) (h:A):if c=true then A else B:=by
 rw [if_pos hc];exact h
theorem iteB {c:Bool}{A B:Prop} (h1:c=true->A) (h2:c=false->B):if c=true then A else B:=by
 cases c with
 | true=>exact h1 rfl
 | false=>exact h2 rfl
theorem xB {H:Hp}{p:Addr}{o:HO} (h:H p=none):Same H (upd H p o):=λb u e=>by
 rw [xG (xA e h)];exact e
def M4.row (r:M4):List Int:=[r.t,r.lo,r.hi,r.m]
structure FOk (w when':Int) (bs:List Int) (fs:List (Addr×M4)):Prop where
 each:∀ a∈fs,0<=a.2.lo/\a.2.lo < a.2.hi/\a.2.hi < w/\1<=a.2.t/\a.2.t<=when'/\1<=a.2.m/\a.2.m<=99
 pw:fs.Pairwise λa b=>a.2.t=b.2.t->apart a.2 b.2
 bz:∀ a∈fs,a.2.t=when'->a.2.lo∈bs/\a.2.hi∈bs
theorem FOk.step {w wh gap one other m:Int}{bs bs':List Int}{fs:List (Addr×M4)}{a:Addr} (F:FOk w wh bs fs) (h1:1<=wh) (g0:0<=gap) (o0:0<=one) (o1:one < w) (p0:0<=other) (p1:other < w) (ne:one≠other)
  (m0:1<=m) (m1:m<=99) (hg:gap=0->one ∉ bs/\other ∉ bs) (hb:∀ x∈bs,gap=0->x∈bs') (hb1:one∈bs') (hb2:other∈bs') :
  FOk w (wh + gap) bs' (fs++[(a,⟨if other < one then other else one,if other > one then other else one,wh + gap,m⟩)]):=by
 refine ⟨λb hb=>?_,?_,λb hm e=>?_⟩
 ·rcases zV.mp hb with h | h
  ·obtain ⟨a1,a2,a3,a4,a5,a6,a7⟩:=F.each b h
   exact ⟨a1,a2,a3,a4,by omega,a6,a7⟩
  ·cases zE.mp h
   by_cases c:other < one
   ·rw [if_pos c,if_neg (by omega)];exact ⟨p0,c,o1,by show 1<=wh + gap;omega,zw _,m0,m1⟩
   ·rw [if_neg c,if_pos (by omega)];exact ⟨o0,by show one < other;omega,p1,by show 1<=wh + gap;omega,zw _,m0,m1⟩
 ·rw [List.pairwise_append]
  refine ⟨F.pw,List.pairwise_singleton _ _,λb hb c hc e=>?_⟩
  cases zE.mp hc
  have e':b.2.t=wh + gap:=e
  obtain ⟨a1,a2,a3,a4,a5,a6,a7⟩:=F.each b hb
  have g:gap=0:=by omega
  obtain ⟨x1,x2⟩:=F.bz b hb (by omega)
  obtain ⟨n1,n2⟩:=hg g
  have q1:b.2.lo≠one:=λz=>n1 (z ▸ x1)
  have q2:b.2.lo≠other:=λz=>n2 (z ▸ x1)
  have q3:b.2.hi≠one:=λz=>n1 (z ▸ x2)
  have q4:b.2.hi≠other:=λz=>n2 (z ▸ x2)
  unfold apart
  dsimp only
  by_cases c:other < one
  ·rw [if_pos c,if_neg (by omega)];exact ⟨q2,q1,q4,q3⟩
  ·rw [if_neg c,if_pos (by omega)];exact ⟨q1,q2,q3,q4⟩
 ·rcases zV.mp hm with h | h
  ·obtain ⟨a1,a2,a3,a4,a5,a6,a7⟩:=F.each b h
   obtain ⟨x1,x2⟩:=F.bz b h (by omega)
   exact ⟨hb _ x1 (by omega),hb _ x2 (by omega)⟩
  ·cases zE.mp h
   by_cases c:other < one
   ·rw [if_pos c,if_neg (by omega)];exact ⟨hb2,hb1⟩
   ·rw [if_neg c,if_pos (by omega)];exact ⟨hb1,hb2⟩
def M4.late (l:Int) (r:M4):M4:=⟨r.lo,r.hi,r.t + l,r.m⟩
theorem FOk.good {w wh l:Int}{bs:List Int}{fs qs:List (Addr×M4)} (F:FOk w wh bs fs) (n:fs.length<=60) (l0:0<=l) (l1:fs≠[]->wh + l<=1000000000) (p:qs.Perm fs) (s:qs.Pairwise λa b=>lx b.2.row a.2.row=false) :
  Good w (qs.map λa=>a.2.late l):=by
 refine ⟨by rw [zA,p.length_eq];exact n,λr hr=>?_,?_⟩
 ·obtain ⟨a,ha,rfl⟩:=zS.mp hr
  have hm:=p.mem_iff.mp ha
  obtain ⟨a1,a2,a3,a4,a5,a6,a7⟩:=F.each a hm
  have:=l1 (List.ne_nil_of_mem hm)
  unfold M4.late
  exact ⟨a1,a2,a3,by show 1<=a.2.t + l;omega,by show a.2.t + l<=1000000000;omega,a6,a7⟩
 ·rw [List.pairwise_map]
  have ap:qs.Pairwise λa b=>a.2.t=b.2.t->apart a.2 b.2:=(List.Perm.pairwise_iff (λ{x y} h e=>by
   obtain ⟨a1,a2,a3,a4⟩:=h e.symm
   exact ⟨a1.symm,a3.symm,a2.symm,a4.symm⟩) p).mpr F.pw
  refine (s.and ap).imp λ{a b} ⟨h1,h2⟩=>?_
  unfold M4.late
  dsimp only
  unfold M4.row lx at h1
  by_cases e:a.2.t=b.2.t
  ·have q:=h2 e
   rw [if_pos e.symm] at h1
   unfold lx at h1
   rw [if_neg λz=>q.1 z.symm] at h1
   simp only [decide_eq_false_iff_not] at h1
   refine .inr ⟨by omega,?_,q⟩
   have:=q.1
   omega
  ·rw [if_neg λz=>e z.symm] at h1
   simp only [decide_eq_false_iff_not] at h1
   exact .inl (by omega)
def toM4 (r:List Int):M4:=⟨r.getD 1 0,r.getD 2 0,r.getD 0 0,r.getD 3 0⟩
theorem rows_back {fs:List (Addr×M4)}{qs:List (Addr×List Int)} (p:qs.Perm (fs.map λa=>(a.1,a.2.row))) (s:qs.Pairwise λa b=>lx b.2 a.2=false) :
  ∃ rs:List (Addr×M4),rs.Perm fs/\(rs.Pairwise λa b=>lx b.2.row a.2.row=false)/\qs=rs.map λa=>(a.1,a.2.row):=by
 have e:qs=(qs.map λa=>(a.1,toM4 a.2)).map λa=>(a.1,a.2.row):=by
  rw [zd]
  refine (List.map_id qs).symm.trans (yg λx hx=>?_)
  obtain ⟨a,_,rfl⟩:=zS.mp (p.mem_iff.mp hx)
  rfl
 refine ⟨qs.map λa=>(a.1,toM4 a.2),?_,?_,e⟩
 ·have:=p.map λa=>(a.1,toM4 a.2)
  rw [zd] at this
  refine this.trans (.of_eq ?_)
  refine (yg λx _=>?_).trans (List.map_id fs)
  rfl
 ·rw [e,List.pairwise_map] at s
  exact s
theorem flat_ints (bs:List Int):(bs.map V.int).all flatV=true:=by
 rw [yS]
 intro x hx
 obtain ⟨b,_,rfl⟩:=zS.mp hx
 rfl
theorem inV_ints {x:Int}{bs:List Int}:inV (.int x) (bs.map V.int)=decide (x∈bs):=by
 unfold inV
 induction bs with
 | nil=>rfl
 | cons b bs ih=>
  rw [zz,List.any_cons,ih]
  by_cases h:x=b
  ·subst h;simp [eqV]
  ·have h':¬ b=x:=λz=>h z.symm
   simp [eqV,h,h']
def PvM (p lf:Addr) (w:Int) (n:Nat) (H:Hp) (i:Nat) (σ:St) (H3:Hp):Prop:=
 ∃ v6 v7 v8 v9 v10 wh lb bs,∃ fs:List (Addr×M4),σ=[some (.ref p),some (.int w),some (.int n),some (.ref lf),some (.int wh),some (.ref lb),v6,v7,v8,v9,v10,none] /\
  H3 lf=some (.lst (fs.map λa=>V.ref a.1))/\H3 lb=some (.lst (List.map V.int bs))/\lb≠lf/\lb≠p/\(∀ a∈fs,H3 a.1=some (.tup (a.2.row.map V.int)))/\FOk w wh bs fs/\fs.length=i/\bs.length<=2 * i/\1<=wh/\wh<=10000000 + 16000000 * i/\Go p H H3
theorem PvM.step {p lf lb t:Addr}{w wh gap one other m:Int}{n i:Nat}{H Hx:Hp}{bs bs':List Int}{fs:List (Addr×M4)} {v6 v7 v8 v9 v10:Option V} (npf:lf≠p) (hlf:H lf=none)
  (F:FOk w wh bs fs) (lenf:fs.length=i) (lenb:bs'.length<=2 * i + 2) (wh1:1<=wh) (wh2:wh<=10000000 + 16000000 * i) (hf:Hx lf=some (.lst (fs.map λa=>V.ref a.1))) (hb:Hx lb=some (.lst (List.map V.int bs'))) (nb:lb≠lf) (nbp:lb≠p)
  (rows:∀ a∈fs,Hx a.1=some (.tup (a.2.row.map V.int))) (go:Go p H Hx) (ht:Hx t=none)
  (g0:0<=gap) (g1:gap<=16000000) (o0:0<=one) (o1:one < w) (p0:0<=other) (p1:other < w) (ne:one≠other) (m0:1<=m) (m1:m<=99) (hg:gap=0->one ∉ bs/\other ∉ bs) (hb0:∀ x∈bs,gap=0->x∈bs') (hb1:one∈bs') (hb2:other∈bs') :
  PvM p lf w n H (i + 1) [some (.ref p),some (.int w),some (.int n),some (.ref lf),some (.int (wh + gap)),some (.ref lb),v6,v7,v8,v9,v10,none]
   (upd (upd Hx t (.tup [.int (wh + gap),.int (if other < one then other else one),.int (if other > one then other else one),.int m])) lf (.lst ((fs.map λa=>V.ref a.1)++[.ref t]))):=by
 have ntf:t≠lf:=(xA hf ht).symm
 refine ⟨v6,v7,v8,v9,v10,wh + gap,lb,bs',fs++[(t,⟨if other < one then other else one,if other > one then other else one,wh + gap,m⟩)],rfl,by rw [yy,zB];rfl,?_,nb,nbp,λa ha=>?_,F.step wh1 g0 o0 o1 p0 p1 ne m0 m1 hg hb0 hb1 hb2,by rw [zT,lenf];rfl,by omega,by omega,by omega,λb u nb e=>?_,?_⟩
 ·rw [xG nb,xG (xA hb ht)];exact hb
 ·rcases zV.mp ha with h | h
  ·have:=rows a h
   rw [xG (ne_of this hf (by intro z;cases z)),xG (xA this ht)];exact this
  ·cases zE.mp h
   rw [xG ntf,yy];rfl
 ·rw [xG (xA e hlf),xG (xA (go.1 b u nb e) ht)];exact go.1 b u nb e
 ·have:=go.2.new (o:=.tup [.int (wh + gap),.int (if other < one then other else one),.int (if other > one then other else one),.int m]) ht
  obtain ⟨x,y,z,e⟩:=this
  exact ⟨x,y,z,by rw [xG npf.symm];exact e⟩
theorem oth_ok {one x w:Int} (o0:0<=one) (o1:one < w) (x0:0<=x) (x1:x < w - 1):0<=(one + 1 + x) % w/\(one + 1 + x) % w < w/\one≠(one + 1 + x) % w:=by
 refine ⟨yk _ (by omega),yY _ (by omega),?_⟩
 by_cases h:one + 1 + x < w
 ·rw [Int.emod_eq_of_lt (by omega) h];omega
 ·have e:(one + 1 + x) % w=(one + 1 + x - w) % w:=by
   have:one + 1 + x=(one + 1 + x - w) + w:=by omega
   rw [this,Int.add_emod_right];congr 1;omega
  rw [e,Int.emod_eq_of_lt (by omega) (by omega)];omega
theorem Go.same {p:Addr} {H H1 H2:Hp} (a:Go p H H1) (s:Same H1 H2):Go p H H2:=⟨λb u n e=>s b u (a.1 b u n e),by obtain ⟨x,y,z,e⟩:=a.2;exact ⟨x,y,z,s _ _ e⟩⟩
theorem xU {α:Type}{f:α->V}{l:List α}{i:Nat}{x:V} (h:(l.map f)[i]?=some x):∃ r,l[i]?=some r/\x=f r:=by
 rw [zG] at h
 cases e:l[i]? with
 | none=>rw [e] at h;cases h
 | some r=>rw [e] at h;exact ⟨r,rfl,(Option.some.inj h).symm⟩
theorem xY {α:Type}{l:List α}{i:Nat}{r:α} (h:l[i]?=some r):l.take (i + 1)=l.take i++[r]:=by
 rw [List.take_add_one,h];rfl
theorem SqL.but {K:PySem.W.Frag}{p a:Addr}{H H':Hp}{xs:List V} (h:SqL K H a xs) (hp:H p=none) (s:But p H H'):SqL K H' a xs:=by
 rcases h with (h | ⟨o,h⟩) | h
 ·exact .inl (.inl (s _ _ (xA h hp) h))
 ·exact .inl (.inr ⟨o,s _ _ (xA h hp) h⟩)
 ·exact .inr h
theorem Same.put {l:Addr}{H H':Hp}{o:HO} (h:H l=none) (s:Same H H'):Same H (upd H' l o):=λb u e=>by rw [xG (xA e h)];exact s b u e
theorem BookAt.same {H H':Hp}{b tr tm:Addr}{rooms:List Int}{ps:List (Addr×M4)} (a:BookAt H b rooms tr tm ps) (t:Same H H'):BookAt H' b rooms tr tm ps:=a.tups (Tups.same t)
theorem tyS_lst {H:Hp}{l:Addr}{xs:List V} (h:H l=some (.lst xs)):tyS H (.ref l)=some "list" := by simp only [tyS,h]
def spWhole:Sp:=λvs H Q _=>∃ x t,vs=[x]/\tyS H x=some t/\Q (.bl (t == "int")) H
def inB (lo hi:Int):V->Bool
 | .int i=>decide (lo<=i) && decide (i<=hi)
 | _=>false
def spWithin:Sp:=λvs H Q _=>∃ x t lo hi,vs=[x,.int lo,.int hi]/\tyS H x=some t/\Q (.bl (inB lo hi x)) H
theorem tyS_int {H:Hp}{x:V} (h:tyS H x=some "int"):∃ i,x=.int i:=by
 cases x with
 | int i=>exact ⟨i,rfl⟩
 | ref a=>
  unfold tyS at h
  dsimp only at h
  split at h <;> simp at h
 | _=>simp [tyS] at h
theorem inB_no {H:Hp}{x:V}{t:String}{lo hi:Int} (h:tyS H x=some t) (n:¬ t = "int"):inB lo hi x=false:=by
 cases x with
 | int i=>simp [tyS] at h;exact absurd h.symm n
 | _=>rfl
def hasW (w:Int) (r:M4):Bool:=decide (r.lo=w) || decide (r.hi=w)
def numsTo (ms:List M4) (w:Int):Nat->List Int
 | 0=>[]
 | i + 1=>numsTo ms w i++(if (ms[i]?).any (hasW w)=true then [(i:Int)] else [])
end Sm
namespace Sm
open PySem L2 SmSort
def spTimeOf:Sp:=λvs H Q _=>∃ p b j rooms tr tm ps,vs=[.ref p,.ref b,.int j]/\(j=0\/j=1)/\BookAt H b rooms tr tm ps/\Good rooms.length (ps.map (·.2))/\Purse H p/\∀ d H',0<=d->d<=1000000000->Go p H H'->Q (.int d) H'
theorem Good.len {w:Int}{ps:List (Addr×M4)} (g:Good w (ps.map (·.2))):ps.length<=60:=by simpa using g.few
theorem Good.at {w:Int}{ps:List (Addr×M4)} (g:Good w (ps.map (·.2))) {r:Addr×M4} (h:r∈ps):0<=r.2.lo/\r.2.lo < r.2.hi/\r.2.hi < w/\1<=r.2.t/\r.2.t<=1000000000/\1<=r.2.m/\r.2.m<=99:=g.each _ (zS.mpr ⟨r,h,rfl⟩)
end Sm
namespace L2
open PySem PySem.Spec PyProof.Rows
end L2
namespace SmSet
open PySem
theorem below_go {xs:Array Nat}{j:Nat} (so:xs.toList.Pairwise (· < ·)):∀ (fuel lo hi:Nat),hi - lo<=fuel->lo<=hi->hi<=xs.size->(∀ i (h:i < xs.size),i < lo->xs[i] < j)->(∀ i (h:i < xs.size),hi<=i->j<=xs[i]) ->
  SetTable.below.go xs j fuel lo hi<=xs.size/\(∀ i (h:i < xs.size),i < SetTable.below.go xs j fuel lo hi->xs[i] < j)/\∀ i (h:i < xs.size),SetTable.below.go xs j fuel lo hi<=i->j<=xs[i]
 | 0,lo,hi,hf,h1,h2,hl,hh=>by
  have:lo=hi:=by omega
  subst this
  unfold SetTable.below.go
  exact ⟨h2,hl,hh⟩
 | fuel + 1,lo,hi,hf,h1,h2,hl,hh=>by
  unfold SetTable.below.go
  have mono:∀ a b (ha:a < xs.size) (hb:b < xs.size),a < b->xs[a] < xs[b]:=λa b ha hb ab=>by
   have:=List.pairwise_iff_getElem.mp so a b (by simpa using ha) (by simpa using hb) ab
   simpa using this
  by_cases c:lo < hi
  ·rw [if_pos c]
   dsimp only
   have hm:(lo + hi) / 2 < xs.size:=by omega
   have e:xs.getD ((lo + hi) / 2) j=xs[(lo + hi) / 2]:=by simp [Array.getD,hm]
   rw [e]
   by_cases d:xs[(lo + hi) / 2] < j
   ·rw [if_pos d]
    refine below_go so fuel _ _ (by omega) (by omega) h2 (λi h hi'=>?_) hh
    by_cases q:i=(lo + hi) / 2
    ·subst q;exact d
    ·exact Nat.lt_trans (mono i ((lo + hi) / 2) h hm (by omega)) d
   ·rw [if_neg d]
    refine below_go so fuel _ _ (by omega) (by omega) (by omega) hl (λi h hi'=>?_)
    by_cases q:i=(lo + hi) / 2
    ·subst q;omega
    ·have:=mono ((lo + hi) / 2) i hm h (by omega)
     omega
  ·rw [if_neg c]
   have:lo=hi:=by omega
   subst this
   exact ⟨h2,hl,hh⟩
theorem below_spec {xs:Array Nat}{j:Nat} (so:xs.toList.Pairwise (· < ·)):SetTable.below xs j<=xs.size/\(∀ i (h:i < xs.size),i < SetTable.below xs j->xs[i] < j)/\∀ i (h:i < xs.size),SetTable.below xs j<=i->j<=xs[i]:=
 below_go so _ _ _ (by omega) (by omega) (zF _) (λ_ _ h=>absurd h (yG _)) (λi h hi=>absurd h (by omega))
theorem below_at {xs:Array Nat}{j i:Nat} (so:xs.toList.Pairwise (· < ·)) (h:xs[i]?=some j):SetTable.below xs j=i:=by
 obtain ⟨hi,e⟩:=Array.getElem?_eq_some_iff.mp h
 obtain ⟨b1,b2,b3⟩:=below_spec (j:=j) so
 rcases Nat.lt_trichotomy (SetTable.below xs j) i with c | c | c
 ·have hb:SetTable.below xs j < xs.size:=by omega
  have:=b3 _ hb (zF _)
  have m:=List.pairwise_iff_getElem.mp so (SetTable.below xs j) i (by simpa using hb) (by simpa using hi) c
  simp only [Array.getElem_toList] at m
  omega
 ·exact c
 ·have:=b2 i hi c
  omega
theorem slot_live {t:SetTable}{j i:Nat} (so:t.place.toList.Pairwise (· < ·)) (h:t.place[i]?=some j):t.slot j=.live i:=by
 unfold SetTable.slot
 dsimp only
 rw [below_at so h,h]
 simp
theorem slot_empty {t:SetTable}{j:Nat} (nd:t.dummies=#[]) (h:j ∉ t.place.toList):t.slot j=.empty:=by
 unfold SetTable.slot
 dsimp only
 rw [if_neg,if_neg]
 ·rw [nd]
  unfold SetTable.has
  simp
 ·intro c
  have:t.place[SetTable.below t.place j]?=some j:=by simpa using c
  exact h (by simpa using Array.mem_of_getElem? this)
def adv (m:Nat) (p:SetTable.Probe):SetTable.Probe:=
 if p.more > 0 then { p with j:=p.j + 1,more:=p.more - 1 } else
 { p with j:=(SetTable.leap m p.i p.perturb).1,more:=SetTable.runEnd m (SetTable.leap m p.i p.perturb).1 - (SetTable.leap m p.i p.perturb).1,i:=(SetTable.leap m p.i p.perturb).1,perturb:=(SetTable.leap m p.i p.perturb).2 }
theorem advance_eq (t:SetTable) (p:SetTable.Probe):t.advance p=adv t.mask p:=rfl
def run (m i u:Nat):SetTable.Probe:={ j:=i,more:=SetTable.runEnd m i - i,i,perturb:=u,dummy:=none }
def start (m:Nat) (h:Int):SetTable.Probe:=run m (SetTable.bits h % (m + 1)) (SetTable.bits h)
def ad (m:Nat):Nat->SetTable.Probe->SetTable.Probe
 | 0,p=>p
 | n + 1,p=>ad m n (adv m p)
theorem ad_succ (m n:Nat) (p:SetTable.Probe):ad m (n + 1) p=adv m (ad m n p):=by
 induction n generalizing p with
 | zero=>rfl
 | succ n ih=>exact ih (adv m p)
theorem ad_add (m a b:Nat) (p:SetTable.Probe):ad m (a + b) p=ad m b (ad m a p):=by
 induction a generalizing p with
 | zero=>rw [Nat.zero_add];rfl
 | succ a ih=>rw [Nat.succ_add];exact ih (adv m p)
theorem adv_dummy {m:Nat}{p:SetTable.Probe}:(adv m p).dummy=p.dummy:=by unfold adv;split <;> rfl
theorem ad_dummy {m:Nat}:∀ {n:Nat}{p:SetTable.Probe},(ad m n p).dummy=p.dummy
 | 0,_=>rfl
 | n + 1,p=>(ad_dummy (n:=n)).trans adv_dummy
def at' (m:Nat) (h:Int) (n:Nat):Nat:=(ad m n (start m h)).j
theorem ad_in_run {m i u:Nat}:∀ k,k<=SetTable.runEnd m i - i->ad m k (run m i u)={ j:=i + k,more:=SetTable.runEnd m i - i - k,i,perturb:=u,dummy:=none }
 | 0,_=>rfl
 | k + 1,h=>by
  rw [ad_succ,ad_in_run k (by omega)]
  unfold adv
  dsimp only
  rw [if_pos (by omega)]
  rfl
theorem ad_next_run {m i u:Nat}:ad m (SetTable.runEnd m i - i + 1) (run m i u)=run m ((i * 5 + 1 + u / 32) % (m + 1)) (u / 32):=by
 rw [ad_succ,ad_in_run _ (zF _)]
 unfold adv
 dsimp only
 rw [if_neg (by omega)]
 rfl
theorem runEnd_le {m i:Nat}:SetTable.runEnd m i - i<=9/\i<=SetTable.runEnd m i/\(i<=m->SetTable.runEnd m i<=m):=by
 unfold SetTable.runEnd
 split <;> omega
def runs (m:Nat):Nat->Nat->Nat->Nat×Nat
 | 0,i,u=>(i,u)
 | r + 1,i,u=>runs m r ((i * 5 + 1 + u / 32) % (m + 1)) (u / 32)
theorem runs_at {m:Nat}:∀ (r i u:Nat),∃ c,c<=10 * r/\ad m c (run m i u)=run m (runs m r i u).1 (runs m r i u).2
 | 0,i,u=>⟨0,zF _,rfl⟩
 | r + 1,i,u=>by
  obtain ⟨c,hc,e⟩:=runs_at r ((i * 5 + 1 + u / 32) % (m + 1)) (u / 32)
  refine ⟨SetTable.runEnd m i - i + 1 + c,?_,?_⟩
  ·have:=(runEnd_le (m:=m) (i:=i)).1;omega
  ·rw [ad_add,ad_next_run,e];rfl
theorem runs_add {m:Nat}:∀ (a b i u:Nat),runs m (a + b) i u=runs m b (runs m a i u).1 (runs m a i u).2
 | 0,b,i,u=>by rw [Nat.zero_add];rfl
 | a + 1,b,i,u=>by rw [Nat.succ_add];exact runs_add a b _ _
theorem runs_perturb {m:Nat}:∀ (r i u:Nat),(runs m r i u).2=u / 32 ^ r
 | 0,i,u=>by simp [runs]
 | r + 1,i,u=>by
  show (runs m r _ (u / 32)).2=_
  rw [runs_perturb r,Nat.div_div_eq_div_mul,Nat.pow_succ,Nat.mul_comm]
theorem runs_small {m:Nat}:∀ (r i u:Nat),i<=m->(runs m r i u).1<=m
 | 0,i,u,h=>h
 | r + 1,i,u,h=>runs_small r _ _ (yM.mp (Nat.mod_lt _ (by omega)))
def f5 (m:Nat):Nat->Nat->Nat
 | 0,i=>i
 | s + 1,i=>f5 m s ((i * 5 + 1) % (m + 1))
theorem runs_f5 {m:Nat}:∀ (s i:Nat),(runs m s i 0).1=f5 m s i
 | 0,i=>rfl
 | s + 1,i=>by
  show (runs m s ((i * 5 + 1 + 0 / 32) % (m + 1)) (0 / 32)).1=f5 m s ((i * 5 + 1) % (m + 1))
  rw [Nat.zero_div,Nat.add_zero]
  exact runs_f5 s _
theorem f5_add {m:Nat}:∀ (a b i:Nat),f5 m (a + b) i=f5 m b (f5 m a i)
 | 0,b,i=>by rw [Nat.zero_add];rfl
 | a + 1,b,i=>by rw [Nat.succ_add];exact f5_add a b _
def bitsOf (m:Nat):Nat->Nat->Nat->Nat
 | 0,_,acc=>acc
 | s + 1,i,acc=>bitsOf m s ((i * 5 + 1) % (m + 1)) (acc ||| (2 ^ i))
theorem bitsOf_spec {m j:Nat}:∀ (s i acc:Nat),(bitsOf m s i acc).testBit j=true->acc.testBit j=true\/∃ a,a < s/\f5 m a i=j
 | 0,i,acc,h=>.inl h
 | s + 1,i,acc,h=>by
  rcases bitsOf_spec s _ _ h with h | ⟨a,ha,e⟩
  ·rw [Nat.testBit_or,Bool.or_eq_true] at h
   rcases h with h | h
   ·exact .inl h
   ·rw [Nat.testBit_two_pow] at h
    exact .inr ⟨0,by omega,of_decide_eq_true h⟩
  ·exact .inr ⟨a + 1,by omega,e⟩
def Mask (m:Nat):Prop:=m=7\/m=31\/m=127\/m=511\/m=2047\/m=8191
theorem cover0 {m:Nat} (hm:Mask m):f5 m (m + 1) 0=0/\∀ j,j<=m->∃ a,a<=m/\f5 m a 0=j:=by
 have key:f5 m (m + 1) 0=0/\bitsOf m (m + 1) 0 0=2 ^ (m + 1) - 1:=by
  rcases hm with rfl | rfl | rfl | rfl | rfl | rfl <;> constructor <;> decide +kernel
 refine ⟨key.1,λj hj=>?_⟩
 have:(bitsOf m (m + 1) 0 0).testBit j=true:=by
  rw [key.2,Nat.testBit_two_pow_sub_one]
  exact decide_eq_true (by omega)
 rcases bitsOf_spec _ _ _ this with h | ⟨a,ha,e⟩
 ·simp at h
 ·exact ⟨a,by omega,e⟩
theorem cover {m i j:Nat} (hm:Mask m) (hi:i<=m) (hj:j<=m):∃ s,s<=m/\f5 m s i=j:=by
 obtain ⟨z,all⟩:=cover0 hm
 obtain ⟨a,ha,rfl⟩:=all i hi
 obtain ⟨b,hb,rfl⟩:=all j hj
 by_cases c:a<=b
 ·exact ⟨b - a,by omega,by rw [<-f5_add];congr 1;omega⟩
 ·refine ⟨b + (m + 1) - a,by omega,?_⟩
  rw [<-f5_add,show a + (b + (m + 1) - a)=(m + 1) + b from by omega,f5_add,z]
theorem reach {m i u j:Nat} (hm:Mask m) (hi:i<=m) (hu:u < 2 ^ 64) (hj:j<=m):∃ r,r<=m + 13/\(runs m r i u).1=j:=by
 have p0:(runs m 13 i u).2=0:=by
  rw [runs_perturb]
  exact Nat.div_eq_of_lt (zU hu (by decide))
 obtain ⟨s,hs,e⟩:=cover hm (runs_small 13 i u hi) hj
 refine ⟨13 + s,by omega,?_⟩
 rw [runs_add,p0,runs_f5,e]
theorem bits_lt (h:Int):SetTable.bits h < 2 ^ 64:=by
 unfold SetTable.bits
 have a:=yk h (show (2 ^ 64:Int)≠0 by decide)
 have b:=yY h (show (0:Int) < 2 ^ 64 by decide)
 have c:((h % 2 ^ 64).toNat:Int)=h % 2 ^ 64:=Int.toNat_of_nonneg a
 have d:((2 ^ 64:Nat):Int)=(2:Int) ^ 64:=by decide
 omega
theorem reach_at {m j:Nat}{h:Int} (hm:Mask m) (hj:j<=m):∃ n,n<=10 * (m + 13)/\at' m h n=j:=by
 obtain ⟨r,hr,e⟩:=reach (u:=SetTable.bits h) hm (yM.mp (Nat.mod_lt (SetTable.bits h) (show 0 < m + 1 by omega))) (bits_lt h) hj
 obtain ⟨c,hc,e2⟩:=runs_at (m:=m) r (SetTable.bits h % (m + 1)) (SetTable.bits h)
 refine ⟨c,by omega,?_⟩
 unfold at' start
 rw [e2,e];rfl
theorem least {P:Nat->Prop}:∀ n,P n->∃ k,k<=n/\P k/\∀ i,i < k->¬ P i:=by
 intro n
 induction n using Nat.strongRecOn with
 | _ n ih=>
  intro h
  by_cases c:∃ i,i < n/\P i
  ·obtain ⟨i,hi,pi⟩:=c
   obtain ⟨k,hk,pk,al⟩:=ih i hi pi
   exact ⟨k,by omega,pk,al⟩
  ·exact ⟨n,zF _,h,λi hi pi=>c ⟨i,hi,pi⟩⟩
theorem first_free {m:Nat}{O:Nat->Prop} (h:Int) (hm:Mask m) (he:∃ j,j<=m/\¬ O j):∃ N,N<=10 * (m + 13)/\¬ O (at' m h N)/\∀ n,n < N->O (at' m h n):=by
 obtain ⟨j,hj,no⟩:=he
 obtain ⟨n,hn,e⟩:=reach_at (h:=h) hm hj
 obtain ⟨k,hk,pk,al⟩:=least (P:=λn=>¬ O (at' m h n)) n (by rw [e];exact no)
 exact ⟨k,by omega,pk,λi hi=>Classical.byContradiction λc=>al i hi c⟩
theorem at_le {m:Nat}{h:Int}:∀ n,at' m h n<=m:=by
 have key:∀ n,(ad m n (start m h)).j + (ad m n (start m h)).more<=m:=by
  have step:∀ p:SetTable.Probe,p.j + p.more<=m->(adv m p).j + (adv m p).more<=m:=λp hp=>by
   unfold adv
   split
   ·dsimp only;omega
   ·dsimp only
    have l:(SetTable.leap m p.i p.perturb).1<=m:=yM.mp (Nat.mod_lt _ (by omega))
    have:=runEnd_le (m:=m) (i:=(SetTable.leap m p.i p.perturb).1)
    have:=this.2.2 l
    omega
  intro n
  induction n with
  | zero=>
   show SetTable.bits h % (m + 1) + (SetTable.runEnd m (SetTable.bits h % (m + 1)) - SetTable.bits h % (m + 1))<=m
   have l:SetTable.bits h % (m + 1)<=m:=yM.mp (Nat.mod_lt _ (by omega))
   have:=runEnd_le (m:=m) (i:=SetTable.bits h % (m + 1))
   have:=this.2.2 l
   omega
  | succ n ih=>rw [ad_succ];exact step _ ih
 intro n
 have:=key n
 unfold at'
 omega
end SmSet
namespace SmSet
open PySem
structure Tab (t:SetTable) (es:Array (Int×Value)):Prop where
 mask:Mask t.mask
 nd:t.dummies=#[]
 so:t.place.toList.Pairwise (· < ·)
 sz:t.place.size=es.size
 small:∀ j∈t.place.toList,j<=t.mask
 light:es.size * 5 < t.mask * 3
 way:∀ i (h:i < es.size),∃ n,t.place[i]?=some (at' t.mask es[i].1 n)/\∀ n',n' < n->at' t.mask es[i].1 n'∈t.place.toList
theorem Tab.room {t:SetTable}{es:Array (Int×Value)} (T:Tab t es):es.size<=t.mask:=by have:=T.light;omega
theorem Tab.fits {t:SetTable}{es:Array (Int×Value)} (T:Tab t es):t.fits es.size=true:=by
 unfold SetTable.fits SetTable.fill
 have:=T.room
 rw [T.sz,T.nd]
 simp
 exact this
theorem Tab.odd {t:SetTable}{es:Array (Int×Value)} (T:Tab t es):t.gaveWay=false:=by
 unfold SetTable.gaveWay
 rcases T.mask with h | h | h | h | h | h <;> rw [h] <;> rfl
theorem as_long:∀ (n:Nat) (l:List Nat),(∀ j,j < n->j∈l)->n<=l.length
 | 0,_,_=>zg _
 | n + 1,l,h=>by
  have:=as_long n (l.erase n) λj hj=>(List.mem_erase_of_ne (by omega)).mpr (h j (by omega))
  rw [List.length_erase_of_mem (h n (by omega))] at this
  have:=List.length_pos_of_mem (h n (by omega))
  omega
theorem left_out {l:List Nat}{m:Nat} (h:l.length<=m):∃ j,j<=m/\j ∉ l:=by
 refine Classical.byContradiction λc=>?_
 have:=as_long (m + 1) l λj hj=>Classical.byContradiction λz=>c ⟨j,by omega,z⟩
 omega
theorem Tab.left {t:SetTable}{es:Array (Int×Value)} (T:Tab t es):∃ j,j<=t.mask/\¬ j∈t.place.toList:=by
 have:=left_out (l:=t.place.toList) (m:=t.mask) (by rw [Array.length_toList,T.sz];exact T.room)
 exact this
theorem Tab.first {t:SetTable}{es:Array (Int×Value)} (T:Tab t es) (h:Int):∃ N,N<=10 * (t.mask + 13)/\¬ at' t.mask h N∈t.place.toList/\∀ n,n < N->at' t.mask h n∈t.place.toList:=first_free h T.mask T.left
theorem at_index {t:SetTable}{j:Nat} (h:j∈t.place.toList):∃ i:Nat,t.place[i]?=some j:=by
 obtain ⟨i,hi,e⟩:=yh h
 exact ⟨i,by rw [<-Array.getElem?_toList,zH hi,e]⟩
theorem probe_go {t:SetTable}{es:Array (Int×Value)} (T:Tab t es) {hashAt:Nat->Int}{h:Int}{N:Nat} (hN:¬ at' t.mask h N∈t.place.toList) (hall:∀ n,n < N->at' t.mask h n∈t.place.toList) :
  ∀ (d k fuel:Nat),N - k=d->k<=N->d < fuel ->
   (∃ n i,k<=n/\n < N/\t.place[i]?=some (at' t.mask h n)/\hashAt i=h/\(∀ n',k<=n'->n' < n->∀ i',t.place[i']?=some (at' t.mask h n')->hashAt i'≠h)/\SetTable.probe.go t hashAt h fuel (ad t.mask k (start t.mask h))=some (.candidate (at' t.mask h n) i (ad t.mask (n + 1) (start t.mask h)))) \/
   ((∀ n',k<=n'->n' < N->∀ i',t.place[i']?=some (at' t.mask h n')->hashAt i'≠h)/\SetTable.probe.go t hashAt h fuel (ad t.mask k (start t.mask h))=some (.empty (at' t.mask h N) none))
 | d,k,0,e,hk,hf=>absurd hf (yG _)
 | 0,k,fuel + 1,e,hk,hf=>by
  have:k=N:=by omega
  subst this
  refine .inr ⟨λn' h1 h2=>absurd h1 (by omega),?_⟩
  unfold SetTable.probe.go
  rw [show (ad t.mask k (start t.mask h)).j=at' t.mask h k from rfl,slot_empty T.nd hN]
  dsimp only
  rw [ad_dummy]
  rfl
 | d + 1,k,fuel + 1,e,hk,hf=>by
  obtain ⟨i,hi⟩:=at_index (hall k (by omega))
  by_cases c:hashAt i=h
  ·refine .inl ⟨k,i,zF _,by omega,hi,c,λn' h1 h2=>absurd h1 (by omega),?_⟩
   unfold SetTable.probe.go
   rw [show (ad t.mask k (start t.mask h)).j=at' t.mask h k from rfl,slot_live T.so hi]
   dsimp only
   rw [if_pos (by rw [c];simp),advance_eq,<- ad_succ]
  ·have step:SetTable.probe.go t hashAt h (fuel + 1) (ad t.mask k (start t.mask h))=SetTable.probe.go t hashAt h fuel (ad t.mask (k + 1) (start t.mask h)):=by
    conv=>lhs;unfold SetTable.probe.go
    rw [show (ad t.mask k (start t.mask h)).j=at' t.mask h k from rfl,slot_live T.so hi]
    dsimp only
    rw [if_neg (by simpa using c),advance_eq,<- ad_succ]
   have here:∀ i',t.place[i']?=some (at' t.mask h k)->hashAt i'≠h:=λi' hi'=>by
    have:=(below_at T.so hi').symm.trans (below_at T.so hi)
    rw [this];exact c
   rw [step]
   rcases probe_go T hN hall d (k + 1) fuel (by omega) (by omega) (by omega) with ⟨n,i2,a1,a2,a3,a4,a5,a6⟩ | ⟨a1,a2⟩
   ·refine .inl ⟨n,i2,by omega,a2,a3,a4,λn' h1 h2 i' hi'=>?_,a6⟩
    by_cases q:n'=k
    ·subst q;exact here i' hi'
    ·exact a5 n' (by omega) h2 i' hi'
   ·refine .inr ⟨λn' h1 h2 i' hi'=>?_,a2⟩
    by_cases q:n'=k
    ·subst q;exact here i' hi'
    ·exact a1 n' (by omega) h2 i' hi'
end SmSet
namespace SmSet
open PySem
section
variable {prog:Program}{w:World}{K:Type} [DecidableEq K] {knd:HeapKind prog w K}{A:Around}{E:Value->Shared->Prop}{s:Shared}{a:Addr}
def Keys (knd:HeapKind prog w K) (h:Heap) (es:Array (Int×Value)) (ks:Nat->K):Prop:=∀ i (hi:i < es.size),∃ b,es[i]=(knd.hash (ks i),.ref b)/\knd.is h (ks i) b
def Calm (knd:HeapKind prog w K) (A:Around) (s:Shared):Prop:=∀ (k:K) (b:Addr),knd.is s.heap k b->∀ (E:Value->Shared->Prop) (Q:Bool->Shared->Prop),Q false s->wpAny (model prog w) A (ofAClassStatement 8 (.ref b)) Q E s
theorem not_seen {k:K}{c:Addr} (hk:knd.is s.heap k c) (cl:Calm knd A s):∀ (ys:List Value),(∀ y∈ys,∃ k b,y=.ref b/\knd.is s.heap k b)->∀ {Q:Bool->Shared->Prop},Q false s->wpAny (model prog w) A (searchCouldBeSeen (.ref c) ys) Q E s:=by
 intro ys hy Q q
 unfold searchCouldBeSeen
 refine wpAny_bind ?_
 refine wpAny_forIn_list _ (λrest r s'=>r.1=none/\s'=s/\∀ y∈rest,∃ k b,y=.ref b/\knd.is s.heap k b) _ ?_ ?_ _ _ ⟨rfl,rfl,hy⟩
 ·rintro y rest r s' ⟨hr,rfl,hall⟩
  obtain ⟨k2,b,rfl,hb⟩:=hall _ zf
  have next:∀ u∈rest,∃ k b,u=Value.ref b/\knd.is s'.heap k b:=λu hu=>hall u (zW _ hu)
  dsimp only
  split
  ·exact wpAny_pure ⟨rfl,rfl,next⟩
  ·refine wpAny_bind (knd.quiet hk ?_)
   simp only [Bool.not_true,zb,if_false]
   refine wpAny_bind (knd.quiet hb ?_)
   simp only [Bool.not_true,zb,if_false]
   refine wpAny_bind (cl _ _ hk _ _ ?_)
   simp only [zb,if_false]
   refine wpAny_bind (cl _ _ hb _ _ ?_)
   simp only [zb,if_false]
   exact wpAny_pure ⟨rfl,rfl,next⟩
 ·rintro ⟨r1,r2⟩ s' ⟨hr,rfl,_⟩
  simp only at hr
  subst hr
  exact wpAny_pure q
theorem search {o:Obj}{es:Array (Int×Value)}{ep:Nat}{t:SetTable}{ks:Nat->K}{kx:K}{c:Addr}{adding:Bool}{Q:SetFound->Shared->Prop} (hr:knd.room A) (ho:s.heap.get? a=some o) (hd:o.data=.set es ep t) (T:Tab t es) (ke:Keys knd s.heap es ks) (hx:knd.is s.heap kx c) (cl:Calm knd A s)
  (qt:∀ r:Option Nat,(r=none->adding=true)->(∃ i,i < es.size/\ks i=kx)->Q (.there r) s) {N:Nat} (hN:¬ at' t.mask (knd.hash kx) N∈t.place.toList) (hall:∀ n,n < N->at' t.mask (knd.hash kx) n∈t.place.toList) (hNb:N<=10 * (t.mask + 13))
  (qf:(∀ i,i < es.size->ks i≠kx)->Q (.free (at' t.mask (knd.hash kx) N) false) s) :
  ∀ (fuel k:Nat) (st:Option SetTable.Probe),N - k < fuel->k<=N->st.getD (t.probeStart (knd.hash kx))=ad t.mask k (start t.mask (knd.hash kx))->(∀ n',n' < k->∀ i',t.place[i']?=some (at' t.mask (knd.hash kx) n')->ks i'≠kx) ->
   wpAny (model prog w) A (setSearchFrom a (.ref c) (knd.hash kx) adding fuel st) Q E s
 | 0,k,st,hf,_,_,_=>absurd hf (yG _)
 | fuel + 1,k,st,hf,hk,hst,prev=>by
  unfold setSearchFrom
  refine wpAny_bind (wpAny_setState_of ho hd T.fits ?_)
  dsimp only
  rw [T.odd,hst]
  simp only [zb,if_false]
  unfold SetTable.probe
  rcases probe_go T hN hall (hashAt:=λi=>((es[i]?).map (·.1)).getD 0) _ k (10 * SetTable.turns t.mask) rfl hk (by unfold SetTable.turns;omega) with ⟨n,i,a1,a2,a3,a4,a5,a6⟩ | ⟨a1,a2⟩
  ·generalize hp:SetTable.probe.go t _ (knd.hash kx) (10 * SetTable.turns t.mask) (ad t.mask k (start t.mask (knd.hash kx)))=pr
   have e:=hp.symm.trans a6
   subst e
   have hi:i < es.size:=by
    have:=(Array.getElem?_eq_some_iff.mp a3).1
    rw [T.sz] at this;exact this
   obtain ⟨b,eb,hb⟩:=ke i hi
   have eg:es[i]?=some (knd.hash (ks i),.ref b):=by rw [<-eb];exact Array.getElem?_eq_getElem hi
   dsimp only
   rw [eg]
   dsimp only
   have sl:=slot_live T.so a3
   have mem:t.sameMemory t.moves t.mask=some true:=by simp [SetTable.sameMemory]
   have again:=search (adding:=adding) hr ho hd T ke hx cl qt hN hall hNb qf fuel (n + 1) (some (ad t.mask (n + 1) (start t.mask (knd.hash kx)))) (by omega) (by omega) rfl
   have more:ks i≠kx->∀ n',n' < n + 1->∀ i',t.place[i']?=some (at' t.mask (knd.hash kx) n')->ks i'≠kx:=λne n' hn i' hi'=>by
    by_cases q:n' < k
    ·exact prev n' q i' hi'
    by_cases q2:n'=n
    ·subst q2
     have:=(below_at T.so hi').symm.trans (below_at T.so a3)
     rw [this];exact ne
    ·intro z
     have hl:i' < es.size:=by
      have:=(Array.getElem?_eq_some_iff.mp hi').1
      rw [T.sz] at this;exact this
     obtain ⟨b',eb',_⟩:=ke i' hl
     exact a5 n' (by omega) (by omega) i' hi' (by simp [eb',hl,z])
   have stored:∀ y∈List.map (λx=>x.snd) (Array.filter (λx=>x.fst == knd.hash kx) es).toList,∃ k b,y=Value.ref b/\knd.is s.heap k b:=λy hy=>by
    obtain ⟨e,he,rfl⟩:=zS.mp hy
    have he:e∈es:=by
     have:e∈es/\e.fst=knd.hash kx:=by simpa using he
     exact this.1
    obtain ⟨j,hj,rfl⟩:=Array.getElem_of_mem he
    obtain ⟨b',eb',hb'⟩:=ke j hj
    exact ⟨_,b',by rw [eb'],hb'⟩
   split
   ·refine wpAny_bind (not_seen hx cl _ stored ?_)
    simp only [zb,if_false]
    refine wpAny_bind (wpAny_holding (knd.eqBool hr hb hx ?_))
    refine wpAny_bind (wpAny_setState_of ho hd T.fits ?_)
    dsimp only
    rw [mem]
    dsimp only
    rw [if_pos (show (true=true) from rfl),sl]
    dsimp only
    rw [eg]
    dsimp only
    by_cases q:ks i=kx
    ·rw [decide_eq_true q]
     cases adding with
     | true=>exact wpAny_pure (qt _ (λ_=>rfl) ⟨i,hi,q⟩)
     | false=>
      simp only [yK,zb,if_false]
      refine wpAny_bind (wpAny_isSame_ref_self ?_)
      exact wpAny_pure (qt _ (λz=>by cases z) ⟨i,hi,q⟩)
    ·rw [decide_eq_false q]
     simp only [yr,zb,if_false]
     refine wpAny_bind (wpAny_isSame_ref_self ?_)
     exact again (more q)
   ·refine wpAny_bind (wpAny_holding (knd.eqBool hr hb hx ?_))
    refine wpAny_bind (wpAny_setState_of ho hd T.fits ?_)
    dsimp only
    rw [mem]
    dsimp only
    rw [if_pos (show (true=true) from rfl),sl]
    dsimp only
    rw [eg]
    dsimp only
    by_cases q:ks i=kx
    ·rw [decide_eq_true q]
     cases adding with
     | true=>exact wpAny_pure (qt _ (λ_=>rfl) ⟨i,hi,q⟩)
     | false=>
      simp only [yK,zb,if_false]
      refine wpAny_bind (wpAny_isSame_ref_self ?_)
      exact wpAny_pure (qt _ (λz=>by cases z) ⟨i,hi,q⟩)
    ·rw [decide_eq_false q]
     simp only [yr,zb,if_false]
     refine wpAny_bind (wpAny_isSame_ref_self ?_)
     exact again (more q)
  ·generalize hp:SetTable.probe.go t _ (knd.hash kx) (10 * SetTable.turns t.mask) (ad t.mask k (start t.mask (knd.hash kx)))=pr
   have e:=hp.symm.trans a2
   subst e
   dsimp only
   refine wpAny_pure (qf λi hi z=>?_)
   obtain ⟨m,hm,al⟩:=T.way i hi
   obtain ⟨b,eb,_⟩:=ke i hi
   rw [eb] at hm al
   dsimp only at hm al
   rw [z] at hm al
   have mN:m < N:=Classical.byContradiction λc=>by
    by_cases q:N=m
    ·subst q
     exact hN (by simpa using Array.mem_of_getElem? hm)
    ·exact hN (al N (by omega))
   by_cases q:m < k
   ·exact prev m q i hm z
   ·refine a1 m (by omega) mN i hm ?_
    simp [eb,hi,z]
structure SetT (knd:HeapKind prog w K) (h:Heap) (a:Addr) (es:Array (Int×Value)) (ep:Nat) (t:SetTable) (ks:Nat->K):Prop where
 obj:h.get? a=some { cls:=.type "set", data:=.set es ep t }
 tab:Tab t es
 keys:Keys knd h es ks
end
end SmSet
namespace SmSet
open PySem
theorem insert_get {α:Type}{l:List α}{p:Nat}{x:α} (hp:p<=l.length) (i:Nat):(l.take p++x::l.drop p)[i]?=if i < p then l[i]? else if i=p then some x else l[i - 1]?:=by
 have lt:(l.take p).length=p:=by rw [zR];omega
 by_cases c:i < p
 ·rw [if_pos c,yB (by omega),List.getElem?_take_of_lt c]
 ·rw [if_neg c,zo (by omega),lt]
  by_cases d:i=p
  ·rw [if_pos d,d,Nat.sub_self];rfl
  ·rw [if_neg d,show i - p=(i - p - 1) + 1 from by omega,List.getElem?_cons_succ,List.getElem?_drop]
   congr 1;omega
theorem Tab.put {t:SetTable}{es:Array (Int×Value)} (T:Tab t es) {h:Int}{x:Value}{N:Nat} (hN:¬ at' t.mask h N∈t.place.toList) (hall:∀ n,n < N->at' t.mask h n∈t.place.toList) (pl:Bool) :
  (((es.size + 1) * 5 < t.mask * 3)->Tab { (t.put (at' t.mask h N)).1 with plain:=pl } (SetTable.insertAt es (t.put (at' t.mask h N)).2 (h,x)))/\(t.put (at' t.mask h N)).1.dummies=#[]/\(t.put (at' t.mask h N)).1.mask=t.mask/\(t.put (at' t.mask h N)).1.place.size=es.size + 1:=by
 have e1:(t.put (at' t.mask h N)).1={ t with place:=SetTable.insertAt t.place (SetTable.below t.place (at' t.mask h N)) (at' t.mask h N) }:=by
  unfold SetTable.put
  dsimp only
  rw [T.nd]
  unfold SetTable.has
  simp
 have e2:(t.put (at' t.mask h N)).2=SetTable.below t.place (at' t.mask h N):=rfl
 rw [e1,e2]
 generalize hj:at' t.mask h N=j at *
 obtain ⟨b1,b2,b3⟩:=below_spec (j:=j) T.so
 generalize hp:SetTable.below t.place j=p at *
 have lp:(SetTable.insertAt t.place p j).toList=t.place.toList.take p++j::t.place.toList.drop p:=SetTable.toList_insertAt ..
 have le:(SetTable.insertAt es p (h,x)).toList=es.toList.take p++(h,x)::es.toList.drop p:=SetTable.toList_insertAt ..
 have p1:p<=t.place.toList.length:=by rw [Array.length_toList];exact b1
 have p2:p<=es.toList.length:=by rw [Array.length_toList,<- T.sz];exact b1
 have s1:(SetTable.insertAt t.place p j).size=es.size + 1:=by
  rw [<-Array.length_toList,lp,zT,zn,zR,yi,Array.length_toList,<- T.sz];omega
 have s2:(SetTable.insertAt es p (h,x)).size=es.size + 1:=by
  rw [<-Array.length_toList,le,zT,zn,zR,yi,Array.length_toList]
  have:=T.sz
  omega
 have mem:∀ j',j'∈(SetTable.insertAt t.place p j).toList↔j'=j\/j'∈t.place.toList:=λj'=>by
  rw [lp,zV,zC]
  constructor
  ·rintro (h | h | h)
   ·exact .inr (List.mem_of_mem_take h)
   ·exact .inl h
   ·exact .inr (List.mem_of_mem_drop h)
  ·rintro (h | h)
   ·exact .inr (.inl h)
   ·rw [<-List.take_append_drop p t.place.toList,zV] at h
    exact h.imp id .inr
 refine ⟨λlight=>⟨T.mask,T.nd,?_,by rw [s2];exact s1,λj' hj'=>?_,by rw [s2];exact light,λi hi=>?_⟩,T.nd,rfl,s1⟩
 ·show (SetTable.insertAt t.place p j).toList.Pairwise (· < ·)
  rw [lp,List.pairwise_append,List.pairwise_cons]
  refine ⟨T.so.sublist (List.take_sublist _ _),⟨λy hy=>?_,T.so.sublist (List.drop_sublist _ _)⟩,λy hy z hz=>?_⟩
  ·obtain ⟨i,hi,e⟩:=yh hy
   rw [List.getElem_drop] at e
   have hl:p + i < t.place.size:=by rw [yi,Array.length_toList] at hi;omega
   have q:=b3 (p + i) hl (by omega)
   rw [Array.getElem_toList] at e
   rw [e] at q
   have ne:y≠j:=λz=>hN (by rw [<-z];exact List.mem_of_mem_drop hy)
   omega
  ·obtain ⟨i,hi,e⟩:=yh hy
   rw [List.getElem_take] at e
   rw [zR,Array.length_toList] at hi
   have hl:i < t.place.size:=by omega
   have q:=b2 i hl (by omega)
   rw [Array.getElem_toList] at e
   rw [e] at q
   rcases zC.mp hz with z1 | z1
   ·rw [z1];exact q
   ·obtain ⟨k,hk,ek⟩:=yh z1
    rw [List.getElem_drop] at ek
    have hl':p + k < t.place.size:=by rw [yi,Array.length_toList] at hk;omega
    have q2:=b3 (p + k) hl' (by omega)
    rw [Array.getElem_toList] at ek
    rw [ek] at q2
    omega
 ·have hj':j'∈(SetTable.insertAt t.place p j).toList:=hj'
  rcases (mem j').mp hj' with z | z
  ·rw [z,<- hj];exact at_le N
  ·exact T.small j' z
 ·show ∃ n,(SetTable.insertAt t.place p j)[i]?=some (at' t.mask (SetTable.insertAt es p (h,x))[i].1 n)/\∀ n',n' < n->at' t.mask (SetTable.insertAt es p (h,x))[i].1 n'∈(SetTable.insertAt t.place p j).toList
  have ge:(SetTable.insertAt es p (h,x))[i]?=some (SetTable.insertAt es p (h,x))[i]:=Array.getElem?_eq_getElem hi
  generalize (SetTable.insertAt es p (h,x))[i]=e at ge ⊢
  rw [<-Array.getElem?_toList,le,insert_get p2] at ge
  rw [<-Array.getElem?_toList,lp,insert_get p1,<- lp]
  have old:∀ k,es.toList[k]?=some e->∃ n,t.place.toList[k]?=some (at' t.mask e.1 n)/\∀ n',n' < n->at' t.mask e.1 n'∈(SetTable.insertAt t.place p j).toList:=λk hk=>by
   rw [Array.getElem?_toList] at hk
   obtain ⟨hk',ek⟩:=Array.getElem?_eq_some_iff.mp hk
   obtain ⟨n,a1,a2⟩:=T.way k hk'
   rw [ek] at a1 a2
   exact ⟨n,by rw [Array.getElem?_toList];exact a1,λn' hn=>(mem _).mpr (.inr (a2 n' hn))⟩
  by_cases c:i < p
  ·rw [if_pos c] at ge ⊢;exact old i ge
  ·rw [if_neg c] at ge ⊢
   by_cases d:i=p
   ·rw [if_pos d] at ge ⊢
    cases ge
    exact ⟨N,by rw [hj],λn' hn=>(mem _).mpr (.inr (hall n' hn))⟩
   ·rw [if_neg d] at ge ⊢;exact old (i - 1) ge
def occ (ow:Array (Option Nat)) (j:Nat):Prop:=(ow.getD j (some 0)).isNone=false
theorem free_spec {m:Nat}{ow:Array (Option Nat)}:∀ (fuel i u:Nat),(∃ r,r < fuel/\¬ occ ow (runs m r i u).1) ->
  ∃ n,SetTable.layClean.free m ow fuel i u=some (ad m n (run m i u)).j/\¬ occ ow (ad m n (run m i u)).j/\∀ n',n' < n->occ ow (ad m n' (run m i u)).j
 | 0,i,u,⟨r,h,_⟩=>absurd h (yG _)
 | fuel + 1,i,u,⟨r,h,no⟩=>by
  unfold SetTable.layClean.free
  cases e:(List.range (SetTable.runEnd m i + 1 - i)).find? λk=>(ow.getD (i + k) (some 0)).isNone with
  | some k=>
   dsimp only
   obtain ⟨hk,hlt,before⟩:=List.find?_range_eq_some.mp e
   have hlt:k < SetTable.runEnd m i + 1 - i:=zv.mp hlt
   have inr:∀ k',k'<=k->(ad m k' (run m i u)).j=i + k':=λk' hk'=>by rw [ad_in_run k' (by omega)]
   refine ⟨k,by rw [inr k (zF _)],?_,λn' hn=>?_⟩
   ·rw [inr k (zF _)]
    unfold occ
    rw [hk];simp
   ·rw [inr n' (by omega)]
    unfold occ
    have:=before n' hn
    simpa using this
  | none=>
   dsimp only
   have all:∀ k,k < SetTable.runEnd m i + 1 - i->occ ow (i + k):=λk hk=>by
    have:=List.find?_eq_none.mp e k (zv.mpr hk)
    unfold occ
    cases q:(ow.getD (i + k) (some 0)).isNone with
    | false=>rfl
    | true=>exact absurd q this
   have r0:r≠0:=λz=>by
    subst z
    refine no ?_
    exact all 0 (by have:=(runEnd_le (m:=m) (i:=i)).2.1;omega)
   obtain ⟨r',rfl⟩:=Nat.exists_eq_succ_of_ne_zero r0
   obtain ⟨n,a1,a2,a3⟩:=free_spec fuel ((i * 5 + 1 + u / 32) % (m + 1)) (u / 32) ⟨r',by omega,no⟩
   have next:∀ n',ad m (SetTable.runEnd m i - i + 1 + n') (run m i u)=ad m n' (run m ((i * 5 + 1 + u / 32) % (m + 1)) (u / 32)):=λn'=>by rw [ad_add,ad_next_run]
   refine ⟨SetTable.runEnd m i - i + 1 + n,?_,?_,λn' hn=>?_⟩
   ·rw [next];exact a1
   ·rw [next];exact a2
   ·by_cases c:n' < SetTable.runEnd m i - i + 1
    ·rw [ad_in_run n' (by omega)]
     exact all n' (by have:=(runEnd_le (m:=m) (i:=i)).2.1;omega)
    ·rw [show n'=SetTable.runEnd m i - i + 1 + (n' - (SetTable.runEnd m i - i + 1)) from by omega,next]
     exact a3 _ (by omega)
structure Lay (m:Nat) (hs:List Int) (ow:Array (Option Nat)):Prop where
 sz:ow.size=m + 1
 each:∀ (k:Nat) (h:Int),hs[k]?=some h->∃ n,ow[at' m h n]?=some (some k)/\∀ n',n' < n->occ ow (at' m h n')
 low:∀ (j k:Nat),ow[j]?=some (some k)->k < hs.length
 one:∀ (j j' k:Nat),ow[j]?=some (some k)->ow[j']?=some (some k)->j=j'
theorem occ_iff {ow:Array (Option Nat)}{j:Nat} (h:j < ow.size):occ ow j↔∃ k,ow[j]?=some (some k):=by
 unfold occ
 rw [show ow.getD j (some 0)=ow[j] from by simp [Array.getD,h],Array.getElem?_eq_getElem h]
 cases ow[j] <;> simp
theorem Lay.left {m:Nat}{hs:List Int}{ow:Array (Option Nat)} (L:Lay m hs ow) (few:hs.length<=m):∃ j,j<=m/\¬ occ ow j:=by
 refine Classical.byContradiction λc=>?_
 have all:∀ j,j < m + 1->∃ k,ow[j]?=some (some k):=λj hj=>(occ_iff (by rw [L.sz];exact hj)).mp (Classical.byContradiction λz=>c ⟨j,by omega,z⟩)
 have pick:∀ k,∃ j,k < hs.length->ow[j]?=some (some k):=λk=>by
  by_cases hk:k < hs.length
  ·obtain ⟨n,a,_⟩:=L.each k hs[k] (zH hk)
   exact ⟨_,λ_=>a⟩
  ·exact ⟨0,λz=>absurd z hk⟩
 have:=as_long (m + 1) ((List.range hs.length).map λk=>(pick k).choose) λj hj=>by
  obtain ⟨k,hk⟩:=all j hj
  have kl:=L.low j k hk
  exact zS.mpr ⟨k,zv.mpr kl,L.one _ _ _ ((pick k).choose_spec kl) hk⟩
 rw [zA,List.length_range] at this
 omega
theorem Lay.step {m:Nat}{hs:List Int}{ow:Array (Option Nat)} (hm:Mask m) (L:Lay m hs ow) (few:hs.length<=m) (h:Int) :
  ∃ j,SetTable.layClean.free m ow (SetTable.turns m) (SetTable.bits h % (m + 1)) (SetTable.bits h)=some j/\Lay m (hs++[h]) (ow.setIfInBounds j (some hs.length)):=by
 obtain ⟨j0,hj0,no⟩:=L.left few
 obtain ⟨r,hr,e⟩:=reach (u:=SetTable.bits h) hm (yM.mp (Nat.mod_lt (SetTable.bits h) (show 0 < m + 1 by omega))) (bits_lt h) hj0
 obtain ⟨n,a1,a2,a3⟩:=free_spec (m:=m) (ow:=ow) (SetTable.turns m) (SetTable.bits h % (m + 1)) (SetTable.bits h) ⟨r,by unfold SetTable.turns;omega,by rw [e];exact no⟩
 have ej:(ad m n (run m (SetTable.bits h % (m + 1)) (SetTable.bits h))).j=at' m h n:=rfl
 rw [ej] at a1 a2
 have a3:∀ n',n' < n->occ ow (at' m h n'):=a3
 have jl:at' m h n < ow.size:=by rw [L.sz];exact yM.mpr (at_le n)
 have get:∀ j,(ow.setIfInBounds (at' m h n) (some hs.length))[j]?=if at' m h n=j then some (some hs.length) else ow[j]?:=λj=>by
  rw [Array.getElem?_setIfInBounds]
  by_cases c:at' m h n=j
  ·rw [if_pos c,if_pos c,if_pos jl]
  ·rw [if_neg c,if_neg c]
 have keep:∀ j,occ ow j->j < ow.size->occ (ow.setIfInBounds (at' m h n) (some hs.length)) j:=λj oj hj=>by
  rw [occ_iff (by rw [Array.size_setIfInBounds];exact hj),get]
  by_cases c:at' m h n=j
  ·exact ⟨_,by rw [if_pos c]⟩
  ·rw [if_neg c];exact (occ_iff hj).mp oj
 have free:∀ k,ow[at' m h n]?≠some (some k):=λk z=>a2 ((occ_iff jl).mpr ⟨k,z⟩)
 refine ⟨_,a1,by rw [Array.size_setIfInBounds];exact L.sz,λk x hx=>?_,λj k hj=>?_,λj j' k h1 h2=>?_⟩
 ·by_cases c:k < hs.length
  ·rw [yB c] at hx
   obtain ⟨n2,b1,b2⟩:=L.each k x hx
   refine ⟨n2,?_,λn' hn=>keep _ (b2 n' hn) (by rw [L.sz];exact yM.mpr (at_le n'))⟩
   rw [get,if_neg λz=>free k (by rw [z];exact b1)]
   exact b1
  ·rw [zo (by omega)] at hx
   have:k - hs.length=0:=by
    have:=(zK.mp hx).1
    simp at this;omega
   rw [this] at hx
   cases hx
   have:k=hs.length:=by omega
   subst this
   exact ⟨n,by rw [get,if_pos rfl],λn' hn=>keep _ (a3 n' hn) (by rw [L.sz];exact yM.mpr (at_le n'))⟩
 ·rw [get] at hj
  rw [zT,yZ]
  split at hj
  ·cases hj;omega
  ·have:=L.low j k hj;omega
 ·rw [get] at h1 h2
  split at h1 <;> split at h2
  ·rename_i x y;rw [<-x,<- y]
  ·cases h1;have:=L.low _ _ h2;omega
  ·cases h2;have:=L.low _ _ h1;omega
  ·exact L.one _ _ _ h1 h2
theorem lay_fold {m:Nat} (hm:Mask m):∀ (l hs:List Int) (ow:Array (Option Nat)),Lay m hs ow->hs.length + l.length<=m + 1 ->
  ∃ ow',l.foldl (λ(acc:Option (Array (Option Nat)×Nat)) h=>do
   let (owner,k) <- acc
   let j <- SetTable.layClean.free m owner (SetTable.turns m) (SetTable.bits h % (m + 1)) (SetTable.bits h)
   pure (owner.setIfInBounds j (some k),k + 1)) (some (ow,hs.length))=some (ow',hs.length + l.length)/\Lay m (hs++l) ow'
 | [],hs,ow,L,_=>⟨ow,rfl,by rw [yF];exact L⟩
 | h::l,hs,ow,L,few=>by
  obtain ⟨j,e,L'⟩:=L.step hm (by rw [zn] at few;omega) h
  have few':(hs++[h]).length + l.length<=m + 1:=by rw [zT,yZ];rw [zn] at few;omega
  obtain ⟨ow',e2,L2⟩:=lay_fold hm l (hs++[h]) _ L' few'
  refine ⟨ow',?_,by rw [List.append_assoc] at L2;exact L2⟩
  rw [List.foldl_cons]
  show l.foldl _ ((SetTable.layClean.free m ow (SetTable.turns m) (SetTable.bits h % (m + 1)) (SetTable.bits h)).bind λj=>some (ow.setIfInBounds j (some hs.length),hs.length + 1))=_
  rw [e]
  rw [zT,yZ] at e2
  rw [zn]
  rw [show hs.length + (l.length + 1)=hs.length + 1 + l.length from by omega]
  exact e2
theorem lay_clean {m:Nat} (hm:Mask m) {hashes:Array Int} (few:hashes.size<=m + 1):∃ ow,SetTable.layClean m hashes=some ow/\Lay m hashes.toList ow:=by
 have L0:Lay m [] (Array.replicate (m + 1) none):=⟨by simp,λk h e=>(by cases e),(λj k e=>by rw [Array.getElem?_replicate] at e;split at e <;> cases e),(λj j' k e=>by rw [Array.getElem?_replicate] at e;split at e <;> cases e)⟩
 obtain ⟨ow,e,L⟩:=lay_fold hm hashes.toList [] _ L0 (by rw [yN,Array.length_toList];omega)
 refine ⟨ow,?_,by simpa using L⟩
 unfold SetTable.layClean
 rw [<-Array.foldl_toList]
 have:=congrArg (Option.map (·.1)) e
 exact this
theorem perm_of {l l':List Nat} (h:l.Nodup) (h':l'.Nodup) (e:∀ x,x∈l↔x∈l'):l.Perm l':=by
 rw [List.perm_iff_count]
 intro a
 rw [h.count,h'.count]
 by_cases c:a∈l
 ·rw [if_pos c,if_pos ((e a).mp c)]
 ·rw [if_neg c,if_neg λz=>c ((e a).mpr z)]
theorem fm_some {α β:Type}{f:α->Option β}{g:α->β}:∀ {l:List α},(∀ x∈l,f x=some (g x))->l.filterMap f=l.map g
 | [],_=>rfl
 | x::l,h=>by
  rw [List.filterMap_cons_some (h x zf),zz,fm_some λy hy=>h y (zW _ hy)]
theorem fm_pair {f:Nat->Option Nat}:∀ (l:List Nat),(l.filterMap λj=>(f j).map (j,·)).map (·.1)=l.filter λj=>(f j).isSome
 | []=>rfl
 | x::l=>by
  cases e:f x with
  | none=>rw [List.filterMap_cons_none (by rw [e];rfl),List.filter_cons_of_neg (by rw [e];simp),fm_pair l]
  | some k=>rw [List.filterMap_cons_some (b:=(x,k)) (by rw [e];rfl),List.filter_cons_of_pos (by rw [e];rfl),zz,fm_pair l]
theorem relaid_spec {t:SetTable}{es:Array (Int×Value)}{wanted m:Nat} (hw:SetTable.sizeAbove wanted - 1=m) (hm:Mask m) (light:es.size * 5 < m * 3) :
  ∃ t' order,t.relaid (es.map (·.1)) wanted=some (t',order)/\(order.filterMap (es[·]?)).toList.Perm es.toList/\Tab t' (order.filterMap (es[·]?)):=by
 obtain ⟨ow,e,L⟩:=lay_clean (hashes:=es.map (·.1)) hm (by rw [Array.size_map];omega)
 have lh:(es.map (·.1)).toList.length=es.size:=by rw [Array.length_toList,Array.size_map]
 have hh:∀ (k:Nat) (x:Int×Value),es[k]?=some x->(es.map (·.1)).toList[k]?=some x.1:=λk x hx=>by rw [Array.getElem?_toList,Array.getElem?_map,hx];rfl
 let lv:=(List.range (m + 1)).filterMap λj=>(ow.getD j none).map (j,·)
 have e2:t.relaid (es.map (·.1)) wanted=some ({ mask:=m,place:=(lv.map (·.1)).toArray,dummies:=#[],finger:=t.finger,led:=t.led,moves:=t.movedTo m,plain:=t.plain },(lv.map (·.2)).toArray):=by
  unfold SetTable.relaid SetTable.laid
  rw [hw,e]
  rfl
 have f1:lv.map (·.1)=(List.range (m + 1)).filter λj=>(ow.getD j none).isSome:=fm_pair _
 have f2:∀ p∈lv,ow[p.1]?=some (some p.2)/\p.1<=m:=λp hp=>by
  obtain ⟨j,hj,q⟩:=yX.mp hp
  have hj:j < m + 1:=zv.mp hj
  have hs:j < ow.size:=by rw [L.sz];exact hj
  rw [show ow.getD j none=ow[j] from by simp [Array.getD,hs]] at q
  cases eo:ow[j] with
  | none=>rw [eo] at q;cases q
  | some k=>rw [eo] at q;cases q;exact ⟨by rw [Array.getElem?_eq_getElem hs,eo],by show j<=m;omega⟩
 have f3:∀ j k,ow[j]?=some (some k)->(j,k)∈lv:=λj k h=>by
  obtain ⟨hs,eo⟩:=Array.getElem?_eq_some_iff.mp h
  refine yX.mpr ⟨j,zv.mpr (by rw [L.sz] at hs;exact hs),?_⟩
  rw [show ow.getD j none=ow[j] from by simp [Array.getD,hs],eo];rfl
 have so1:(lv.map (·.1)).Pairwise (· < ·):=by rw [f1];exact List.pairwise_lt_range.filter _
 have so2:lv.Pairwise λa b=>a.1 < b.1:=List.pairwise_map.mp so1
 have nd:(lv.map (·.2)).Nodup:=by
  refine List.pairwise_map.mpr (so2.imp_of_mem λ{a b} ha hb h z=>?_)
  have:=L.one _ _ _ (f2 a ha).1 (by rw [z];exact (f2 b hb).1)
  omega
 have kl:∀ p∈lv,p.2 < es.size:=λp hp=>by have:=L.low _ _ (f2 p hp).1;rw [lh] at this;exact this
 have pm:(lv.map (·.2)).Perm (List.range es.size):=perm_of nd List.nodup_range λk=>by
  constructor
  ·intro h
   obtain ⟨p,hp,rfl⟩:=zS.mp h
   exact zv.mpr (kl p hp)
  ·intro h
   have hk:k < es.size:=zv.mp h
   obtain ⟨n,a,_⟩:=L.each k es[k].1 (hh k _ (Array.getElem?_eq_getElem hk))
   exact zS.mpr ⟨_,f3 _ _ a,rfl⟩
 let g:Nat->Int×Value:=λk=>(es[k]?).getD (0,Value.none)
 have gk:∀ k,k < es.size->es[k]?=some (g k):=λk hk=>by show es[k]?=some ((es[k]?).getD _);rw [Array.getElem?_eq_getElem hk];rfl
 have e3:((lv.map (·.2)).toArray.filterMap (es[·]?)).toList=lv.map λp=>g p.2:=by
  rw [Array.toList_filterMap,List.filterMap_map]
  exact fm_some λp hp=>gk p.2 (kl p hp)
 have e4:es.toList=(List.range es.size).map g:=by
  have:=filterMap_getElem?_range es
  rw [fm_some (g:=g) λk hk=>gk k (zv.mp hk)] at this
  exact this.symm
 refine ⟨_,_,e2,?_,?_⟩
 ·rw [e3,e4,show (λp:Nat×Nat=>g p.2)=g ∘ (·.2) from rfl,<- zd]
  exact pm.map g
 ·have sz:((lv.map (·.2)).toArray.filterMap (es[·]?)).size=lv.length:=by rw [<-Array.length_toList,e3,zA]
  have ll:lv.length=es.size:=by have:=pm.length_eq;rw [zA,List.length_range] at this;exact this
  refine ⟨hm,rfl,by simpa using so1,by rw [sz];simp,λj hj=>?_,by rw [sz,ll];exact light,λi hi=>?_⟩
  ·have hj:j∈lv.map (·.1):=by simpa using hj
   obtain ⟨p,hp,rfl⟩:=zS.mp hj
   exact (f2 p hp).2
  ·have ge:((lv.map (·.2)).toArray.filterMap (es[·]?))[i]?=some ((lv.map (·.2)).toArray.filterMap (es[·]?))[i]:=Array.getElem?_eq_getElem hi
   generalize ((lv.map (·.2)).toArray.filterMap (es[·]?))[i]=x at ge ⊢
   rw [<-Array.getElem?_toList,e3,zG] at ge
   cases ep:lv[i]? with
   | none=>rw [ep] at ge;cases ge
   | some p=>
    rw [ep] at ge
    have ge:g p.2=x:=Option.some.inj ge
    have hp:=zD ep
    have hx:=gk p.2 (kl p hp)
    rw [ge] at hx
    obtain ⟨n,a1,a2⟩:=L.each p.2 x.1 (hh p.2 x hx)
    have ej:=L.one _ _ _ a1 (f2 p hp).1
    refine ⟨n,?_,λn' hn=>?_⟩
    ·show ((lv.map (·.1)).toArray)[i]?=some (at' m x.1 n)
     rw [List.getElem?_toArray,zG,ep,ej];rfl
    ·show at' m x.1 n'∈((lv.map (·.1)).toArray).toList
     obtain ⟨k,hk⟩:=(occ_iff (by rw [L.sz];exact yM.mpr (at_le n'))).mp (a2 n' hn)
     simpa using ⟨k,f3 _ _ hk⟩
end SmSet
namespace SmSet
open PySem
section
variable {prog:Program}{w:World}{K:Type} [DecidableEq K] {knd:HeapKind prog w K}{A:Around}{E:Value->Shared->Prop}{s:Shared}{a:Addr}
def Hashy (knd:HeapKind prog w K):Prop:=∀ (A:Around) (s:Shared) (k:K) (b:Addr),knd.is s.heap k b->∀ (E:Value->Shared->Prop) (Q:Bool->Shared->Prop),(∀ v,Q v s)->wpAny (model prog w) A (hashByValue 8 (.ref b)) Q E s
def SetObj (es:Array (Int×Value)) (ep:Nat) (t:SetTable):Obj:={ cls:=.type "set", data:=.set es ep t }
theorem store {es es':Array (Int×Value)}{ep:Nat}{t t':SetTable}{Q:Unit->Shared->Prop} (ho:s.heap.get? a=some (SetObj es ep t)) (hz:es'.size<=sizeLine)
  (h:∀ h',Heap.SameBut a s.heap h'->h'.get? a=some (SetObj es' (ep + 1) t')->Q () { s with heap:=h' }):wpAny (model prog w) A (storeSet a es' t') Q E s:=by
 refine wpAny_storeSet_of ho rfl (h _ (Heap.SameBut.update s.heap a (Obj.putSet es' t')) ?_) hz
 have:=Heap.get?_update_self (Obj.putSet es' t') ho (by rw [putSet_of es' t' rfl];rfl)
 rw [putSet_of es' t' rfl] at this;exact this
theorem grown_mask {n m:Nat} (hm:Mask m) (lt:(n - 1) * 5 < m * 3) (n1:1<=n) (full:n * 5 ≥ m * 3) (few:n<=4000):Mask (SetTable.sizeAbove (SetTable.grown n) - 1)/\n * 5 < (SetTable.sizeAbove (SetTable.grown n) - 1) * 3/\SetTable.sizeAbove (SetTable.grown n)<=8192:=by
 rcases hm with rfl | rfl | rfl | rfl | rfl | rfl
 ·have:n=5:=by omega
  subst this
  exact ⟨.inr (.inl (by decide +kernel)),by decide +kernel,by decide +kernel⟩
 ·have:n=19:=by omega
  subst this
  exact ⟨.inr (.inr (.inl (by decide +kernel))),by decide +kernel,by decide +kernel⟩
 ·have:n=77:=by omega
  subst this
  exact ⟨.inr (.inr (.inr (.inl (by decide +kernel)))),by decide +kernel,by decide +kernel⟩
 ·have:n=307:=by omega
  subst this
  exact ⟨.inr (.inr (.inr (.inr (.inl (by decide +kernel))))),by decide +kernel,by decide +kernel⟩
 ·have:n=1229:=by omega
  subst this
  exact ⟨.inr (.inr (.inr (.inr (.inr (by decide +kernel))))),by decide +kernel,by decide +kernel⟩
 ·omega
theorem add {es:Array (Int×Value)}{ep:Nat}{t:SetTable}{ks:Nat->K}{kx:K}{c:Addr}{Q:Bool->Shared->Prop} (hr:knd.room A) (S:SetT knd s.heap a es ep t ks) (hx:knd.is s.heap kx c) (cl:Calm knd A s) (hb:Hashy knd) (few:es.size < 4000)
  (qt:(∃ i,i < es.size/\ks i=kx)->Q false s)
  (qf:∀ (h':Heap) (es':Array (Int×Value)) (ep':Nat) (t':SetTable),(∀ i,i < es.size->ks i≠kx)->Heap.SameBut a s.heap h'->h'.get? a=some (SetObj es' ep' t')->Tab t' es'->es'.toList.Perm (es.toList++[(knd.hash kx,.ref c)])->Q true { s with heap:=h' }) :
  wpAny (model prog w) A (setAddHashed a (.ref c) (knd.hash kx)) Q E s:=by
 obtain ⟨N,n1,n2,n3⟩:=S.tab.first (knd.hash kx)
 have line:10000<=sizeLine:=by rw [sizeLine_eq];decide
 unfold setAddHashed setAddHashedIn
 refine wpAny_holding (wpAny_bind (wpAny_setState_of S.obj rfl S.tab.fits ?_))
 dsimp only
 rw [show byScan (.ref c) es=false from rfl]
 simp only [zb,if_false]
 refine wpAny_bind ?_
 unfold setSearch
 have lim:10 * (t.mask + 13) < 100000:=by
  rcases S.tab.mask with h | h | h | h | h | h <;> rw [h] <;> decide
 refine search hr S.obj rfl S.tab S.keys hx cl (λr h f=>?_) n2 n3 n1 (λnf=>?_) 100000 0 none (by omega) (zg _) rfl (λn' h=>absurd h (yG _))
 ·exact wpAny_pure (qt f)
 ·dsimp only
  refine wpAny_bind (wpAny_setState_of S.obj rfl S.tab.fits ?_)
  dsimp only
  have m7:7<=t.mask:=by rcases S.tab.mask with h | h | h | h | h | h <;> omega
  have lt:=S.tab.light
  have e200:SetTable.tooFull=λt=>decide (t.fill * 5 ≥ t.mask * 3):=rfl
  have tail:∀ tt,(∃ pl,tt={ (t.put (at' t.mask (knd.hash kx) N)).1 with plain:=pl })->wpAny (model prog w) A (do
    storeSet a (SetTable.insertAt es (t.put (at' t.mask (knd.hash kx) N)).2 (knd.hash kx,Value.ref c)) tt
    if (!false && tt.tooFull)=true then do
     setRelay a (SetTable.grown (es.size + 1))
     pure true
    else pure true) Q E s:=by
   rintro tt ⟨pl,rfl⟩
   obtain ⟨pt,pd,pm,ps⟩:=S.tab.put (x:=Value.ref c) n2 n3 pl
   have pp:=SetTable.insertAt_perm es (t.put (at' t.mask (knd.hash kx) N)).2 (knd.hash kx,Value.ref c)
   rw [Array.toList_push] at pp
   have sz:(SetTable.insertAt es (t.put (at' t.mask (knd.hash kx) N)).2 (knd.hash kx,Value.ref c)).size=es.size + 1:=by
    have:=pp.length_eq
    rw [Array.length_toList,zT,Array.length_toList,yZ] at this;exact this
   generalize (t.put (at' t.mask (knd.hash kx) N)).1=T1 at pt pd pm ps ⊢
   generalize SetTable.insertAt es (t.put (at' t.mask (knd.hash kx) N)).2 (knd.hash kx,Value.ref c)=es1 at pt pp sz ⊢
   have fit:({ T1 with plain:=pl }:SetTable).fits es1.size=true:=by
    unfold SetTable.fits SetTable.fill
    dsimp only
    rw [ps,pd,sz,pm]
    simp
    omega
   refine wpAny_bind (store S.obj (by omega) λh' sb go=>?_)
   have full:({ T1 with plain:=pl }:SetTable).tooFull=decide ((es.size + 1) * 5 ≥ t.mask * 3):=by
    unfold SetTable.tooFull SetTable.fill
    dsimp only
    rw [ps,pd,pm];rfl
   rw [full]
   by_cases c:(es.size + 1) * 5 ≥ t.mask * 3
   ·rw [decide_eq_true c]
    simp only [Bool.not_false,Bool.and_self,if_true]
    obtain ⟨gm,gl,gz⟩:=grown_mask S.tab.mask (by rw [Nat.add_sub_cancel];exact lt) (by omega) c (by omega)
    obtain ⟨t2,order,er,pr,T2⟩:=relaid_spec (t:={ T1 with plain:=pl }) (es:=es1) rfl gm (by rw [sz];exact gl)
    refine wpAny_bind ?_
    unfold setRelay
    refine wpAny_bind (wpAny_setState_of (s:={ s with heap:=h' }) go rfl fit ?_)
    dsimp only
    rw [if_neg (by omega)]
    refine wpAny_bind ?_
    rw [er]
    show wpAny (model prog w) A (if ((order.filterMap (es1[·]?)).size != es1.size)=true then _ else _) _ _ _
    have s2:(order.filterMap (es1[·]?)).size=es1.size:=by have:=pr.length_eq;rw [Array.length_toList,Array.length_toList] at this;exact this
    rw [if_neg (by rw [s2];simp)]
    refine wpAny_pure ?_
    dsimp only
    refine store (s:={ s with heap:=h' }) go (by rw [s2];omega) λh2 sb2 go2=>?_
    exact wpAny_pure (qf h2 _ _ _ nf (sb.trans sb2) go2 T2 (pr.trans pp))
   ·rw [decide_eq_false c]
    simp only [Bool.not_false,yr,zb,if_false]
    exact wpAny_pure (qf h' _ _ _ nf sb go (pt (by omega)) pp)
  split
  ·refine wpAny_bind (hb _ _ _ _ hx _ _ λv=>tail _ ?_)
   cases v with
   | true=>exact ⟨(t.put (at' t.mask (knd.hash kx) N)).1.plain,rfl⟩
   | false=>exact ⟨false,rfl⟩
  ·refine wpAny_bind (wpAny_pure (tail _ ⟨(t.put (at' t.mask (knd.hash kx) N)).1.plain,rfl⟩))
end
end SmSet
namespace SmSet
open PySem
section
variable {prog:Program}{w:World}{K:Type} [DecidableEq K] {knd:HeapKind prog w K}{A:Around}{E:Value->Shared->Prop}{s:Shared}{a:Addr}
end
section
variable {prog:Program}{w:World}{K:Type} [DecidableEq K] {knd:KeyKind prog w K}
theorem plain_stm {v:Value} (h:carriedByValue v=true) (n:Nat):ofAClassStatement n v=pure false:=by
 cases v with
 | ref a=>cases h
 | _=>cases n <;> rfl
theorem tup_calm {A:Around}{s:Shared}:Calm (tupleKind knd) A s:=by
 intro k b hk E Q q
 have hT:s.TypeIs (.ref b) "tuple" := IsTupleKey.typeIs hk
 obtain ⟨o,items,n,ho,hc,hd,hi⟩:=hk
 unfold ofAClassStatement
 refine wpAny_bind (wpAny_typeOf hT ?_)
 dsimp only
 rw [if_pos (by decide)]
 refine wpAny_bind (wpAny_pure ?_)
 simp only [Bool.not_true,zb,if_false]
 refine wpAny_bind (wpAny_seqItems ho hd ?_)
 dsimp only
 refine wpAny_bind ?_
 rw [<-Array.forIn_toList]
 refine wpAny_forIn_list _ (λrest r s'=>r.1=none/\s'=s/\∀ v∈rest,carriedByValue v=true) _ ?_ ?_ _ _ ⟨rfl,rfl,hi.byValue⟩
 ·rintro v rest r s' ⟨hr,rfl,hall⟩
  rw [plain_stm (hall v zf)]
  refine wpAny_bind (wpAny_pure ?_)
  simp only [zb,if_false]
  exact wpAny_pure ⟨rfl,rfl,λu hu=>hall u (zW _ hu)⟩
 ·rintro ⟨r1,r2⟩ s' ⟨hr,rfl,_⟩
  simp only at hr
  subst hr
  exact wpAny_pure q
theorem plain_hash {v:Value} (h:carriedByValue v=true) (n:Nat):∃ c,hashByValue n v=pure c:=by
 cases v with
 | ref a=>cases h
 | _=>cases n <;> exact ⟨_,rfl⟩
theorem tup_hashy:Hashy (tupleKind knd):=by
 intro A s k b hk E Q q
 have hT:s.TypeIs (.ref b) "tuple" := IsTupleKey.typeIs hk
 obtain ⟨o,items,n,ho,hc,hd,hi⟩:=hk
 unfold hashByValue
 refine wpAny_bind (wpAny_specialOf hT F.slot_tuple_hash.lookup ?_)
 dsimp only
 refine wpAny_bind (wpAny_seqItems ho hd ?_)
 dsimp only [Option.getD]
 refine wpAny_bind ?_
 rw [<-Array.forIn_toList]
 refine wpAny_forIn_list _ (λrest r s'=>r.1=none/\s'=s/\∀ v∈rest,carriedByValue v=true) _ ?_ ?_ _ _ ⟨rfl,rfl,hi.byValue⟩
 ·rintro v rest r s' ⟨hr,rfl,hall⟩
  obtain ⟨c,hc'⟩:=plain_hash (hall v zf) 7
  rw [hc']
  refine wpAny_bind (wpAny_pure ?_)
  cases c with
  | true=>
   simp only [Bool.not_true,zb,if_false]
   exact wpAny_pure ⟨rfl,rfl,λu hu=>hall u (zW _ hu)⟩
  | false=>
   simp only [Bool.not_false,if_true]
   exact wpAny_pure (wpAny_pure (q _))
 ·rintro ⟨r1,r2⟩ s' ⟨hr,rfl,_⟩
  simp only at hr
  subst hr
  exact wpAny_pure (q _)
end
end SmSet
namespace L2
open PySem PySem.Spec PyProof.Rows SmSet
def setO (P:Program) (w:World) (a:Addr) (xs:List (Addr×List Int)):HO:=.ext λh=>∃ es ep t,h.get? a=some (SetObj es ep t)/\Tab t es/\es.toList.Perm (xs.map λx=>(tupleKeyHash (mixKind P w) (x.2.map Sum.inl),Value.ref x.1))
section
variable {X:Cx}{pins:List (Addr×Obj)}{σ:St}{H:Hp}{s:Shared}{a:Addr}
theorem setO_ok {P:Program}{w:World}{H:Hp}{h:Heap}{xs:List (Addr×List Int)}{es:Array (Int×Value)}{ep:Nat}{t:SetTable} (ho:h.get? a=some (SetObj es ep t)) (T:Tab t es) (pm:es.toList.Perm (xs.map λx=>(tupleKeyHash (mixKind P w) (x.2.map Sum.inl),Value.ref x.1))) :
  ObjOk P w H h a (setO P w a xs):=⟨⟨es,ep,t,ho,T,pm⟩,⟨_,ho⟩,λh1 h2 ⟨es,ep,t,ho,T,pm⟩ k=>⟨es,ep,t,k _ ho,T,pm⟩⟩
theorem ints_key (ks:List Int):ks.map V.int=(ks.map Sum.inl).map kV:=by rw [zd];rfl
end
end L2
namespace SmSet
open PySem PySem.Spec
def Kp (h0 h:Heap):Prop:=∀ b o,h0.get? b=some o->h.get? b=some o
section
variable {prog:Program}{w:World}{K:Type} [DecidableEq K] [Inhabited K] {knd:HeapKind prog w K}
def Holds (knd:HeapKind prog w K) (h:Heap) (a:Addr) (xs:List (Addr×K)):Prop:=∃ es ep t,h.get? a=some (SetObj es ep t)/\Tab t es/\es.toList.Perm (xs.map λx=>(knd.hash x.2,Value.ref x.1))
theorem Holds.setT {h:Heap}{a:Addr}{xs:List (Addr×K)} (H:Holds knd h a xs) (hk:∀ x∈xs,knd.is h x.2 x.1):∃ es ep t ks,SetT knd h a es ep t ks/\es.toList.Perm (xs.map λx=>(knd.hash x.2,Value.ref x.1))/\es.size=xs.length/\∀ i,i < es.size->ks i∈xs.map (·.2):=by
 obtain ⟨es,ep,t,ho,T,pm⟩:=H
 have ln:es.size=xs.length:=by have:=pm.length_eq;rw [Array.length_toList,zA] at this;exact this
 have pick:∀ i,∃ x:Addr×K,i < es.size->x∈xs/\es[i]?=some (knd.hash x.2,Value.ref x.1):=λi=>by
  by_cases hi:i < es.size
  ·have:=pm.mem_iff.mp (show es[i]∈es.toList from by simp)
   obtain ⟨x,hx,e⟩:=zS.mp this
   exact ⟨x,λ_=>⟨hx,by rw [Array.getElem?_eq_getElem hi,<- e]⟩⟩
  ·exact ⟨(0,default),λz=>absurd z hi⟩
 refine ⟨es,ep,t,λi=>((pick i).choose).2,⟨ho,T,λi hi=>?_⟩,pm,ln,λi hi=>zS.mpr ⟨_,((pick i).choose_spec hi).1,rfl⟩⟩
 obtain ⟨h1,h2⟩:=(pick i).choose_spec hi
 exact ⟨_,Option.some.inj ((Array.getElem?_eq_getElem hi).symm.trans h2),hk _ h1⟩
theorem Holds.move {h h':Heap}{a:Addr}{xs:List (Addr×K)} (H:Holds knd h a xs) (k:∀ o,h.get? a=some o->h'.get? a=some o):Holds knd h' a xs:=by
 obtain ⟨es,ep,t,ho,T,pm⟩:=H
 exact ⟨es,ep,t,k _ ho,T,pm⟩
section
variable {A:Around}{R:Result->Shared->Prop}{I:Addr}{fp wr:List Addr}{G:Array GenState->Array GenState->Prop}{n:Nat}{P:Nat->Value->Prop}{St:Nat->Shared->Prop} {h0:Heap}{xs:List (Addr×K)}
theorem loop (W:WalksS prog w A.in1 I fp wr G n P St) (S:Addr) (hSf:S ∉ fp) (hr:knd.room A.in1) (cl:∀ B (s':Shared),Calm knd B s') (hb:Hashy knd) (f0:h0.get? S=none) (f1:∀ b∈wr,h0.get? b=none) (isK:∀ h h' k b,Kp h h'->knd.is h k b->knd.is h' k b)
  (hn:xs.length=n) (few:n < 4000) (nd:(xs.map (·.2)).Nodup) (hx:∀ x∈xs,knd.is h0 x.2 x.1) (hv:∀ i v,P i v->∃ x,xs[i]?=some x/\v=.ref x.1) :
  ∀ (k i:Nat) (s:Shared),n - i=k->i<=n->St i s->Kp h0 s.heap->Holds knd s.heap S (xs.take i) ->
   (∀ s',Moved (S::wr) G s s'->Holds knd s'.heap S xs->R (.ok (.ret .none)) s')->codeAny (model prog w) A (.builtin "set.update.loop" ⟨[.ref S,.ref I],[]⟩) R s:=by
 have hSw:S ∉ wr:=λh=>hSf (W.sub _ h)
 have sub:∀ b∈wr,b∈S::wr:=λb hb=>zW _ hb
 intro k
 induction k with
 | zero=>
  intro i s hk hi hst kp hS hR
  obtain rfl:i=n:=by omega
  refine codeAny_builtin PyProof.Rows.F.entry_set_update_loop ?_
  rw [Around.under_plainId PyProof.Rows.F.plain_set_update_loop _]
  show wpAny _ A.in1 (pyNext (.ref I) >>= _) _ _ s
  refine wpAny_bind (W.done s _ _ hst λs' hm=>?_)
  show wpAny _ A.in1 (ret Value.none) _ _ s'
  rw [<-hn,zY] at hS
  exact wpAny_pure (hR s' (hm.mono sub) (hS.move λo e=>hm.heap S o hSw e))
 | succ k ih=>
  intro i s hk hi hst kp hS hR
  have lt:i < n:=by omega
  refine codeAny_builtin PyProof.Rows.F.entry_set_update_loop ?_
  rw [Around.under_plainId PyProof.Rows.F.plain_set_update_loop _]
  show wpAny _ A.in1 (pyNext (.ref I) >>= _) _ _ s
  refine wpAny_bind (W.item i s _ _ lt hst λv s' hP hst' hm=>?_)
  obtain ⟨x,hxi,rfl⟩:=hv i v hP
  have kp':Kp h0 s'.heap:=λb o e=>hm.heap b o (λz=>by rw [f1 b z] at e;cases e) (kp b o e)
  have hS':Holds knd s'.heap S (xs.take i):=hS.move λo e=>hm.heap S o hSw e
  have is':∀ y∈xs,knd.is s'.heap y.2 y.1:=λy hy=>isK _ _ _ _ kp' (hx y hy)
  obtain ⟨es,ep,t,ks,T,pm,ez,mem⟩:=hS'.setT λy hy=>is' y (List.mem_of_mem_take hy)
  have hxm:=zD hxi
  show wpAny _ A.in1 (holding [Value.ref x.1] (setAdd S (.ref x.1)) >>= _) _ _ s'
  refine wpAny_bind (wpAny_holding ?_)
  unfold setAdd
  refine wpAny_holding ?_
  refine wpAny_bind (knd.pyHash hr (is' x hxm) ?_)
  refine add (s:={ s' with toks:=s'.toks + knd.draws x.2 }) hr ⟨T.obj,T.tab,T.keys⟩ (is' x hxm) (cl _ _) hb (by rw [ez,zR];omega) (λf=>?_) (λh' es' ep' t' nf sb go T' pm'=>?_)
  ·exfalso
   obtain ⟨j,hj,e⟩:=f
   have m1:=mem j hj
   rw [e,List.map_take] at m1
   obtain ⟨j',hj'⟩:=List.getElem?_of_mem m1
   rw [List.getElem?_take] at hj'
   split at hj'
   ·rename_i lt'
    have e1:(xs.map (·.2))[i]?=some x.2:=by rw [zG,hxi];rfl
    have:=(List.getElem?_inj (zK.mp hj').1 nd).mp (hj'.trans e1.symm)
    omega
   ·cases hj'
  ·have kp2:Kp h0 h':=λb o e=>by rw [sb.2 b (λz=>by rw [z,f0] at e;cases e)];exact kp' b o e
   refine wpAny_pure ⟨plainId_quiet PyProof.Rows.F.plain_set_update_loop _,ih (i + 1) _ (by omega) lt (W.frame _ s' _ _ hst' (ym _ _) λb hb' o e=>?_) kp2 ⟨es',ep',t',go,T',?_⟩ λs'' hm'' hS''=>?_⟩
   ·rw [sb.2 b (λz=>hSf (by rw [<-z];exact hb'))];exact e
   ·rw [List.take_add_one,hxi,zB]
    exact pm'.trans (pm.append_right _)
   ·refine hR s'' (Moved.trans W.gtrans ((hm.mono sub).then_heap (ym _ _) λb o hb' e=>?_) hm'') hS''
    rw [sb.2 b (λz=>hb' (by rw [z];exact zf))];exact e
end
section
variable {A:Around}{E:Value->Shared->Prop}{s:Shared}{xs:List (Addr×K)}
theorem tailOf {l:Addr}{led:Bool} (hh:A.handled=none) (hl:s.heap.IsList l (xs.map λx=>Value.ref x.1).toArray) (hl1:(s.heap.push (SetObj #[] 0 (.fresh 0 0 led))).IsList l (xs.map λx=>Value.ref x.1).toArray) (lS:l < s.heap.objs.size)
  (hr:∀ B:Around,B.units<=A.units + 8->knd.room B) (cl:∀ B (s':Shared),Calm knd B s') (hb:Hashy knd) (isK:∀ h h' k b,Kp h h'->knd.is h k b->knd.is h' k b)
  (few:xs.length < 4000) (nd:(xs.map (·.2)).Nodup) (hx:∀ x∈xs,knd.is s.heap x.2 x.1) {R:Result->Shared->Prop} (hR:∀ h' tk,Holds knd h' s.heap.objs.size xs->Kp s.heap h'->R (.ok (.ret .none)) { s with heap:=h',toks:=tk }) :
  codeAny (model prog w) A.in1.in1 (.builtin "set.update.loop" ⟨[.ref s.heap.objs.size,.ref (s.heap.push (SetObj #[] 0 (.fresh 0 0 led))).objs.size],[]⟩) R { s with heap:=(s.heap.push (SetObj #[] 0 (.fresh 0 0 led))).push { cls:=.type "list_iterator", data:=.fields #[.ref l,.int 0 0] } }:=by
 have sz:(s.heap.push (SetObj #[] 0 (.fresh 0 0 led))).objs.size=s.heap.objs.size + 1:=Heap.size_push _ _
 have out:∀ b,s.heap.objs.size<=b->s.heap.get? b=none:=λb hb=>by
  cases e:s.heap.get? b with
  | none=>rfl
  | some o=>exact absurd (Heap.lt_size e) (Nat.not_lt.mpr hb)
 have hS:(s.heap.push (SetObj #[] 0 (.fresh 0 0 led))).get? s.heap.objs.size=some (SetObj #[] 0 (.fresh 0 0 led)):=Heap.get?_push_size _ rfl
 refine loop (knd:=knd) (h0:=s.heap) (xs:=xs) ((Walks.list (by simp [hh]) _ l (by rw [sz];exact zZ (yd lS)) _).toS) s.heap.objs.size (by rw [sz];simp only [zC,zI,or_false,not_or];exact ⟨zZ (Nat.lt_succ_self _),yE lS⟩) (hr _ (by show A.units + 1 + 1 + 1<=_;omega)) cl hb (out _ (zF _)) (λb hb=>out _ (by rw [zE.mp hb,sz];omega)) isK (by simp) (by simpa using few) nd hx (λi v hv=>?_) _ 0 _ rfl (zg _) ⟨⟨_,Heap.get?_push_size _ rfl,rfl,rfl⟩,hl1.push _⟩ (λb o e=>Heap.get?_push_of_some _ (Heap.get?_push_of_some _ e)) ⟨#[],0,_,Heap.get?_push_of_some _ hS,⟨.inl rfl,rfl,.nil,rfl,(λ_ z=>nomatch z),(by show 0 * 5 < 7 * 3;decide),λi hi=>absurd hi (yG _)⟩,.nil⟩ λs' hm hS'=>?_
 ·have hv':((xs.map λx=>Value.ref x.1).toArray)[i]?=some v:=hv
  rw [List.getElem?_toArray,zG] at hv'
  cases e:xs[i]? with
  | none=>rw [e] at hv';cases hv'
  | some x=>rw [e] at hv';exact ⟨x,rfl,(Option.some.inj hv').symm⟩
 ·obtain ⟨h',g',d',tk',os'⟩:=s'
  have eg:g'=s.gens:=hm.gens
  have ed:d'=s.drawn:=hm.drawn
  have eo:os'=s.os:=hm.os
  subst eg;subst ed;subst eo
  refine hR h' tk' hS' λb o e=>hm.heap b o (λz=>?_) (Heap.get?_push_of_some _ (Heap.get?_push_of_some _ e))
  have:=Heap.lt_size e
  rw [sz] at z
  simp only [zC,zI,or_false] at z
  rcases z with rfl | rfl
  ·exact zp _ this
  ·exact zp _ (Nat.lt_of_succ_lt this)
theorem newOf {l:Addr}{Q:Value->Shared->Prop} (hh:A.handled=none) (hl:s.heap.IsList l (xs.map λx=>Value.ref x.1).toArray) (hr:∀ B:Around,B.units<=A.units + 8->knd.room B) (cl:∀ B (s':Shared),Calm knd B s') (hb:Hashy knd) (isK:∀ h h' k b,Kp h h'->knd.is h k b->knd.is h' k b)
  (few:xs.length < 4000) (nd:(xs.map (·.2)).Nodup) (hx:∀ x∈xs,knd.is s.heap x.2 x.1)
  (h:∀ (h':Heap) (tk:Nat),Holds knd h' s.heap.objs.size xs->Kp s.heap h'->Q (.ref s.heap.objs.size) { s with heap:=h',toks:=tk }) :
  wpAny (model prog w) A (call (.type "set") [.ref l]) Q E s:=by
 obtain ⟨c,tl,hmro⟩:=F.called_set.mro
 have hmade:=F.called_set.made
 have hsub:=F.called_set.sub
 refine wpAny_call (codeAny_of_tree ?_)
 show wpAny _ _ (callAny (.type "set") _) _ _ _
 refine wpAny_pure ⟨Code.quiet_builtin _ (by decide +kernel),codeAny_builtin F.entry_type_call ?_⟩
 rw [Around.under_plain (weight_type_call_type "set" [.ref l] []) rfl]
 have h1:=F.called_set.notType
 have h2:=F.called_set.canCreate
 have hct:=F.typeCall_set_1 (.ref l)
 repeat (any_goals (first | assumption | wp_step))
 refine codeAny_mono (code_set_new_1 (.ref l) (E:=E) (Q₁:=λobj s₁=>∃ led:Bool,obj=.ref s.heap.objs.size/\s₁={ s with heap:=s.heap.push (SetObj #[] 0 (.fresh 0 0 led)) }) λled=>⟨led,rfl,rfl⟩) λr s₁ hr'=>?_
 cases r with
 | error e=>exact hr'
 | ok fl=>
  cases fl with
  | ret obj=>
   obtain ⟨led,rfl,rfl⟩:=hr'
   generalize hob:SetObj #[] 0 (.fresh 0 0 led)=ob
   have hS:(s.heap.push ob).get? s.heap.objs.size=some ob:=Heap.get?_push_size _ (by rw [<-hob];rfl)
   have hT:Shared.TypeIs { s with heap:=s.heap.push ob } (.ref s.heap.objs.size) "set" := ⟨_,hS,by rw [<-hob];rfl⟩
   have hli:=F.called_set.init.lookup
   have hbi:=F.called_set.init.bind (.ref s.heap.objs.size)
   repeat (any_goals (first | assumption | wp_step))
   refine codeAny_mono (codeAny_call_builtin (R:=wants (λr s₂=>r=.none/\∃ h' tk,s₂={ s with heap:=h',toks:=tk }/\Holds knd h' s.heap.objs.size xs/\Kp s.heap h') E) F.called_set.init.plain F.entry_set_init (check_set_init_1 hT ?_)) λr₂ s₂ hr₂=>?_
   ·have hl1:(s.heap.push ob).IsList l (xs.map λx=>Value.ref x.1).toArray:=hl.push _
    have hol:=hl
    obtain ⟨⟨ocls,odict,odata,oslots⟩,hol,hcl,nl,hdl⟩:=hol
    simp only at hcl hdl
    subst hcl;subst hdl
    have lS:l < s.heap.objs.size:=Heap.lt_size hol
    have hol':(s.heap.push ob).get? l=some { cls:=.type "list", dict:=odict,data:=.seq (xs.map λx=>Value.ref x.1).toArray nl,slots:=oslots }:=Heap.get?_push_of_some _ hol
    have hsls:=F.sub_list_set
    have hslf:=F.sub_list_frozenset
    have hne:(Value.type "list" == Value.type "dict")=false:=by decide
    subst hob
    unfold SetObj at hS hT hl1 hol' ⊢
    unfold Builtin.«set.__init__» noKeywords Builtin.Frozenset.updateFrom
    generalize hPI:pyIter=PI
    wp_walk
    subst hPI
    refine wpAny_pyIter_list hl1 ?_
    refine wpAny_bind (wpAny_runValue ?_)
    refine tailOf hh hl hl1 lS hr cl hb isK few nd hx λh' tk hS' hk'=>?_
    show wpAny _ _ _ _ _ _
    refine wpAny_pure ?_
    show wpAny _ _ (ret Value.none) _ _ _
    exact wpAny_pure ⟨rfl,h',tk,rfl,hS',hk'⟩
   ·cases r₂ with
    | error e=>exact hr₂
    | ok fl₂=>
     cases fl₂ with
     | ret r=>
      obtain ⟨rfl,h',tk,rfl,hS',hk'⟩:=hr₂
      repeat (any_goals (first | assumption | wp_step))
      exact h _ _ hS' hk'
     | _=>exact hr₂.elim
  | _=>exact hr'.elim
end
end
end SmSet
namespace L2
open PySem PySem.Spec PyProof.Rows SmSet
section
variable {X:Cx}{pins:List (Addr×Obj)}{σ:St}{H:Hp}{s:Shared}{a:Addr}
def rSetOf (K:PySem.W.Frag) (P:Program) (w:World):List V->Hp->VK->Prop:=λvs H Q=>∃ l xs,vs=[.ref l]/\H l=some (.lst (xs.map λx:Addr×List Int=>V.ref x.1))/\(∀ x∈xs,H x.1=some (.tup (x.2.map V.int)))/\xs.length < 4000/\(xs.map (·.2)).Nodup/\∀ p,H p=none->Q (.ref p) (upd H p (setO P w p xs))
theorem refs_vals {xs:List (Addr×List Int)}{its:List Value} (r:Vals (xs.map λx=>V.ref x.1) its):its=xs.map λx=>Value.ref x.1:=by
 induction xs generalizing its with
 | nil=>cases r;rfl
 | cons x xs ih=>
  cases r with
  | cons r1 r2=>cases r1;rw [zz,ih r2]
theorem call_setOf (hc:X.calm=true) (hu:X.A.units + 64 < cLine):CallR X (.type "set") (rSetOf X.K X.prog X.w):=by
 intro pins s σ H xs us Q I r h
 obtain ⟨l,xs,rfl,hl,hk,few,nd,q⟩:=h
 obtain ⟨u,rfl,ru⟩:=vals1 r
 cases ru
 obtain ⟨its,r,pl,_⟩:=I.list (.inl (.inl hl))
 obtain rfl:=refs_vals r
 have inj:∀ {a b:List Int},a.map (Sum.inl:Int->Key)=b.map Sum.inl->a=b:=λ{a b} e=>List.map_inj_right (λx y z=>Sum.inl.inj z) |>.mp e
 refine newOf (knd:=tupleKind (mixKind X.prog X.w)) (xs:=xs.map λx=>(x.1,x.2.map Sum.inl)) (I.ok.hd hc) ?_ (λB hB=>?_) (λ_ _=>tup_calm) tup_hashy (λh h' k b kp hi=>?_) (by simpa using few) ?_ (λx hx=>?_) λh' tk hs kp=>?_
 ·have:=pl.isList
  rw [zd]
  exact this
 ·show B.units < cLine
  omega
 ·obtain ⟨o,items,n,ho,hcl,hd,hi⟩:=hi
  exact ⟨o,items,n,kp _ _ ho,hcl,hd,hi⟩
 ·rw [zd]
  have:(xs.map ((λx:Addr×List Key=>x.2) ∘ λx=>(x.1,x.2.map Sum.inl)))=(xs.map (·.2)).map (λx=>x.map Sum.inl):=by rw [zd];rfl
  rw [this]
  exact List.Pairwise.map _ (λa b ne e=>ne (inj e)) nd
 ·obtain ⟨y,hy,rfl⟩:=zS.mp hx
  exact key_of I.hok (by rw [hk y hy,ints_key])
 ·obtain ⟨es,ep,t,ho,T,pm⟩:=hs
  refine ⟨.ref s.heap.objs.size,_,I.laid (a:=s.heap.objs.size) (o:=setO X.prog X.w s.heap.objs.size xs) (t':=tk) kp (zF _) ?_,rfl,q _ (I.hok.fresh (zF _))⟩
  rw [zd] at pm
  exact setO_ok ho T pm
theorem call_lenS:CallR X (.builtin "len") (λvs H Q=>∃ p xs,vs=[.ref p]/\H p=some (setO X.prog X.w p xs)/\Q (.int xs.length) H):=by
 intro pins s σ H vs us Q I r h
 obtain ⟨p,xs,rfl,hp,q⟩:=h
 obtain ⟨u,rfl,ru⟩:=vals1 r
 cases ru
 obtain ⟨⟨es,ep,t,ho,T,pm⟩,_⟩:=I.hok p _ hp
 have ln:es.size=xs.length:=by have:=pm.length_eq;rw [Array.length_toList,zA] at this;exact this
 have:es.size < 2 ^ 63:=Nat.lt_of_le_of_lt T.room (by rcases T.mask with h | h | h | h | h | h <;> rw [h] <;> decide)
 refine call_len_set ho ⟨rfl,rfl,rfl⟩ rfl T.fits (by omega) ⟨.int xs.length,H,I.tok _,⟨s.toks + 1,by rw [ln]⟩,q⟩
end
end L2
namespace L2
open PySem PySem.Spec PyProof.Rows
section
variable {X:Cx}
def oV:Option Int->V
 | none=>.non
 | some i=>.int i
end
end L2
namespace Sm
open PySem L2 SmSort
theorem tyS_tup {H:Hp}{l:Addr}{xs:List V} (h:H l=some (.tup xs)):tyS H (.ref l)=some "tuple" := by simp only [tyS,h]
theorem ixN_nat {n k:Nat} (h:k < n):ixN n (k:Int)=some k:=by
 unfold ixN
 rw [if_pos (by omega),if_pos (by omega)];simp
end Sm
namespace L2
open PySem PySem.Spec PyProof.Rows
theorem pick_to {α:Type} (l:List α):∀ n,n<=l.length->(List.range n).filterMap (λk=>l[k]?)=l.take n
 | 0,_=>by simp
 | n + 1,h=>by
  have hn:n < l.length:=h
  rw [yo,List.filterMap_append,pick_to l n (by omega),List.take_add_one]
  simp [hn]
theorem fm_congr {α β:Type}{f g:α->Option β}:∀ {l:List α},(∀ x∈l,f x=g x)->l.filterMap f=l.filterMap g
 | [],_=>rfl
 | x::l,h=>by
  rw [yf,yf,h x (.head _),fm_congr λy hy=>h y (.tail _ hy)]
theorem rev_pick {α:Type} (l:List α):((List.range l.length).map λk:Nat=>((l.length:Int) - 1 + -1 * (k:Int)).toNat).filterMap (λj=>l.toArray[j]?)=l.reverse:=by
 rw [List.filterMap_map]
 have h:=pick_to l.reverse l.length (by simp)
 rw [show l.reverse.take l.length=l.reverse from by rw [<-List.length_reverse];exact zY] at h
 rw [<-h]
 refine fm_congr λk hk=>?_
 have hk':=zv.mp hk
 have e:((l.length:Int) - 1 + -1 * (k:Int)).toNat=l.length - 1 - k:=by omega
 show l.toArray[((l.length:Int) - 1 + -1 * (k:Int)).toNat]?=_
 rw [e,List.getElem?_reverse hk']
 simp
theorem slicePick_rev (its:List Value):slicePick its.toArray none none (some (-1))=its.reverse.toArray:=by
 unfold slicePick
 have e:sliceBounds none none (some (-1)) its.toArray.size=((its.length:Int) - 1,-1,-1):=by
  unfold sliceBounds
  simp
 rw [e]
 have r:sliceRange ((its.length:Int) - 1) (-1) (-1)=(List.range its.length).map λk:Nat=>((its.length:Int) - 1 + -1 * (k:Int)).toNat:=by
  unfold sliceRange
  have c:(if (-1:Int) > 0 then (if (its.length:Int) - 1 < -1 then (-1 - ((its.length:Int) - 1) + -1 - 1) / -1 else 0) else (if (its.length:Int) - 1 > -1 then ((its.length:Int) - 1 - -1 - -1 - 1) / (- -1) else 0))=(its.length:Int):=by
   rw [if_neg (by decide)]
   have e1:(- -1:Int)=1:=by decide
   rw [e1,Int.ediv_one]
   split <;> omega
  simp only [c]
  simp
 rw [r]
 exact congrArg List.toArray (rev_pick its)
section
variable {X:Cx}{e:Expr}{te:TE} {pos p2 p3 p4:Pos}{j:Nat}
def tRevL (K:PySem.W.Frag) (te:TE):TE:=fun σ H Q=>te σ H λx H1=>∃ a xs,x=.ref a/\SqL K H1 a xs/\∀ p,H1 p=none->Q (.ref p) (upd H1 p (.lst xs.reverse))
theorem pe_revL {K:PySem.W.Frag} (hK:X.K=K) (he:PE X e te):PE X (.Subscript e (.Slice none none (some (.UnaryOp .USub (.Constant (.int 1) j p4) p3)) p2) pos) (tRevL K te):=by
 subst hK
 intro pins s σ H Q I h
 refine Subscript_ (thn (he pins s σ H _ I h) λv s1 ⟨x,H1,I1,r1,q1⟩=>?_)
 have st:PO X (some (.UnaryOp .USub (.Constant (.int 1) j p4) p3)) (tPart (tUn (rU λi=>.int (-i)) (tC (.int 1)))):=po_some (pe_un un_neg yz)
 refine wpAny_Slice ?_
 rw [evalPart_none]
 refine wpAny_pure (wpAny_pure ?_)
 refine thn (st pins s1 σ H1 (λo H'=>o=some (-1)/\H'=H1) I1 ⟨1,rfl,-1,rfl,rfl,rfl⟩) λvs s3 h3=>?_
 obtain ⟨o,H',I3,ps,rfl,rfl⟩:=h3
 have I4:Inv X pins σ H' { s3 with heap:=s3.heap.push { cls:=.type "slice", data:=.fields #[.none,.none,vs] } }:=I3.kept (t':=s3.toks) λb ob q=>Heap.get?_push_of_some _ q
 obtain ⟨a,xs,rfl,hx,q⟩:=q1
 cases r1
 obtain ⟨its,r,ht,hz⟩:=I4.list hx
 have hlen:=r.length
 show wpAny (model X.prog X.w) X.A (subscriptTail e (.Slice none none (some (.UnaryOp .USub (.Constant (.int 1) j p4) p3)) p2) (.ref a) (.ref s3.heap.objs.size)) (EP X pins σ Q) X.xe { s3 with heap:=s3.heap.push { cls:=.type "slice", data:=.fields #[.none,.none,vs] } }
 refine tail_any (ops:=[.ref a,.ref s3.heap.objs.size]) ht.isList.typeIs slot_list_getitem.lookup ?_ (by with_unfolding_all rfl)
 refine wpAny_getItem_list_slice ht.isList (Heap.IsSliceOf.new ..) .none .none ps (by simp) ?_ (by rw [zO] <;> omega)
 rw [slicePick_rev]
 refine ⟨.ref _,_,I4.laid (t':=s3.toks) (o:=.lst xs.reverse) (λb ob q=>Heap.get?_push_of_some _ q) (zF _) ?_,rfl,q _ (I4.hok.fresh (zF _))⟩
 exact ⟨by rw [List.length_reverse];exact hz,_,0,r.reverse,Heap.get?_push_size _ rfl⟩
end
end L2
namespace Sm
open PySem L2 SmSort
abbrev Fn:=Nat->Option Int
def put (f:Fn) (k:Nat) (x:Option Int):Fn:=λi=>if i=k then x else f i
theorem put_same {f:Fn}{k:Nat}{x:Option Int}:put f k x k=x:=by unfold put;rw [if_pos rfl]
theorem put_ne {f:Fn}{k i:Nat}{x:Option Int} (h:i≠k):put f k x i=f i:=by unfold put;rw [if_neg h]
def lone (k:Nat) (x:Int):Fn:=λi=>if i=k then some x else none
def below (o:Option Int) (t:Int):Bool:=match o with
 | some y=>decide (y < t)
 | none=>false
theorem below_iff {o:Option Int}{t:Int}:below o t=true↔∃ y,o=some y/\y < t:=by
 cases o <;> simp [below]
def upto (o:Option Int) (t:Int):Bool:=match o with
 | some y=>decide (y<=t)
 | none=>false
structure W3 where
 g:Nat
 o:Nat
 t:Int
def two (m:M4):List W3:=[⟨m.lo.toNat,m.hi.toNat,m.t⟩,⟨m.hi.toNat,m.lo.toNat,m.t⟩]
def ways2 (ms:List M4):List W3:=ms.flatMap two
def fstep (st:Fn) (x:W3):Fn:=if st x.o=none/\below (st x.g) x.t=true then put st x.o (some x.t) else st
def fwd (ms:List M4) (st:Fn):Fn:=(ways2 ms).foldl fstep st
theorem fstep_some {st:Fn}{x:W3}{i:Nat}{y:Int} (h:st i=some y):fstep st x i=some y:=by
 unfold fstep
 split
 ·rename_i c
  by_cases e:i=x.o
  ·rw [e,c.1] at h;cases h
  ·rw [put_ne e];exact h
 ·exact h
def rep (n:Nat) (f:Fn):List (Option Int):=(List.range n).map f
end Sm
namespace L2
open PySem PySem.Spec PyProof.Rows
section
variable {n:Nat}{caps:List Nat}{g:TG}{tc:TT}{te:TE}{σ:St}{H:Hp}{Qf:Addr->Hp->List V->Prop}
theorem comp_range {lo:Int}{m:Nat} (Pv:Nat->St->List V->Hp->Prop) (h0:Pv 0 (tau0 n caps σ) [] H) (hn:m<=1000) (hl:∀ i τ acc H,Pv i τ acc H->acc.length<=i)
  (hs:∀ i τ acc H (C:St->List V->Hp->Prop),i < m->Pv i τ acc H->(∀ τ acc H,Pv (i + 1) τ acc H->C τ acc H)->g (.int (lo + i)) τ H fun τ2 H2=>tc τ2 H2 λb H3=>if b=true then te τ2 H3 λy H4=>C τ2 (acc++[y]) H4 else C τ2 acc H3)
  (hd:∀ τ acc H,Pv m τ acc H->∀ p,H p=none->Qf p H acc) :
  ∃ W:Nat->Nat->St->List V->Hp->Prop,(∃ m,W 0 m (tau0 n caps σ) [] H)/\∀ i m' τ acc H,W i m' τ acc H ->
   ((Itr lo m).stop i H/\acc.length<=sizeLine/\∀ p,H p=none->Qf p H acc) \/
   ((Itr lo m).go i H/\acc.length < sizeLine/\∀ x H',(Itr lo m).yld i H x H'->g x τ H' fun τ2 H2=>tc τ2 H2 λb H3=>if b=true then te τ2 H3 λy H4=>∃ m'',m'' < m'/\W (i + 1) m'' τ2 (acc++[y]) H4 else ∃ m'',m'' < m'/\W (i + 1) m'' τ2 acc H3):=
 comp_of (J:=Itr lo m) Pv m h0 hn hl (λi τ acc H hi p=>hi) (fun τ acc H p=>zF _)
  (λi τ acc H C hi p c x H' y=>by obtain ⟨e1,e2⟩:=y;subst e1;subst e2;exact hs i τ acc _ C hi p c) hd
end
end L2
namespace Sm
open PySem L2 SmSort
def run (ws:List W3) (st:Fn):Fn:=ws.foldl fstep st
theorem run_keep:∀ {ws:List W3}{st:Fn}{i:Nat}{y:Int},st i=some y->run ws st i=some y
 | [],_,_,_,h=>h
 | w::ws,st,i,y,h=>run_keep (ws:=ws) (fstep_some h)
theorem run_from:∀ {ws:List W3}{st:Fn}{i:Nat}{t:Int},run ws st i=some t->st i=none->∃ x∈ws,x.o=i/\x.t=t/\∃ y,run ws st x.g=some y/\y < t
 | [],st,i,t,h,h0=>by
  have:st i=some t:=h
  rw [h0] at this;cases this
 | w::ws,st,i,t,h,h0=>by
  have h':run ws (fstep st w) i=some t:=h
  cases e:fstep st w i with
  | none=>
   obtain ⟨x,hx,a,b,y,hy,lt⟩:=run_from h' e
   exact ⟨x,.tail _ hx,a,b,y,hy,lt⟩
  | some z=>
   have z':=run_keep (ws:=ws) e
   rw [h'] at z';cases z'
   unfold fstep at e
   split at e
   ·rename_i c
    by_cases io:i=w.o
    ·subst io
     rw [put_same] at e;cases e
     obtain ⟨y,hy,lt⟩:=below_iff.mp c.2
     exact ⟨w,.head _,rfl,rfl,y,run_keep (ws:=w::ws) hy,lt⟩
    ·rw [put_ne io,h0] at e;cases e
   ·rw [h0] at e;cases e
end Sm
namespace L2
open PySem PySem.Spec PyProof.Rows
section
variable {X:Cx}{pins:List (Addr×Obj)}{σ:St}{H:Hp}{s:Shared}
theorem Inv.keptAll {m:Str->Option Value}{h':Heap}{tk:Nat} (I:Inv X pins σ H s) (F0:Fr X.base X.env.locals s.heap m) (F:Fr X.base X.env.locals h' m)
  (N:News X.base X.env.locals h' (allNews X.base s.heap X.env.locals)):Inv X pins σ H { s with heap:=h',toks:=tk }:=by
 have keep:∀ b o,b≠X.env.locals->s.heap.get? b=some o->h'.get? b=some o:=λb o hb e=>by
  cases q:X.base.get? b with
  | some u=>
   have:=I.bk b u q
   rw [e] at this;cases this
   exact F.keep b _ q
  | none=>exact (N (b,o) (mem_allNews hb q e)).1
 refine I.step (g':=s.gens) (t':=tk) (d':=s.drawn) (ch:=[]) (λ_ z=>nomatch z) (λb o hb _ _ e _=>keep b o hb e) (λb o hb _ _ e _=>⟨o.slots,keep b o hb e⟩) (λb o _ e n=>n) (λb o _ e=>?_)
  (λb ys e=>e) (λb o u e=>e) (λb ps e=>⟨#[],by rw [e,Array.append_empty]⟩) (λm' hm=>?_) (λb u e=>?_) I.bare
 ·by_cases hb:b=X.env.locals
  ·obtain ⟨o',_,_,q,_⟩:=F.ns
   exact ⟨o',by rw [hb];exact q⟩
  ·exact ⟨o,keep b o hb e⟩
 ·obtain ⟨o1,es1,ep1,e1,d1,k1,f1⟩:=hm
  obtain ⟨o2,es2,ep2,e2,d2,k2,f2⟩:=F0.ns
  rw [e1] at e2;cases e2
  rw [d1] at d2;cases d2
  obtain ⟨o3,es3,ep3,e3,d3,k3,f3⟩:=F.ns
  exact ⟨o3,es3,ep3,e3,d3,k3,λname=>(f3 name).trans ((f2 name).symm.trans (f1 name))⟩
 ·refine (I.hok b u e).stay (λc v hc q=>keep c v (λz=>?_) q) (λc q=>q) λc ys q=>q
  rcases hc with rfl | hc
  ·rw [z,I.free] at e;cases e
  ·rw [z,I.free] at hc;cases hc
theorem bools_of:∀ {bs:List Bool}{us:List Value},Vals (bs.map V.bl) us->LSm.BoolsAre us bs
 | [],us,r=>by cases r;exact .nil
 | b::bs,us,r=>by
  cases r with
  | cons x y=>
   cases x
   exact .cons b (bools_of y)
theorem call_all {K:PySem.W.Frag} (hK:X.K=K) (hc:X.calm=true):CallR X (.builtin "all") (λxs H Q=>∃ p,∃ bs:List Bool,xs=[.ref p]/\SqL K H p (bs.map V.bl)/\Q (.bl (bs.all id)) H):=by
 subst hK
 intro pins s σ H xs us Q I r h
 obtain ⟨p,bs,rfl,hq,q⟩:=h
 obtain ⟨u,rfl,rx⟩:=vals1 r
 cases rx
 obtain ⟨its,r',pl,hz⟩:=I.list hq
 obtain ⟨m,F⟩:=I.fr
 exact LSm.all_bools F (news_all (g:=X.base) (h:=s.heap)) (I.ok.hd hc) pl.isList (bools_of r') λh' tk F' N'=>⟨.bl _,H,I.keptAll F F' N',rfl,q⟩
end
end L2
namespace Sm
open PySem L2 SmSort
end Sm
namespace L2
open PySem PySem.Spec PyProof.Rows
section
variable {X:Cx}
theorem op_eqNil (hu:X.A.units + 64 < cLine):OpR X (compareOp .Eq) (λx y H Q=>∃ a b xs,x=.ref a/\y=.ref b/\SqL X.K H a xs/\SqL X.K H b []/\Q (.bl xs.isEmpty) H):=by
 intro pins s σ H x y v u Q I rx ry h
 obtain ⟨a,b,xs,rfl,rfl,ha,hb,q⟩:=h
 cases rx;cases ry
 obtain ⟨its,r,p,_⟩:=I.list ha
 obtain ⟨its2,r2,p2,_⟩:=I.list hb
 cases r2
 cases r with
 | nil=>exact SeqAt.RcAt.lists (e:=λ_=>true) p.isList p2.isList rfl (by omega) (λj h1=>absurd h1 (yG _)) _ _ _ _ ⟨.bl _,H,I,rfl,q⟩
 | cons r1 rr=>exact SeqAt.RcAt.lists_lengths p.isList p2.isList (by simp) (by omega) _ _ _ _ ⟨.bl _,H,I,rfl,q⟩
end
end L2
namespace Sm
open PySem L2 SmSort
end Sm
namespace L2
open PySem PySem.Spec PyProof.Rows
def IzL (K:PySem.W.Frag) (a b:Addr):It:=
 ⟨λi H=>∃ xs ys x y,SqL K H a xs/\SqL K H b ys/\xs[i]?=some x/\ys[i]?=some y,λi H v H'=>∃ p x y,H p=none/\v=.ref p/\H'=upd H p (.tup [x,y])/\∀ xs ys,SqL K H a xs->SqL K H b ys->xs[i]?=some x/\ys[i]?=some y,
  λi H=>∃ xs ys,SqL K H a xs/\SqL K H b ys/\(xs.length<=i\/ys.length<=i)⟩
theorem turn_zipL {P:Program}{w:World}{K:PySem.W.Frag}{es:List Expr}{k:Nat}{pos:Pos} (l1 l2 z TI TO i1 i2:Addr) (ap:ZipApart z TI TO i1 i2 l1 l2) :
  Turn P w K (.Tuple es k pos) (IzL K l1 l2) [z,TI,TO,i1,i2] z (λi h=>IsZip h z TI TO .none/\IsPair h TI (.ref i1) (.ref i2)/\(∃ a b,IsPair h TO a b)/\h.IsListIter i1 l1 i/\h.IsListIter i2 l2 i) where
 mem:=by simp
 obj:=λi h st b hb=>by
  obtain ⟨hz,hTI,⟨a,c,hTO⟩,⟨o1,g1,c1,d1⟩,⟨o2,g2,c2,d2⟩⟩:=st
  simp only [zC,zI,or_false] at hb
  rcases hb with e | e | e | e | e <;> subst e
  ·exact ⟨_,hz,λv q=>nomatch q⟩
  ·exact ⟨_,hTI,λv q=>nomatch q⟩
  ·exact ⟨_,hTO,λv q=>nomatch q⟩
  ·exact ⟨o1,g1,λv q=>by rw [d1] at q;cases q⟩
  ·exact ⟨o2,g2,λv q=>by rw [d2] at q;cases q⟩
 keep:=λi h h' st q=>by
  obtain ⟨hz,hTI,⟨a,c,hTO⟩,⟨o1,g1,r1⟩,⟨o2,g2,r2⟩⟩:=st
  exact ⟨q z (by simp) _ hz,q TI (by simp) _ hTI,⟨a,c,q TO (by simp) _ hTO⟩,⟨o1,q i1 (by simp) o1 g1,r1⟩,⟨o2,q i2 (by simp) o2 g2,r2⟩⟩
 item:=by
  intro X hP hw hK hc i pins s σ H E I hf st hg
  subst hP hw hK
  obtain ⟨xs,ys,x,y,hq1,hq2,hx,hy⟩:=hg
  obtain ⟨its1,rv1,p1,hz1⟩:=I.list hq1
  obtain ⟨its2,rv2,p2,hz2⟩:=I.list hq2
  obtain ⟨u,hu,ru⟩:=rv1.get hx
  obtain ⟨v,hv,rv⟩:=rv2.get hy
  obtain ⟨hZ,hTI,⟨a0,c0,hTO⟩,hi1,hi2⟩:=st
  have fp:=λb hb=>hf b hb
  have lt:∀ b,b∈[z,TI,TO,i1,i2]->b < s.heap.objs.size:=λb hb=>by
   simp only [zC,zI,or_false] at hb
   rcases hb with e | e | e | e | e <;> subst e
   ·exact Heap.lt_size hZ
   ·exact Heap.lt_size hTI
   ·exact Heap.lt_size hTO
   ·exact let ⟨_,z,_⟩:=hi1;Heap.lt_size z
   ·exact let ⟨_,z,_⟩:=hi2;Heap.lt_size z
  refine wpAny_pyNext_zip_item ap hZ hTI hTO hi1 hi2 p1.isList p2.isList (x:=u) (y:=v) (by simpa using hu) (by simpa using hv) λh1 hZ1 hTO1 hi1' hi2' hT hsz hk=>?_
  refine ⟨_,rfl,?_⟩
  refine wpAny_letOwnedTupleGo_zip hZ1 λh2 hZ2 hs2=>?_
  have hs2':Heap.SameBut z h1 h2:=hs2
  have old2:∀ b o,b ∉ [z,TO,i1,i2]->s.heap.get? b=some o->h2.get? b=some o:=λb o hb q=>by
   simp only [zC,zI,or_false,not_or] at hb
   exact hs2'.extBut b o hb.1 (hk b o hb.1 hb.2.1 hb.2.2.1 hb.2.2.2 q)
  have hT2:h2.get? s.heap.objs.size=some { cls:=.type "tuple", data:=.seq #[u,v] }:=hs2'.extBut _ _ (yE (lt z (by simp))) hT
  have nT:H s.heap.objs.size=none:=I.hok.fresh (zF _)
  have sub:∀ b,b∈[z,TO,i1,i2]->b∈[z,TI,TO,i1,i2]:=λb hb=>by
   simp only [zC,zI,or_false] at hb ⊢
   rcases hb with e | e | e | e <;> simp [e]
  refine ⟨.ref s.heap.objs.size,upd H s.heap.objs.size (.tup [x,y]),?_,rfl,⟨_,x,y,nT,rfl,rfl,λys' zs' h1 h2=>by rw [I.list_inj h1 hq1,I.list_inj h2 hq2];exact ⟨hx,hy⟩⟩,⟨hZ2,?_,⟨u,v,?_⟩,?_,?_⟩,λb hb=>?_⟩
  ·refine Inv.step (s:=s) (h':=h2) (g':=s.gens) (d':=s.drawn) (t':=s.toks) (ch:=[z,TO,i1,i2]) I (λb hb=>?_) (λb o _ _ hb q _=>old2 b o hb q) (λb o _ _ hb q _=>⟨o.slots,old2 b o hb q⟩)
    (λb o _ q n=>by rw [xG (zZ (Heap.lt_size q))];exact n) (λb o hb q=>⟨o,old2 b o hb q⟩)
    (λb ys q=>by rw [xG (xA q nT)];exact q) (λb o v q=>by rw [xG (xA q nT)];exact q) (λb ps q=>⟨#[],by rw [xG (xA q nT),q];simp⟩)
    (λm hm=>by
     obtain ⟨o,es',ep,q,r⟩:=hm
     exact ⟨o,es',ep,old2 _ o (λhb=>(fp _ (sub _ hb)).2.1 rfl) q,r⟩) (λb v' q=>?_) I.bare
   ·obtain ⟨e0,e1,e2,e3,e4,e5⟩:=fp b (sub b hb)
    exact ⟨e3,e1,e4,e5⟩
   ·by_cases hb:b=s.heap.objs.size
    ·subst hb
     rw [yy] at q
     cases q
     exact ⟨⟨by show 2<=sizeLine;rw [sizeLine_eq];decide,λob e=>by rw [hT2] at e;cases e;rfl⟩,[u,v],.cons ru (.cons rv .nil),⟨_,hT2,rfl,_,rfl⟩⟩
    ·rw [xG hb] at q
     refine (I.hok b v' q).stay (λc ob hc qc=>old2 c ob (λhb=>?_) qc) (λc qc=>by rw [xG (xA qc nT)];exact qc) λc ys qc=>by rw [xG (xA qc nT)];exact qc
     have e0:=(fp c (sub c hb)).1
     rcases hc with z | z
     ·subst z;exact xA q e0 rfl
     ·exact xA z e0 rfl
  ·exact old2 _ _ (by simp only [zC,zI,or_false,not_or];exact ⟨ap.TIz,ap.TITO,ap.TIi1,ap.TIi2⟩) hTI
  ·exact hs2'.extBut _ _ ap.TOz hTO1
  ·obtain ⟨o,q,r⟩:=hi1'
   exact ⟨o,hs2'.extBut i1 o ap.i1z q,r⟩
  ·obtain ⟨o,q,r⟩:=hi2'
   exact ⟨o,hs2'.extBut i2 o ap.i2z q,r⟩
  ·rw [xG (zZ (lt b hb))];exact (fp b hb).1
 done:=by
  intro X hP hw hK hc i pins s σ H E I hf st hg
  subst hP hw hK
  obtain ⟨xs,ys,hq1,hq2,hx⟩:=hg
  obtain ⟨its1,rv1,p1,hz1⟩:=I.list hq1
  obtain ⟨its2,rv2,p2,hz2⟩:=I.list hq2
  obtain ⟨hZ,hTI,⟨a0,c0,hTO⟩,hi1,hi2⟩:=st
  have l1':=rv1.length
  have l2':=rv2.length
  have sub:∀ b,b∈[z,TO,i1,i2]->b∈[z,TI,TO,i1,i2]:=λb hb=>by
   simp only [zC,zI,or_false] at hb ⊢
   rcases hb with e | e | e | e <;> simp [e]
  refine wpAny_pyNext_zip_end (I.ok.hd hc) ap hZ hTI hTO hi1 hi2 p1.isList p2.isList (by
   rcases hx with h | h
   ·exact .inl (by simp;omega)
   ·exact .inr (by simp;omega)) λh' hk=>⟨rfl,?_⟩
  have old2:∀ b o,b ∉ [z,TO,i1,i2]->s.heap.get? b=some o->h'.get? b=some o:=λb o hb q=>by
   simp only [zC,zI,or_false,not_or] at hb
   exact hk b o hb.1 hb.2.1 hb.2.2.1 hb.2.2.2 q
  refine Inv.step (s:=s) (h':=h') (g':=s.gens) (d':=s.drawn) (t':=s.toks) (ch:=[z,TO,i1,i2]) I (λb hb=>?_) (λb o _ _ hb q _=>old2 b o hb q) (λb o _ _ hb q _=>⟨o.slots,old2 b o hb q⟩)
    (λb o _ q n=>n) (λb o hb q=>⟨o,old2 b o hb q⟩)
    (λb ys q=>q) (λb o v q=>q) (λb ps q=>⟨#[],by rw [q];simp⟩)
    (λm hm=>by
     obtain ⟨o,es',ep,q,r⟩:=hm
     exact ⟨o,es',ep,old2 _ o (λhb=>(hf _ (sub _ hb)).2.1 rfl) q,r⟩) (λb v' q=>?_) I.bare
  ·obtain ⟨e0,e1,e2,e3,e4,e5⟩:=hf b (sub b hb)
   exact ⟨e3,e1,e4,e5⟩
  ·refine (I.hok b v' q).stay (λc ob hc qc=>old2 c ob (λhb=>?_) qc) (λc qc=>qc) λc ys qc=>qc
   have e0:=(hf c (sub c hb)).1
   rcases hc with z | z
   ·subst z;exact xA q e0 rfl
   ·exact xA z e0 rfl
 self:=λ_ _ _ _ _ st h=>wpAny_pyIter_zip st.1 h
def iZipL (K:PySem.W.Frag) (ta:TA):TI:=fun σ H R=>ta σ H λvs H1=>∃ a b,vs=[.ref a,.ref b]/\(∃ xs,SqL K H1 a xs)/\(∃ ys,SqL K H1 b ys)/\R (IzL K a b) H1
theorem pi_zipL {X:Cx}{a b:Expr}{ta:TA} {p pos pos2:Pos}{es:List Expr}{k:Nat}{K:PySem.W.Frag} (hK:X.K=K) (hg:Gl X "zip") (hm:X.mg "zip" = none) (ha:PA X [a,b] ta)
  (hs:starEach [a,b] X.env=(false,eval a X.env)::starEach [b] X.env:=by rfl) (hs2:starEach [b] X.env=[(false,eval b X.env)]:=by rfl) :
  PI X (.Tuple es k pos2) (.Call (.Name "zip" p) [a,b] [] pos) (iZipL K ta):=by
 subst hK
 intro pins s σ H R I h
 refine Call_ (ld_blt I hg hm boot_zip (yJ (thn (ha pos pins s σ H _ I h) λus s1 ⟨vs,H1,I1,r1,q1⟩=>?_) (by rw [hs,hs2]) (by rw [hs2];rfl)))
 obtain ⟨l1,l2,e,⟨xs,hq1⟩,⟨ys,hq2⟩,q⟩:=q1
 subst e
 cases r1 with
 | cons r rr=>
  cases rr with
  | cons r' rr=>
   cases rr
   cases r
   cases r'
   obtain ⟨its1,rv1,p1,hz1⟩:=I1.list hq1
   obtain ⟨its2,rv2,p2,hz2⟩:=I1.list hq2
   have lt1:l1 < s1.heap.objs.size:=let ⟨_,z,_⟩:=p1.isList;Heap.lt_size z
   have lt2:l2 < s1.heap.objs.size:=let ⟨_,z,_⟩:=p2.isList;Heap.lt_size z
   refine call_zip_2 p1.isList p2.isList λh' hZ hTI hTO hi1 hi2 hsz hk=>?_
   refine wpAny_pyIter_zip hZ ?_
   have I2:Inv X pins σ H1 { s1 with heap:=h' }:=I1.kept (t':=s1.toks) hk
   refine ⟨s1.heap.objs.size + 4,[s1.heap.objs.size + 4,s1.heap.objs.size + 2,s1.heap.objs.size + 3,s1.heap.objs.size,s1.heap.objs.size + 1],_,_,H1,rfl,I2,turn_zipL l1 l2 _ _ _ _ _ (zipApart_new lt1 lt2),⟨hZ,hTI,⟨_,_,hTO⟩,hi1,hi2⟩,λb hb=>?_,q⟩
   have hb':s1.heap.objs.size<=b:=by
    simp only [zC,zI,or_false] at hb
    rcases hb with e | e | e | e | e <;> rw [e] <;> first | exact zF _ | exact ym _ _
   exact I1.fpOk hb' (I1.hok.fresh hb')
end L2
namespace L2
open PySem PySem.Spec PyProof.Rows
theorem for_zipL {K:PySem.W.Frag}{a b:Addr}{xs ys:List V}{g:TG}{tb:TS}{D:Ends}{σ:St}{H:Hp} (el:xs.length=ys.length) (Pv:Nat->St->Hp->Prop) (h0:Pv 0 σ H) (hl:∀ i σ H,i<=xs.length->Pv i σ H->SqL K H a xs/\SqL K H b ys)
  (hs:∀ i x y q σ H,xs[i]?=some x->ys[i]?=some y->H q=none->Pv i σ H->g (.ref q) σ (upd H q (.tup [x,y])) fun σ2 H2=>tb (D.lp (Pv (i + 1))) σ2 H2) (hd:∀ σ H,Pv xs.length σ H->D.nx σ H) :
  ∃ W:Nat->Nat->St->Hp->Prop,(∃ m,W 0 m σ H)/\∀ i m σ H,W i m σ H ->
   ((IzL K a b).stop i H/\D.nx σ H)\/((IzL K a b).go i H/\∃ N:St->Hp->Prop,(∀ σ' H',N σ' H'->∃ m',m' < m/\W (i + 1) m' σ' H')/\∀ x H',(IzL K a b).yld i H x H'->g x σ H' fun σ2 H2=>tb (D.lp N) σ2 H2):=by
 refine ⟨λi m σ H=>m=xs.length - i/\i<=xs.length/\Pv i σ H,⟨xs.length,by simp,zg _,h0⟩,?_⟩
 rintro i m σ H ⟨rfl,hi,p⟩
 obtain ⟨q1,q2⟩:=hl i σ H hi p
 by_cases hlt:i < xs.length
 ·refine .inr ⟨⟨xs,ys,xs[i],ys[i]'(by omega),q1,q2,by simp [hlt],by simp [<-el,hlt]⟩,Pv (i + 1),fun σ' H' p'=>⟨xs.length - (i + 1),by omega,rfl,hlt,p'⟩,λx H' y=>?_⟩
  obtain ⟨q',x',y',hq,e1,e2,y⟩:=y
  subst e1;subst e2
  exact hs i x' y' q' σ _ (y xs ys q1 q2).1 (y xs ys q1 q2).2 hq p
 ·have e:i=xs.length:=by omega
  subst e
  exact .inl ⟨⟨xs,ys,q1,q2,.inl (zF _)⟩,hd σ H p⟩
end L2
namespace Sm
open PySem L2 SmSort
end Sm
namespace L2
open PySem
theorem iteN {c:Bool}{A:Prop}{D:Ends}{σ:St}{H:Hp} (Pre:St->Hp->Prop) (k:∀ σ H,Pre σ H->D.nx σ H) (h1:c=true->(∀ σ H,Pre σ H->D.nx σ H)->A) (h2:c=false->Pre σ H):if c=true then A else tNext D σ H:=by
 cases c with
 | true=>exact h1 rfl k
 | false=>exact k _ _ (h2 rfl)
end L2
namespace Sm
open PySem L2 SmSort
def jstep (row F:Fn) (x:W3):Fn:=if below (row x.g) x.t=true/\upto (F x.o) x.t=false then put F x.o (some x.t) else F
def jac (ws:List W3) (row:Fn):Fn:=ws.foldl (jstep row) row
def jrow (ws:List W3) (row:Fn):Nat->Fn
 | 0=>row
 | k + 1=>jac ws (jrow ws row k)
def rk (ws:List W3):Option Int->Nat
 | none=>ws.length + 1
 | some y=>ws.countP λx=>decide (x.t < y)
end Sm
namespace Sm
open PySem L2 SmSort
structure Rows (H0 H:Hp) (ms:List M4) (n k:Nat) (x:Int) (as:List Addr):Prop where
 pos:as≠[]
 few:as.length<=200000
 at':∀ (i:Nat) (a:Addr),as[i]?=some a->H0 a=none/\H a=some (.lst ((rep n (jrow (ways2 ms) (lone k x) i)).map oV))
 ne:∀ i,i + 1 < as.length->rep n (jrow (ways2 ms) (lone k x) (i + 1))≠rep n (jrow (ways2 ms) (lone k x) i)
 last:rep n (jrow (ways2 ms) (lone k x) as.length)=rep n (jrow (ways2 ms) (lone k x) (as.length - 1))
end Sm
namespace L2
open PySem PySem.Spec PyProof.Rows
section
variable {K:PySem.W.Frag}{a:Addr}{xs:List V}{n:Nat}{caps:List Nat}{g:TG}{tc:TT}{te:TE}{σ:St}{H:Hp}{Qf:Addr->Hp->List V->Prop}
end
end L2
namespace Sm
open PySem L2 SmSort
end Sm
namespace Sm
open PySem L2 SmSort
end Sm
namespace Sm
open PySem L2
end Sm
namespace Sm
open PySem L2 SmSort
def again (ms:List M4) (day first:Int):Nat->List M4
 | 0=>[]
 | r + 1=>again ms day first r++ms.map (M4.late ((first + r) * day))
end Sm
namespace L2
open PySem PySem.Spec PyProof.Rows
section
variable {X:Cx}{pins:List (Addr×Obj)}{σ:St}{H:Hp}{s:Shared}
theorem vals_at {xs:List V}{us:List Value} (r:Vals xs us) {j:Nat} (h:j < us.toArray.size):∃ x,xs[j]?=some x/\RelV x us.toArray[j]:=by
 have hl:=r.length
 simp only [zO] at h
 have a1:j < xs.length:=by omega
 obtain ⟨u,eu,ru⟩:=r.get (i:=j) (x:=xs[j]) (by simp [a1])
 have e1:us.toArray[j]=u:=by rw [List.getElem_toArray];exact Option.some.inj ((zH h).symm.trans eu)
 exact ⟨xs[j],by simp [a1],by rw [e1];exact ru⟩
end
end L2
namespace L2
open PySem PySem.Spec PyProof.Rows
def Eqv (K:PySem.W.Frag) (H:Hp):Nat->V->V->Bool->Prop
 | 0,x,y,b=>(x=y/\(∃ a,x=.ref a)/\b=true)\/(flatV x=true/\flatV y=true/\b=eqV x y)
 | n + 1,x,y,b=>(x=y/\(∃ a,x=.ref a)/\b=true)\/(flatV x=true/\flatV y=true/\b=eqV x y)\/∃ (a c:Addr) (xs ys:List V) (e:Nat->Bool),x=.ref a/\y=.ref c/\((SqL K H a xs/\SqL K H c ys)\/(SqT K H a xs/\SqT K H c ys))/\(a=c->b=true)/\b=(decide (xs.length=ys.length) && (List.range xs.length).all e)/\∀ (i:Nat) (x y:V),xs[i]?=some x->ys[i]?=some y->Eqv K H n x y (e i)
section
variable {X:Cx}{pins:List (Addr×Obj)}{σ:St}{H:Hp}{s:Shared}
theorem eqv_eq (I:Inv X pins σ H s):∀ (n:Nat) {A:Around}{x y:V}{b:Bool}{u v:Value},A.units + n < cLine->Eqv X.K H n x y b->RelV x u->RelV y v->SeqAt.EqAt A s u v b
 | n,A,x,y,b,u,v,hu,h,ru,rv=>by
  have base1:x=y/\(∃ a,x=.ref a)/\b=true->SeqAt.EqAt A s u v b:=by
   rintro ⟨rfl,⟨a,rfl⟩,rfl⟩
   cases ru;cases rv
   exact SeqAt.EqAt.same _
  have base2:flatV x=true/\flatV y=true/\b=eqV x y->SeqAt.EqAt A s u v b:=by
   rintro ⟨h1,h2,rfl⟩
   exact eqAt_V (A:=A) (s:=s) ru rv h1 h2
  cases n with
  | zero=>exact h.elim base1 base2
  | succ n=>
   rcases h with h | h | ⟨a,c,xs,ys,e,rfl,rfl,h,hs,hb,hi⟩
   ·exact base1 h
   ·exact base2 h
   ·cases ru;cases rv
    by_cases ne:a=c
    ·rw [hs ne,ne];exact SeqAt.EqAt.same _
    refine SeqAt.EqAt.of_refs ne ?_
    rcases h with ⟨h1,h2⟩ | ⟨h1,h2⟩
    ·obtain ⟨its,r1,p1,_⟩:=I.list h1
     obtain ⟨its2,r2,p2,_⟩:=I.list h2
     have l1:=r1.length
     have l2:=r2.length
     by_cases hl:xs.length=ys.length
     ·have:=SeqAt.RcAt.lists (A:=A) (e:=e) p1.isList p2.isList (by simp;omega) (by omega) λj h1 h2=>by
       obtain ⟨x,ex,rx⟩:=vals_at r1 h1
       obtain ⟨y,ey,ry⟩:=vals_at r2 h2
       exact eqv_eq I n (by show A.units + 1 + n < cLine;omega) (hi j x y ex ey) rx ry
      rw [hb,decide_eq_true hl,yT,l1]
      simpa using this
     ·rw [hb,decide_eq_false hl,yK]
      exact SeqAt.RcAt.lists_lengths (A:=A) p1.isList p2.isList (by simp;omega) (by omega)
    ·obtain ⟨its,r1,p1,_⟩:=I.tuple h1
     obtain ⟨its2,r2,p2,_⟩:=I.tuple h2
     have l1:=r1.length
     have l2:=r2.length
     have:=SeqAt.RcAt.tuples (A:=A) (e:=e) p1 p2 (by omega) λj h1 h2=>by
      obtain ⟨x,ex,rx⟩:=vals_at r1 h1
      obtain ⟨y,ey,ry⟩:=vals_at r2 h2
      exact eqv_eq I n (by show A.units + 1 + n < cLine;omega) (hi j x y ex ey) rx ry
     by_cases hl:xs.length=ys.length
     ·rw [hb,decide_eq_true hl,yT,l1]
      have e1:its2.length=its.length:=by omega
      simpa [e1] using this
     ·rw [hb,decide_eq_false hl,yK]
      have e1:¬ its.length=its2.length:=by omega
      have e2:(its.toArray.size == its2.toArray.size)=false:=by simp [e1]
      rw [e2,yr] at this
      exact this
def rEqv (K:PySem.W.Frag) (neg:Bool):R2:=λx y H Q=>∃ (n:Nat) (a c:Addr) (xs ys:List V) (e:Nat->Bool) (b:Bool),n<=20/\x=.ref a/\y=.ref c/\((SqL K H a xs/\SqL K H c ys)\/(SqT K H a xs/\SqT K H c ys))/\b=(decide (xs.length=ys.length) && (List.range xs.length).all e)/\(∀ (i:Nat) (x y:V),xs[i]?=some x->ys[i]?=some y->Eqv K H n x y (e i))/\Q (.bl (if neg then !b else b)) H
theorem op_neE (hu:X.A.units + 64 < cLine):OpR X (compareOp .NotEq) (rEqv X.K true):=by
 intro pins s σ H x y v u Q I rx ry h
 obtain ⟨n,a,c,xs,ys,e,b,hn,rfl,rfl,h,hb,hi,q⟩:=h
 cases rx;cases ry
 rw [if_pos rfl,hb] at q
 rcases h with ⟨h1,h2⟩ | ⟨h1,h2⟩
 ·obtain ⟨its,r1,p1,_⟩:=I.list h1
  obtain ⟨its2,r2,p2,_⟩:=I.list h2
  have l1:=r1.length
  have l2:=r2.length
  by_cases hl:xs.length=ys.length
  ·rw [decide_eq_true hl,yT,l1] at q
   exact SeqAt.RcNeAt.lists (e:=e) p1.isList p2.isList (by simp;omega) (by omega) (λj h1 h2=>by
    obtain ⟨x,ex,rx⟩:=vals_at r1 h1
    obtain ⟨y,ey,ry⟩:=vals_at r2 h2
    exact eqv_eq I n (by show X.A.units + 1 + n < cLine;omega) (hi j x y ex ey) rx ry) _ _ _ _ ⟨.bl _,H,I,rfl,by simpa using q⟩
  ·rw [decide_eq_false hl,yK] at q
   exact SeqAt.RcNeAt.lists_lengths p1.isList p2.isList (by simp;omega) (by omega) _ _ _ _ ⟨.bl _,H,I,rfl,q⟩
 ·obtain ⟨its,r1,p1,_⟩:=I.tuple h1
  obtain ⟨its2,r2,p2,_⟩:=I.tuple h2
  have l1:=r1.length
  have l2:=r2.length
  have key:((List.range (min its.toArray.size its2.toArray.size)).all e && its.toArray.size == its2.toArray.size)=(decide (xs.length=ys.length) && (List.range xs.length).all e):=by
   by_cases hl:xs.length=ys.length
   ·have e1:its2.length=its.length:=by omega
    rw [decide_eq_true hl,yT,l1];simp [e1]
   ·have e1:¬ its.length=its2.length:=by omega
    rw [decide_eq_false hl,yK];simp [e1]
  rw [<-key] at q
  exact SeqAt.RcNeAt.tuples (e:=e) p1 p2 (by omega) (λj h1 h2=>by
   obtain ⟨x,ex,rx⟩:=vals_at r1 h1
   obtain ⟨y,ey,ry⟩:=vals_at r2 h2
   exact eqv_eq I n (by show X.A.units + 1 + n < cLine;omega) (hi j x y ex ey) rx ry) _ _ _ _ ⟨.bl _,H,I,rfl,q⟩
end
theorem eqV_int (x y:Int):eqV (.int x) (.int y)=decide (x=y):=rfl
end L2
namespace L2
open PySem PySem.Spec PyProof.Rows
section
variable {X:Cx}
theorem int_items:∀ {ns:List Int}{its:List Value},Vals (ns.map V.int) its->∃ xs:List (Int×Tok),its=xs.map (λp=>Value.int p.1 p.2)/\xs.map (·.1)=ns
 | [],_,r=>by cases r;exact ⟨[],rfl,rfl⟩
 | n::ns,_,r=>by
  cases r with
  | cons r1 rr=>
   obtain ⟨t,rfl⟩:=r1
   obtain ⟨xs,rfl,e⟩:=int_items rr
   exact ⟨(n,t)::xs,rfl,by rw [zz,e]⟩
end
end L2
namespace Sm
open PySem L2 SmSort
end Sm
namespace Sm
open PySem L2 SmSort
def mx:Option Int->Option Int->Option Int
 | none,b=>b
 | some a,none=>some a
 | some a,some b=>some (if b > a then b else a)
theorem ahead {n:Nat}{ms:List M4}{m:M4} (g:Good n (ms++[m])) {v:Nat}{x y:Int}{i:Nat} (hi:i≠v) (h:fwd ms (lone v x) i=some y):y<=m.t/\((i=m.lo.toNat\/i=m.hi.toNat)->y < m.t):=by
 obtain ⟨a,ha,ao,at',_⟩:=run_from (ws:=ways2 ms) h (by simp [lone,hi])
 unfold ways2 at ha
 obtain ⟨c,hc,hx⟩:=List.mem_flatMap.mp ha
 have od:=(List.pairwise_append.mp g.order).2.2 c hc m (by simp)
 obtain ⟨c1,c2,c3,_⟩:=g.each c (by simp [hc])
 obtain ⟨m1,m2,m3,_⟩:=g.each m (by simp)
 unfold two at hx
 simp only [zC,zI,or_false] at hx
 have ct:c.t=y:=by rcases hx with rfl | rfl <;> exact at'
 have ci:i=c.lo.toNat\/i=c.hi.toNat:=by
  rcases hx with rfl | rfl
  ·exact .inr ao.symm
  ·exact .inl ao.symm
 refine ⟨by rcases od with h | h <;> omega,λhm=>?_⟩
 rcases od with h | ⟨h1,h2,h3,h4,h5,h6⟩
 ·omega
 ·exfalso
  rcases ci with e | e <;> rcases hm with e' | e' <;> omega
end Sm
namespace L2
open PySem PySem.Spec PyProof.Rows
section
variable {X:Cx}{pins:List (Addr×Obj)}{σ:St}{H:Hp}{s:Shared}
theorem ps_setComp {ix:Nat}{xn:Str}{pos' spos:Pos}{own:List Str}{caps:List Nat}{elt tg iter:Expr}{ifs:List Expr}{scope:Scope}{pos:Pos}{wi:TI}{g:TG}{tc:TT}{te:TE} (hN:X.N.Nodup) (hix:X.N[ix]?=some xn) (hxl:Loc X.env.scope xn) (hc:X.calm=true) (S:CompScope own caps X.N X.env.scope scope) (hi:PI X tg iter wi)
  (hg:∀ s H fp C,PG (cxComp X own caps scope s H fp C) tg g) (ht:∀ s H fp C,PTs (cxComp X own caps scope s H fp C) ifs tc) (he:∀ s H fp C,PE (cxComp X own caps scope s H fp C) elt te)
  (hs:∀ x,foldedSetIterable iter X.env x=pure x:=by intro _;rfl) (hsw:swapsWith (.ListComp elt [⟨tg,iter,ifs,0⟩] scope pos) (some (.Name xn pos')) spos.line X.env=pure true:=by rfl)
  (hf:X.fn xn=true\/X.env.scope.names.lookup xn=some .local:=by first | exact .inl rfl | exact .inr rfl | assumption) :
  PS X (.Assign [.Name xn pos'] (.ListComp elt [⟨tg,iter,ifs,0⟩] scope pos) spos) (tAsg (tComp own.length caps wi g tc te) (gName ix)):=by
 intro pins s σ H D0 I h
 rw [exec_Assign_Name_used _ _ _ _ hsw,arm_evalThenUse_ListComp]
 suffices main:wpAny (model X.prog X.w) X.A (comprehension (.ListComp elt [⟨tg,iter,ifs,0⟩] scope pos) scope X.env (firstIterPos [⟨tg,iter,ifs,0⟩] pos) (newList []) false (eval iter X.env) (some (assign (.Name xn pos') X.env))) (λ_ s1=>SP X pins D0 .next s1) X.xe s from
  wpAny_bind (wpAny_standAt (wpAny_bind (wpAny_bind (wpAny_mono main (λ_ s1 h=>wpAny_pure (wpAny_pure h)) λ_ _ e=>e))))
 refine wpAny_comprehension_free (use:=some _) (cl:=clOf scope.names X.env []) rfl hs (closureFor_eq λy hy e=>I.ok.has y.1 (S.fr y hy e)) S.kind S.loc
  (wpAny_mono (hi pins s σ H _ I h) (λv s1 h1=>thn h1 λitv s2 h2=>?_) λ_ _ e=>e)
 obtain ⟨it,fp,tn,J,H2,e,I2,T,st2,f2,W,⟨m0,w0⟩,turn⟩:=h2
 subst e
 refine wpAny_newObj_type (wpAny_newFunctionEnv S.nocell (by intro y hy;simp at hy) (λh₁ hns₁ hsb₁=>?_) S.kind)
 dsimp only at hns₁ hsb₁ ⊢
 generalize hH2:s2.heap.push { cls:=.type "list", dict:=none,data:=.seq ([]:List Value).toArray }=G at hns₁ hsb₁ ⊢
 have hG:G.objs.size=s2.heap.objs.size + 1:=by rw [<-hH2,Heap.size_push]
 have hDC:s2.heap.objs.size≠G.objs.size:=by rw [hG];exact zZ (Nat.lt_succ_self _)
 have hCle:s2.heap.objs.size<=G.objs.size:=by rw [hG];exact Nat.le_succ _
 have below:∀ b,b < s2.heap.objs.size->b≠G.objs.size:=λb hb=>by rw [hG];exact zZ (yd hb)
 have old:∀ b o,s2.heap.get? b=some o->h₁.get? b=some o:=λb o e=>hsb₁.extBut b o (below b (Heap.lt_size e)) (Heap.get?_push_of_some _ (hH2 ▸ Heap.get?_push_of_some _ e))
 have hacc:h₁.get? s2.heap.objs.size=some { cls:=.type "list", dict:=none,data:=.seq ([]:List Value).toArray }:=hsb₁.extBut _ _ hDC (Heap.get?_push_of_some _ (hH2 ▸ Heap.get?_push_size _ rfl))
 have fl:∀ b∈fp,b < s2.heap.objs.size:=λb hb=>let ⟨o,e,_⟩:=T.obj _ _ st2 b hb;Heap.lt_size e
 have hns₁':h₁.Ns G.objs.size λ_=>none:=hns₁
 have I4:=inv_comp (tk:=s2.toks + ([]:List (Str×Value)).length) I2 S f2 fl (zF _) hCle hDC old hns₁' hacc (λv z=>nomatch z)
 have st4:tn 0 h₁:=T.keep _ _ _ st2 λb _ o e=>old b o e
 generalize hs4:({ s2 with heap:=h₁,toks:=s2.toks + ([]:List (Str×Value)).length }:Shared)=s4 at I4 ⊢
 have e4:s4.heap=h₁:=by rw [<-hs4]
 rw [<-e4] at st4
 -- the loop
 have loop:codeAny (model X.prog X.w) X.A (.compLoop (.ListComp elt [⟨tg,iter,ifs,0⟩] scope pos) 0 (.ref it) (.ref s2.heap.objs.size) (compEnvC scope (clOf scope.names X.env []) G.objs.size X.env))
   (compPost (model X.prog X.w) X.A X.xe (some (assign (.Name xn pos') X.env)) (λ_ s1=>SP X pins D0 .next s1) (.ref s2.heap.objs.size) G.objs.size) s4:=by
  let Y:=cxComp X own caps scope s2 H2 fp G.objs.size
  have stat:∀ {H':Hp}{its:List Value}{n:Nat},(∀ b∈fp,H' b=none)->∀ b∈fp,FpOk Y [(s2.heap.objs.size,({ cls:=.type "list", data:=.seq its.toArray n }:Obj))] H' b:=λ{H' its n} hn b hb=>by
   refine ⟨hn b hb,below b (fl b hb),λz=>?_,.inl hb,λx c e=>(f2 b hb).2.2.2.2.1 x c (xl e),λp hp=>?_⟩
   ·rcases zC.mp (I2.stkSub b z) with e | e
    ·exact (f2 b hb).2.1 e
    ·exact (f2 b hb).2.2.1 e
   ·have e:p=(s2.heap.objs.size,({ cls:=.type "list", data:=.seq its.toArray n }:Obj)):=by simpa using (show p∈[]++[_] from hp)
    subst e
    exact yE (fl b hb)
  refine loop_comp (λn s'=>∃ i τ acc its k H',Inv Y [(s2.heap.objs.size,({ cls:=.type "list", data:=.seq its.toArray k }:Obj))] τ H' s'/\tn i s'.heap/\(∀ b∈fp,H' b=none)/\Vals acc its/\W i n τ acc H') ?_ m0
   ⟨0,_,[],[],0,H2,I4,st4,λb hb=>(f2 b hb).1,.nil,w0⟩
  rintro n s5 ⟨i,τ,acc,its,k,H5,I5,st5,fr5,rv5,w5⟩
  rcases turn i n τ acc H5 w5 with ⟨stop,hz,q⟩ | ⟨go,hz,step⟩
  ·refine thn (T.done Y rfl rfl rfl hc i _ s5 τ H5 (λ_ _=>False) I5 (stat fr5) st5 stop) λr s6 ⟨hr,I6⟩=>?_
   subst hr
   obtain ⟨eD,nD,_,_,_⟩:=I6.pin _ (zJ _ (zE.mpr rfl))
   obtain ⟨m6,hm6,_⟩:=I6.loc
   have hC6:H5 G.objs.size=none:=I6.free
   have hok6:HOk X.prog X.w H5 s6.heap:=I6.hok
   have ub:=I6.base
   have IX:Inv X pins σ (upd H5 s2.heap.objs.size (.lst acc)) s6:=by
    refine I2.call' (ch:=fp) (s':=s6) I6.os ⟨λb o e n' hb hx=>ub.keep b o e n' hb hx,λb o e n' hb hx=>?_,λb o e n' hx=>?_,λb o e hx=>?_,λb xs e=>?_,λb o u e=>?_,λb ps e=>?_⟩
     (hok6.track nD ⟨hz,its,k,rv5,eD⟩) I6.bare λb hb=>⟨(f2 b hb).2.2.2.1,(f2 b hb).2.1,(f2 b hb).2.2.2.2.1,(f2 b hb).2.2.2.2.2⟩
    ·exact ub.slot b o e n' hb hx
    ·rw [xG (zZ (Heap.lt_size e))]
     exact ub.free b o e n' hx
    ·exact ub.there b o e hx
    ·have z:=ub.tups b xs e
     rw [xG (xA z nD)];exact z
    ·have z:=ub.frzs b o u e
     rw [xG (xA z nD)];exact z
    ·obtain ⟨more,z⟩:=ub.tbls b ps e
     exact ⟨more,by rw [xG (xA z nD)];exact z⟩
   have hCX:(upd H5 s2.heap.objs.size (.lst acc)) G.objs.size=none:=by rw [xG (Ne.symm hDC)];exact hC6
   have fC:FpOk X pins (upd H5 s2.heap.objs.size (.lst acc)) G.objs.size:=I2.fpOk hCle hCX
   obtain ⟨oC,esC,epC,gC,dC,rC⟩:=hm6
   have IP:=IX.pinned (fp:=[G.objs.size]) (λb hb=>by cases zE.mp hb;exact fC) (λb hb=>by cases zE.mp hb;exact ⟨oC,gC,λv z=>by rw [dC] at z;cases z⟩)
   refine wpAny_assign_Name (store_ok IP hN hix hxl (v:=.ref s2.heap.objs.size) rfl (λs7 I7=>?_) hf)
   have pC:=(I7.pin (G.objs.size,oC) (zJ _ (zJ _ (xy (zE.mpr rfl) gC)))).1
   refine ⟨m6,⟨oC,esC,epC,pC,dC,rC⟩,λh' hsb=>?_⟩
   have I8:Inv X pins (σ.set ix (some (.ref s2.heap.objs.size))) (upd H5 s2.heap.objs.size (.lst acc)) { s7 with heap:=h' }:=I7.unpinned.turned (t':=s7.toks) (λb o hb e=>hsb.extBut b o hb e) fC.1 fC.2.1 fC.2.2.2.1 fC.2.2.2.2.1 fC.2.2.2.2.2
   exact ⟨_,_,I8,q _ nD⟩
  ·refine thn (T.item Y rfl rfl rfl hc i _ s5 τ H5 (λ_ _=>False) I5 (stat fr5) st5 go) λr s6 ⟨u,hr,h6⟩=>?_
   subst hr
   refine thn h6 λ_ s7 ⟨x,H7,I7,r7,y7,st7,fr7⟩=>?_
   have I7':=I7.pinned (stat fr7) (T.obj _ _ st7)
   refine thn (hg s2 H2 fp G.objs.size _ s7 τ H7 x u _ I7' r7 (step x H7 y7)) λ_ s8 ⟨τ8,H8,I8,q8⟩=>?_
   refine thn (ht s2 H2 fp G.objs.size _ s8 τ8 H8 _ I8 q8) λok s9 ⟨H9,I9,q9⟩=>?_
   -- the iterator's state behind the turn
   have back:∀ {s':Shared}{τ':St}{H':Hp},Inv Y ([(s2.heap.objs.size,({ cls:=.type "list", data:=.seq its.toArray k }:Obj))]++pinsAt fp s7.heap) τ' H' s'->(tn (i + 1) s'.heap/\∀ b∈fp,H' b=none):=λ{s' τ' H'} Ib=>
    ⟨T.keep _ _ _ st7 λb hb o e=>(Ib.pin (b,o) (zJ _ (zJ _ (xy hb e)))).1,λb hb=>by
     obtain ⟨o,e,d⟩:=T.obj _ _ st7 b hb
     exact (Ib.pin (b,o) (zJ _ (zJ _ (xy hb e)))).2.1⟩
   cases ok with
   | false=>
    obtain ⟨m',hm',w'⟩:=q9
    obtain ⟨sb,fb⟩:=back I9
    exact ⟨m',hm',i + 1,τ8,acc,its,k,H9,I9.unpinned,sb,fb,rv5,w'⟩
   | true=>
    refine thn (he s2 H2 fp G.objs.size _ s9 τ8 H9 _ I9 q9) λy s10 ⟨yv,H10,I10,r10,q10⟩=>?_
    obtain ⟨m',hm',w'⟩:=q10
    obtain ⟨sb,fb⟩:=back I10
    obtain ⟨eD,nD,neD,nfD,_⟩:=I10.pin (s2.heap.objs.size,_) (zJ _ (yI _ (zE.mpr rfl)))
    have hl:acc.length=its.length:=rv5.length
    refine call_meets F.slot_list_append ⟨_,eD,rfl⟩ F.entry_list_append (F.args_list_append_2 _ _) (PySem.list_append s2.heap.objs.size its.toArray k y (by rw [zO];omega)) ⟨eD,?_⟩
    have q:=PySem.IsL.update eD (λa:Array Value=>a.push y)
    have Iu:Inv Y [] τ8 H10 s10:=I10.pins_of λp hp=>nomatch hp
    have It:=Iu.turned (t':=s10.toks) (it:=s2.heap.objs.size) (h':=s10.heap.update s2.heap.objs.size (Obj.mapSeq (λa:Array Value=>a.push y))) (λb o hb e=>(Heap.get?_update_other s10.heap _ (Ne.symm hb)).trans e) nD neD (.inr (zF _))
     (λx c e z=>by
      obtain ⟨v,ob,hob,_⟩:=I2.cell x c (xl e)
      exact absurd (Heap.lt_size hob) (by rw [z];exact zp _)) (λp hp=>nomatch hp)
    have It':=It.pins_of (pins':=[(s2.heap.objs.size,({ cls:=.type "list", data:=.seq (its++[y]).toArray (k + 1) }:Obj))]) λp hp=>by
     have e:p=_:=zE.mp hp
     subst e
     exact ⟨by simpa using q,nD,neD,nfD,λv z=>nomatch z⟩
    refine ⟨m',hm',i + 1,τ8,acc++[yv],its++[y],_,H10,It',T.keep _ _ _ sb λb hb o e=>(Heap.get?_update_other s10.heap _ (yE (fl b hb))).trans e,fb,rv5.append (.cons r10 .nil),w'⟩
 exact codeAny_compStart_list loop (T.self _ 0 s4 _ _ st4 loop)
end
end L2
namespace L2
open PySem PySem.Spec PyProof.Rows
section
variable {n:Nat}{caps:List Nat}{σ:St}{H:Hp}{g:TG}{tc:TT}{te:TE}{Qf:Addr->Hp->List V->Prop}{K:PySem.W.Frag}{a b:Addr}{xs ys:List V}
theorem comp_zipL (el:xs.length=ys.length) (Pv:Nat->St->List V->Hp->Prop) (h0:Pv 0 (tau0 n caps σ) [] H) (hn:xs.length<=1000) (hl:∀ i τ acc H,Pv i τ acc H->acc.length<=i/\SqL K H a xs/\SqL K H b ys)
  (hs:∀ i x y q τ acc H (C:St->List V->Hp->Prop),xs[i]?=some x->ys[i]?=some y->H q=none->Pv i τ acc H->(∀ τ acc H,Pv (i + 1) τ acc H->C τ acc H)->g (.ref q) τ (upd H q (.tup [x,y])) fun τ2 H2=>tc τ2 H2 λb H3=>if b=true then te τ2 H3 λy H4=>C τ2 (acc++[y]) H4 else C τ2 acc H3)
  (hd:∀ τ acc H,Pv xs.length τ acc H->∀ p,H p=none->Qf p H acc) :
  ∃ W:Nat->Nat->St->List V->Hp->Prop,(∃ m,W 0 m (tau0 n caps σ) [] H)/\∀ i m τ acc H,W i m τ acc H ->
   ((IzL K a b).stop i H/\acc.length<=sizeLine/\∀ p,H p=none->Qf p H acc) \/
   ((IzL K a b).go i H/\acc.length < sizeLine/\∀ x H',(IzL K a b).yld i H x H'->g x τ H' fun τ2 H2=>tc τ2 H2 λb H3=>if b=true then te τ2 H3 λy H4=>∃ m',m' < m/\W (i + 1) m' τ2 (acc++[y]) H4 else ∃ m',m' < m/\W (i + 1) m' τ2 acc H3):=
 comp_of (J:=IzL K a b) Pv xs.length h0 hn (λi τ acc H p=>(hl i τ acc H p).1) (λi τ acc H hi p=>⟨xs,ys,xs[i],ys[i]'(by omega),(hl i τ acc H p).2.1,(hl i τ acc H p).2.2,by simp [hi],by simp [<-el,hi]⟩) (fun τ acc H p=>⟨xs,ys,(hl _ τ acc H p).2.1,(hl _ τ acc H p).2.2,.inl (zF _)⟩)
  (λi τ acc H C hi p c x H' y=>by obtain ⟨q,x',y',hq,e1,e2,y⟩:=y;subst e1;subst e2;exact hs i x' y' q τ acc _ C (y xs ys (hl i τ acc _ p).2.1 (hl i τ acc _ p).2.2).1 (y xs ys (hl i τ acc _ p).2.1 (hl i τ acc _ p).2.2).2 hq p c) hd
end
section
variable {X:Cx}
end
end L2
namespace Sm
open PySem L2 SmSort
end Sm
namespace Sm
open PySem L2 SmSort
theorem iteO {c:Bool}{A B:Prop}{D:Ends}{σ:St}{H:Hp} (Pre:St->Hp->Prop) (k:∀ σ H,Pre σ H->D.nx σ H) (h1:c=true->(∀ σ H,Pre σ H->D.nx σ H)->A) (h2:c=false->(∀ σ H,Pre σ H->D.nx σ H)->B):if c=true then (if true=true then A else tNext D σ H) else B:=by
 cases c with
 | true=>exact h1 rfl k
 | false=>exact h2 rfl k
theorem iteA {c:Bool} {T2 A:Prop}{D:Ends}{σ:St}{H:Hp} (Pre:St->Hp->Prop) (k:∀ σ H,Pre σ H->D.nx σ H) (h1:c=true->(∀ σ H,Pre σ H->D.nx σ H)->T2) (h2:c=false->Pre σ H):if c=true then T2 else (if false=true then A else tNext D σ H):=by
 cases c with
 | true=>exact h1 rfl k
 | false=>exact k _ _ (h2 rfl)
end Sm
namespace L2
open PySem PySem.Spec PyProof.Rows
section
variable {prog:Program}{w:World}{A:Around}{E:Value->Shared->Prop}{s:Shared}
structure ZD (prog:Program) (w:World) (A:Around) (z TI TO i1 i2:Addr) (fp1 fp2:List Addr) (n:Nat) (P1 P2:Nat->Value->Prop) (S1 S2:Nat->Heap->Prop):Prop where
 d1:Draws prog w A i1 fp1 n P1 S1
 d2:Draws prog w A i2 fp2 n P2 S2
 ne:TI≠z/\TO≠z/\i1≠z/\i2≠z/\TI≠TO/\TI≠i1/\TI≠i2/\TO≠i1/\TO≠i2/\i1≠i2
 f1:z ∉ fp1/\TO ∉ fp1/\i2 ∉ fp1
 f2:z ∉ fp2/\TO ∉ fp2/\i1 ∉ fp2
variable {z TI TO i1 i2:Addr} {fp1 fp2:List Addr}{n:Nat} {P1 P2:Nat->Value->Prop} {S1 S2:Nat->Heap->Prop}
theorem keep_of {fp:List Addr}{a:Addr}{h h':Heap} (n:a ∉ fp) (x:Heap.SameBut a h h'):∀ b∈fp,∀ o,h.get? b=some o->h'.get? b=some o:=λb hb o e=>x.extBut b o (λq=>n (q ▸ hb)) e
theorem zd_item {k:Nat}{a b:Value}{Q:Value->Shared->Prop} (D:ZD prog w A z TI TO i1 i2 fp1 fp2 n P1 P2 S1 S2) (hk:k < n)
  (hz:IsZip s.heap z TI TO .none) (hTI:IsPair s.heap TI (.ref i1) (.ref i2)) (hTO:IsPair s.heap TO a b) (t1:S1 k s.heap) (t2:S2 k s.heap)
  (hQ:∀ x y h' tk,P1 k x->P2 k y->IsZip h' z TI TO (rawInt s.heap.objs.size)->IsPair h' TO x y->S1 (k + 1) h'->S2 (k + 1) h'->IsPair h' s.heap.objs.size x y->h'.objs.size=s.heap.objs.size + 1 ->
   (∀ c o,c≠z->c≠TO->c≠i1->c≠i2->s.heap.get? c=some o->h'.get? c=some o)->Q (.ref s.heap.objs.size) { s with heap:=h',toks:=tk })
  (w1:∀ b∈fp1,b < s.heap.objs.size) (w2:∀ b∈fp2,b < s.heap.objs.size) :
  wpAny (model prog w) A (Builtin.«zip.__next__» ⟨[.ref z],[]⟩) (λfin s'=>∃ v,fin=.done (.ret v)/\Q v s') E s:=by
 obtain ⟨n1,n2,n3,n4,n5,n6,n7,n8,n9,n10⟩:=D.ne
 show wpAny _ _ (field (.ref z) 2 >>= _) _ _ _
 refine wpAny_bind (wpAny_field hz rfl (x:=.bool false) rfl ?_)
 show wpAny _ _ (field (.ref z) 3 >>= _) _ _ _
 refine wpAny_bind (wpAny_field hz rfl (x:=.ref TI) rfl (wpAny_bind (wpAny_seqItems hTI rfl ?_)))
 show wpAny _ _ (Builtin.SmallTypes.ownedTupleIsFree (.ref z) >>= _) _ _ _
 refine wpAny_bind ?_
 unfold Builtin.SmallTypes.ownedTupleIsFree
 refine wpAny_bind (wpAny_field hz rfl (x:=.none) rfl (wpAny_pure ?_))
 simp only [if_true]
 refine wpAny_bind (wpAny_rule (wpAny_bind (wpAny_field hz rfl (x:=.ref TO) rfl (wpAny_bind (wpAny_setField_rec hz (by simp) λh1 hz1 e1=>wpAny_bind ?_)))))
 replace hz1:IsZip h1 z TI TO .ellipsis:=hz1
 simp only [List.zipIdx_cons,List.zipIdx_nil,List.forIn_cons,List.forIn_nil]
 refine wpAny_bind (wpAny_bind (wpAny_onRaise (show wpAny _ _ (Builtin.SmallTypes.nextOf (.ref i1) >>= _) _ _ _ from wpAny_bind (D.d1.item k _ _ _ hk (D.d1.frame _ _ _ t1 (keep_of D.f1.1 e1)) λx h2 tk2 px u1 e2=>wpAny_pure ?_))))
 have o2:IsPair h2 TO a b:=e2.extBut _ _ n8 (e1.extBut _ _ n2 hTO)
 refine wpAny_bind (wpAny_seqItems o2 rfl (wpAny_bind (wpAny_updateSeq_pair o2 λh3 o3 e3=>wpAny_bind (wpAny_letGo (wpAny_pure ?_)))))
 replace o3:IsPair h3 TO x b:=o3
 refine wpAny_bind (wpAny_bind (wpAny_onRaise (show wpAny _ _ (Builtin.SmallTypes.nextOf (.ref i2) >>= _) _ _ _ from wpAny_bind (D.d2.item k _ _ _ hk (D.d2.frame _ _ _ (D.d2.frame _ _ _ (D.d2.frame _ _ _ t2 (keep_of D.f2.1 e1)) (keep_of D.f2.2.2 e2)) (keep_of D.f2.2.1 e3)) λy h4 tk4 py u2 e4=>wpAny_pure ?_))))
 have o4:IsPair h4 TO x b:=e4.extBut _ _ n9 o3
 refine wpAny_bind (wpAny_seqItems o4 rfl (wpAny_bind (wpAny_updateSeq_pair o4 λh5 o5 e5=>wpAny_bind (wpAny_letGo (wpAny_pure (wpAny_pure ?_))))))
 replace o5:IsPair h5 TO x y:=o5
 refine wpAny_bind (wpAny_seqItems o5 rfl (wpAny_bind (wpAny_newTuple ?_)))
 have sz:h5.objs.size=s.heap.objs.size:=by rw [e5.1,e4.1,e3.1,e2.1,e1.1]
 have z5:IsZip h5 z TI TO .ellipsis:=e5.extBut _ _ n2.symm (e4.extBut _ _ n4.symm (e3.extBut _ _ n2.symm (e2.extBut _ _ n3.symm hz1)))
 have old:∀ c o,c≠z->c≠TO->c≠i1->c≠i2->s.heap.get? c=some o->h5.get? c=some o:=λc o c1 c2 c3 c4 e=>
  e5.extBut _ _ c2 (e4.extBut _ _ c4 (e3.extBut _ _ c2 (e2.extBut _ _ c3 (e1.extBut _ _ c1 e))))
 have v1:S1 (k + 1) h5:=D.d1.frame _ _ _ (D.d1.frame _ _ _ (D.d1.frame _ _ _ u1 (keep_of D.f1.2.1 e3)) (keep_of D.f1.2.2 e4)) (keep_of D.f1.2.1 e5)
 have v2:S2 (k + 1) h5:=D.d2.frame _ _ _ u2 (keep_of D.f2.2.1 e5)
 have zl:z < h5.objs.size:=Heap.lt_size z5
 show wpAny _ _ (Builtin.SmallTypes.ownedTupleHandOut (.ref z) (.ref h5.objs.size) >>= _) _ _ _
 refine wpAny_bind ?_
 unfold Builtin.SmallTypes.ownedTupleHandOut
 have z6:IsZip (h5.push { cls:=.type "tuple", data:=.seq #[x,y] }) z TI TO .ellipsis:=Heap.get?_push_of_some _ z5
 refine wpAny_bind (wpAny_setField_rec z6 (by simp) λh7 z7 e7=>?_)
 replace z7:IsZip h7 z TI TO (rawInt h5.objs.size):=z7
 refine wpAny_setField_rec z7 (by simp) λh8 z8 e8=>wpAny_pure ⟨_,rfl,?_⟩
 replace z8:IsZip h8 z TI TO (rawInt h5.objs.size):=z8
 have up:∀ c o,c≠z->h5.get? c=some o->h8.get? c=some o:=λc o c1 e=>e8.extBut _ _ c1 (e7.extBut _ _ c1 (Heap.get?_push_of_some _ e))
 have t8:IsPair h8 h5.objs.size x y:=e8.extBut _ _ (yE zl) (e7.extBut _ _ (yE zl) (Heap.get?_push_size _ rfl))
 have s8:h8.objs.size=h5.objs.size + 1:=by rw [e8.1,e7.1,Heap.size_push]
 rw [sz] at z8 t8 s8
 show Q (.ref h5.objs.size) _
 rw [sz]
 exact hQ x y h8 _ px py z8 (up _ _ n2 o5) (D.d1.frame _ _ _ v1 λb hb o e=>up b o (λq=>D.f1.1 (q ▸ hb)) e) (D.d2.frame _ _ _ v2 λb hb o e=>up b o (λq=>D.f2.1 (q ▸ hb)) e) t8 s8 λc o c1 c2 c3 c4 e=>up c o c1 (old c o c1 c2 c3 c4 e)
theorem zd_end {a b:Value}{Q:PySem.Fin->Shared->Prop} (D:ZD prog w A z TI TO i1 i2 fp1 fp2 n P1 P2 S1 S2)
  (hz:IsZip s.heap z TI TO .none) (hTI:IsPair s.heap TI (.ref i1) (.ref i2)) (hTO:IsPair s.heap TO a b) (t1:S1 n s.heap)
  (hE:∀ h' e,(∀ c o,c≠z->c≠TO->c≠i1->c≠i2->s.heap.get? c=some o->h'.get? c=some o)->(∃ o,h'.get? e=some o/\o.cls=.type "StopIteration")->E (.ref e) { s with heap:=h' }) :
  wpAny (model prog w) A (Builtin.«zip.__next__» ⟨[.ref z],[]⟩) Q E s:=by
 obtain ⟨n1,n2,n3,n4,n5,n6,n7,n8,n9,n10⟩:=D.ne
 show wpAny _ _ (field (.ref z) 2 >>= _) _ _ _
 refine wpAny_bind (wpAny_field hz rfl (x:=.bool false) rfl ?_)
 show wpAny _ _ (field (.ref z) 3 >>= _) _ _ _
 refine wpAny_bind (wpAny_field hz rfl (x:=.ref TI) rfl (wpAny_bind (wpAny_seqItems hTI rfl ?_)))
 show wpAny _ _ (Builtin.SmallTypes.ownedTupleIsFree (.ref z) >>= _) _ _ _
 refine wpAny_bind ?_
 unfold Builtin.SmallTypes.ownedTupleIsFree
 refine wpAny_bind (wpAny_field hz rfl (x:=.none) rfl (wpAny_pure ?_))
 simp only [if_true]
 refine wpAny_bind (wpAny_rule (wpAny_bind (wpAny_field hz rfl (x:=.ref TO) rfl (wpAny_bind (wpAny_setField_rec hz (by simp) λh1 hz1 e1=>wpAny_bind ?_)))))
 replace hz1:IsZip h1 z TI TO .ellipsis:=hz1
 simp only [List.zipIdx_cons,List.zipIdx_nil,List.forIn_cons,List.forIn_nil]
 refine wpAny_bind (wpAny_bind (wpAny_onRaise (show wpAny _ _ (Builtin.SmallTypes.nextOf (.ref i1) >>= _) _ _ _ from wpAny_bind (D.d1.done _ _ _ (D.d1.frame _ _ _ t1 (keep_of D.f1.1 e1)) λh2 e e2 he=>?_))))
 obtain ⟨oe,hoe,hce⟩:=he
 have z2:IsZip h2 z TI TO .ellipsis:=e2 _ _ n3.symm hz1
 have hez:e≠z:=λx=>by subst x;rw [z2] at hoe;cases hoe;simp at hce
 exact wpAny_setField_rec z2 (by simp) λh3 _ e3=>hE h3 e (λc o c1 _ c3 _ x=>e3.extBut _ _ c1 (e2 _ _ c3 (e1.extBut _ _ c1 x))) ⟨oe,e3.extBut _ _ hez hoe,hce⟩
end
end L2
namespace L2
open PySem PySem.Spec PyProof.Rows
section
variable {prog:Program}{w:World}{A:Around}{E:Value->Shared->Prop}{s:Shared}
variable {z TI TO i1 i2:Addr} {fp1 fp2:List Addr}{n:Nat} {P1 P2:Nat->Value->Prop} {S1 S2:Nat->Heap->Prop}
theorem zdn_item {k:Nat}{a b:Value}{Q:Option Value->Shared->Prop} (D:ZD prog w A.in1 z TI TO i1 i2 fp1 fp2 n P1 P2 S1 S2) (hk:k < n)
  (hz:IsZip s.heap z TI TO .none) (hTI:IsPair s.heap TI (.ref i1) (.ref i2)) (hTO:IsPair s.heap TO a b) (t1:S1 k s.heap) (t2:S2 k s.heap)
  (hQ:∀ x y h' tk,P1 k x->P2 k y->IsZip h' z TI TO (rawInt s.heap.objs.size)->IsPair h' TO x y->S1 (k + 1) h'->S2 (k + 1) h'->IsPair h' s.heap.objs.size x y->h'.objs.size=s.heap.objs.size + 1 ->
   (∀ c o,c≠z->c≠TO->c≠i1->c≠i2->s.heap.get? c=some o->h'.get? c=some o)->Q (some (.ref s.heap.objs.size)) { s with heap:=h',toks:=tk })
  (w1:∀ b∈fp1,b < s.heap.objs.size) (w2:∀ b∈fp2,b < s.heap.objs.size) :
  wpAny (model prog w) A (pyNext (.ref z)) Q E s:=by
 have hT:s.TypeIs (.ref z) "zip" := ⟨_,hz,rfl⟩
 unfold pyNext
 exact wpAny_bind (wpAny_attempt (wpAny_callSpecial?_slot (name:=Str.ofString "__next__") hT F.slot_zip_next
  (wpAny_call_entry F.slot_zip_next hT F.entry_zip_next
   (zd_item D hk hz hTI hTO t1 t2 (λx y h' tk a0 a00 a1 a2 a3 a4 a5 a6 a7=>wpAny_pure (hQ x y h' tk a0 a00 a1 a2 a3 a4 a5 a6 a7)) w1 w2) (F.args_zip_next_1 _))))
theorem zdn_end {a b:Value}{Q:Option Value->Shared->Prop} (D:ZD prog w A.in1 z TI TO i1 i2 fp1 fp2 n P1 P2 S1 S2)
  (hz:IsZip s.heap z TI TO .none) (hTI:IsPair s.heap TI (.ref i1) (.ref i2)) (hTO:IsPair s.heap TO a b) (t1:S1 n s.heap)
  (hQ:∀ h',(∀ c o,c≠z->c≠TO->c≠i1->c≠i2->s.heap.get? c=some o->h'.get? c=some o)->Q none { s with heap:=h' }):wpAny (model prog w) A (pyNext (.ref z)) Q E s:=by
 have hT:s.TypeIs (.ref z) "zip" := ⟨_,hz,rfl⟩
 unfold pyNext
 refine wpAny_bind (wpAny_attempt (wpAny_callSpecial?_slot (name:=Str.ofString "__next__") hT F.slot_zip_next
  (wpAny_call_entry F.slot_zip_next hT F.entry_zip_next (zd_end D hz hTI hTO t1 λh' e hk he=>?_) (F.args_zip_next_1 _))))
 obtain ⟨o,ho,hc⟩:=he
 exact wpAny_bind (wpAny_isInstance (T := "StopIteration") (b:=true) ⟨o,ho,hc⟩ isSubtype_stop (wpAny_pure (hQ _ hk)))
end
abbrev ZN (z TI TO i1 i2:Addr):Prop:=TI≠z/\TO≠z/\i1≠z/\i2≠z/\TI≠TO/\TI≠i1/\TI≠i2/\TO≠i1/\TO≠i2/\i1≠i2
section
variable {K:PySem.W.Frag}{a b:Addr}{xs ys:List V}{n:Nat}{caps:List Nat}{g:TG}{tc:TT}{te:TE}{σ:St}{H:Hp}{Qf:Addr->Hp->List V->Prop}
end
end L2
namespace Sm
open PySem L2 SmSort
theorem ixt {K:PySem.W.Frag}{H:Hp}{a:Addr}{xs:List V}{i:Int}{v:V}{Q:V->Prop} (h:H a=some (.tup xs)) (hi:atI xs i=some v) (q:Q v):∃ p xs' i' v',V.ref a=.ref p/\V.int i=.int i'/\SqT K H p xs'/\atI xs' i'=some v'/\Q v':=⟨a,xs,i,v,rfl,rfl,SqT.of h,hi,q⟩
theorem ixl {K:PySem.W.Frag}{H:Hp}{a:Addr}{xs:List V}{i:Int}{v:V}{Q:V->Prop} (h:H a=some (.lst xs)) (hi:atI xs i=some v) (q:Q v):∃ p xs' i' v',V.ref a=.ref p/\V.int i=.int i'/\SqL K H p xs'/\atI xs' i'=some v'/\Q v':=⟨a,xs,i,v,rfl,rfl,SqL.of h,hi,q⟩
theorem us1 {fd:FuncData}{ps:List Str}{us:List Value} (h:us.length=1) (q:∀ a,bindArgs fd ⟨[a],[]⟩=pure (ps.zip [a])):bindArgs fd ⟨us,[]⟩=pure (ps.zip us):=match us,h with | [a],_=>q a
theorem us2 {fd:FuncData}{ps:List Str}{us:List Value} (h:us.length=2) (q:∀ a b,bindArgs fd ⟨[a,b],[]⟩=pure (ps.zip [a,b])):bindArgs fd ⟨us,[]⟩=pure (ps.zip us):=match us,h with | [a,b],_=>q a b
theorem us3 {fd:FuncData}{ps:List Str}{us:List Value} (h:us.length=3) (q:∀ a b c,bindArgs fd ⟨[a,b,c],[]⟩=pure (ps.zip [a,b,c])):bindArgs fd ⟨us,[]⟩=pure (ps.zip us):=match us,h with | [a,b,c],_=>q a b c
theorem us4 {fd:FuncData}{ps:List Str}{us:List Value} (h:us.length=4) (q:∀ a b c d,bindArgs fd ⟨[a,b,c,d],[]⟩=pure (ps.zip [a,b,c,d])):bindArgs fd ⟨us,[]⟩=pure (ps.zip us):=match us,h with | [a,b,c,d],_=>q a b c d
theorem us5 {fd:FuncData}{ps:List Str}{us:List Value} (h:us.length=5) (q:∀ a b c d e,bindArgs fd ⟨[a,b,c,d,e],[]⟩=pure (ps.zip [a,b,c,d,e])):bindArgs fd ⟨us,[]⟩=pure (ps.zip us):=match us,h with | [a,b,c,d,e],_=>q a b c d e
theorem us6 {fd:FuncData}{ps:List Str}{us:List Value} (h:us.length=6) (q:∀ a b c d e f,bindArgs fd ⟨[a,b,c,d,e,f],[]⟩=pure (ps.zip [a,b,c,d,e,f])):bindArgs fd ⟨us,[]⟩=pure (ps.zip us):=match us,h with | [a,b,c,d,e,f],_=>q a b c d e f
theorem ex7 {α0 α1 α2 α3 α4 α5 α6:Type}{P:α0->α1->α2->α3->α4->α5->α6->Prop} (x0:α0) (x1:α1) (x2:α2) (x3:α3) (x4:α4) (x5:α5) (x6:α6) (h:P x0 x1 x2 x3 x4 x5 x6):∃ y0:α0,∃ y1:α1,∃ y2:α2,∃ y3:α3,∃ y4:α4,∃ y5:α5,∃ y6:α6,P y0 y1 y2 y3 y4 y5 y6:=⟨x0,x1,x2,x3,x4,x5,x6,h⟩
theorem ex8 {α0 α1 α2 α3 α4 α5 α6 α7:Type}{P:α0->α1->α2->α3->α4->α5->α6->α7->Prop} (x0:α0) (x1:α1) (x2:α2) (x3:α3) (x4:α4) (x5:α5) (x6:α6) (x7:α7) (h:P x0 x1 x2 x3 x4 x5 x6 x7):∃ y0:α0,∃ y1:α1,∃ y2:α2,∃ y3:α3,∃ y4:α4,∃ y5:α5,∃ y6:α6,∃ y7:α7,P y0 y1 y2 y3 y4 y5 y6 y7:=⟨x0,x1,x2,x3,x4,x5,x6,x7,h⟩
theorem ex11 {α0 α1 α2 α3 α4 α5 α6 α7 α8 α9 α10:Type}{P:α0->α1->α2->α3->α4->α5->α6->α7->α8->α9->α10->Prop} (x0:α0) (x1:α1) (x2:α2) (x3:α3) (x4:α4) (x5:α5) (x6:α6) (x7:α7) (x8:α8) (x9:α9) (x10:α10) (h:P x0 x1 x2 x3 x4 x5 x6 x7 x8 x9 x10):∃ y0:α0,∃ y1:α1,∃ y2:α2,∃ y3:α3,∃ y4:α4,∃ y5:α5,∃ y6:α6,∃ y7:α7,∃ y8:α8,∃ y9:α9,∃ y10:α10,P y0 y1 y2 y3 y4 y5 y6 y7 y8 y9 y10:=⟨x0,x1,x2,x3,x4,x5,x6,x7,x8,x9,x10,h⟩
theorem ex12 {α0 α1 α2 α3 α4 α5 α6 α7 α8 α9 α10 α11:Type}{P:α0->α1->α2->α3->α4->α5->α6->α7->α8->α9->α10->α11->Prop} (x0:α0) (x1:α1) (x2:α2) (x3:α3) (x4:α4) (x5:α5) (x6:α6) (x7:α7) (x8:α8) (x9:α9) (x10:α10) (x11:α11) (h:P x0 x1 x2 x3 x4 x5 x6 x7 x8 x9 x10 x11):∃ y0:α0,∃ y1:α1,∃ y2:α2,∃ y3:α3,∃ y4:α4,∃ y5:α5,∃ y6:α6,∃ y7:α7,∃ y8:α8,∃ y9:α9,∃ y10:α10,∃ y11:α11,P y0 y1 y2 y3 y4 y5 y6 y7 y8 y9 y10 y11:=⟨x0,x1,x2,x3,x4,x5,x6,x7,x8,x9,x10,x11,h⟩
theorem ex14 {α0 α1 α2 α3 α4 α5 α6 α7 α8 α9 α10 α11 α12 α13:Type}{P:α0->α1->α2->α3->α4->α5->α6->α7->α8->α9->α10->α11->α12->α13->Prop} (x0:α0) (x1:α1) (x2:α2) (x3:α3) (x4:α4) (x5:α5) (x6:α6) (x7:α7) (x8:α8) (x9:α9) (x10:α10) (x11:α11) (x12:α12) (x13:α13) (h:P x0 x1 x2 x3 x4 x5 x6 x7 x8 x9 x10 x11 x12 x13):∃ y0:α0,∃ y1:α1,∃ y2:α2,∃ y3:α3,∃ y4:α4,∃ y5:α5,∃ y6:α6,∃ y7:α7,∃ y8:α8,∃ y9:α9,∃ y10:α10,∃ y11:α11,∃ y12:α12,∃ y13:α13,P y0 y1 y2 y3 y4 y5 y6 y7 y8 y9 y10 y11 y12 y13:=⟨x0,x1,x2,x3,x4,x5,x6,x7,x8,x9,x10,x11,x12,x13,h⟩
theorem un2 {K:PySem.W.Frag}{H:Hp}{a:Addr} {v0 v1:V}{Q:V->V->Prop} (h:H a=some (.tup [v0,v1])) (q:Q v0 v1):∃ a' xs,V.ref a=.ref a'/\SqT K H a' xs/\xs.length=2/\∃ w0 r0,xs=w0::r0/\∃ w1 r1,r0=w1::r1/\r1=[]/\Q w0 w1:=⟨a,_,rfl,SqT.of h,rfl,_,_,rfl,_,_,rfl,rfl,q⟩
theorem un3 {K:PySem.W.Frag}{H:Hp}{a:Addr} {v0 v1 v2:V}{Q:V->V->V->Prop} (h:H a=some (.tup [v0,v1,v2])) (q:Q v0 v1 v2):∃ a' xs,V.ref a=.ref a'/\SqT K H a' xs/\xs.length=3/\∃ w0 r0,xs=w0::r0/\∃ w1 r1,r0=w1::r1/\∃ w2 r2,r1=w2::r2/\r2=[]/\Q w0 w1 w2:=⟨a,_,rfl,SqT.of h,rfl,_,_,rfl,_,_,rfl,_,_,rfl,rfl,q⟩
theorem un4 {K:PySem.W.Frag}{H:Hp}{a:Addr} {v0 v1 v2 v3:V}{Q:V->V->V->V->Prop} (h:H a=some (.tup [v0,v1,v2,v3])) (q:Q v0 v1 v2 v3):∃ a' xs,V.ref a=.ref a'/\SqT K H a' xs/\xs.length=4/\∃ w0 r0,xs=w0::r0/\∃ w1 r1,r0=w1::r1/\∃ w2 r2,r1=w2::r2/\∃ w3 r3,r2=w3::r3/\r3=[]/\Q w0 w1 w2 w3:=⟨a,_,rfl,SqT.of h,rfl,_,_,rfl,_,_,rfl,_,_,rfl,_,_,rfl,rfl,q⟩
theorem zr {α:Sort _}{A Q:α->Prop}{x:α} (a:A x) (q:Q x):∃ y,A y/\Q y:=⟨x,a,q⟩
theorem zr1 {α β:Sort _}{A Q:α->β->Prop}{x:α}{y:β} (a:A x y) (q:Q x y):∃ x y,A x y/\Q x y:=⟨x,y,a,q⟩
theorem zr2 {α β:Sort _}{A B Q:α->β->Prop}{x:α}{y:β} (a:A x y) (b:B x y) (q:Q x y):∃ x y,A x y/\B x y/\Q x y:=⟨x,y,a,b,q⟩
end Sm
namespace Sm
open PySem L2 SmSort
def whenOf (ms:List M4) (j:Int):Int:=((ms[j.toNat]?).map (·.t)).getD 0
def whens (ms:List M4) (k:Nat):List Int:=(numsTo ms k ms.length).map (whenOf ms)
section
variable {n k w:Nat}{ms:List M4}{day:Int}
end
theorem iteE {c:Bool} {t1 t2:TS}{D:Ends}{σ:St}{H:Hp} (Pre:St->Hp->Prop) (k:∀ σ H,Pre σ H->D.nx σ H) (h1:c=true->(∀ σ H,Pre σ H->D.nx σ H)->t1 D σ H) (h2:c=false->(∀ σ H,Pre σ H->D.nx σ H)->t2 D σ H):if c=true then t1 D σ H else t2 D σ H:=by
 cases c with
 | true=>exact h1 rfl k
 | false=>exact h2 rfl k
def nextOf (ts:List (Int×Int)) (b:Int) (k:Nat):Int:=match ts[k + 1]? with
 | some q=>q.1
 | none=>b
end Sm
namespace Sm
open PySem L2 SmSort
theorem map_some {α β:Type}{f:α->β}{o o':Option α}{a:α} (e:o.map f=o'.map f) (h:o'=some a):∃ b,o=some b/\f b=f a:=by
 subst h
 cases o with
 | none=>cases e
 | some b=>exact ⟨b,rfl,Option.some.inj e⟩
end Sm
namespace Sm
open PySem L2 SmSort
open Classical in
theorem eqv_lst {K:PySem.W.Frag}{H:Hp}{n:Nat}{a c:Addr}{xs ys:List V} (ha:H a=some (.lst xs)) (hc:H c=some (.lst ys)) (l:xs.length=ys.length) (h:∀ (i:Nat) (x y:V),xs[i]?=some x->ys[i]?=some y->Eqv K H n x y true):Eqv K H (n + 1) (.ref a) (.ref c) true:=
 .inr (.inr ⟨a,c,xs,ys,λ_=>true,rfl,rfl,.inl ⟨SqL.of ha,SqL.of hc⟩,λ_=>rfl,by simp [l],h⟩)
theorem eqv_tup {K:PySem.W.Frag}{H:Hp}{n:Nat}{a c:Addr}{xs ys:List V} (ha:H a=some (.tup xs)) (hc:H c=some (.tup ys)) (l:xs.length=ys.length) (h:∀ (i:Nat) (x y:V),xs[i]?=some x->ys[i]?=some y->Eqv K H n x y true):Eqv K H (n + 1) (.ref a) (.ref c) true:=
 .inr (.inr ⟨a,c,xs,ys,λ_=>true,rfl,rfl,.inr ⟨SqT.of ha,SqT.of hc⟩,λ_=>rfl,by simp [l],h⟩)
theorem eqv_flat {K:PySem.W.Frag}{H:Hp}{n:Nat}{x:V} (f:flatV x=true) (e:eqV x x=true):Eqv K H n x x true:=by
 cases n with
 | zero=>exact .inr ⟨f,f,e.symm⟩
 | succ n=>exact .inr (.inl ⟨f,f,e.symm⟩)
theorem eqv_int {K:PySem.W.Frag}{H:Hp}{n:Nat} (i:Int):Eqv K H n (.int i) (.int i) true:=eqv_flat rfl (by rw [eqV_int];exact decide_eq_true rfl)
theorem eqv_same {K:PySem.W.Frag}{H:Hp}{n:Nat} (a:Addr):Eqv K H n (.ref a) (.ref a) true:=by
 cases n with
 | zero=>exact .inl ⟨rfl,⟨_,rfl⟩,rfl⟩
 | succ n=>exact .inl ⟨rfl,⟨_,rfl⟩,rfl⟩
theorem eqv_ints {K:PySem.W.Frag}{H:Hp}{n:Nat} (ns:List Int) (i:Nat) (x y:V) (hx:(ns.map V.int)[i]?=some x) (hy:(ns.map V.int)[i]?=some y):Eqv K H n x y true:=by
 rw [hx] at hy;cases hy
 obtain ⟨r,_,rfl⟩:=xU hx
 exact eqv_int r
end Sm
namespace L2
open PySem PySem.Spec PyProof.Rows
section
variable {X:Cx}
theorem call_sumL (hc:X.calm=true):CallR X (.builtin "sum") (λxs H Q=>∃ p ns,xs=[.ref p]/\SqL X.K H p (List.map V.int ns)/\Q (.int ns.sum) H):=by
 intro pins s σ H xs us Q I r h
 obtain ⟨p,ns,rfl,hp,q⟩:=h
 obtain ⟨u,rfl,ru⟩:=vals1 r
 cases ru
 obtain ⟨its,r,pl,_⟩:=I.list hp
 obtain ⟨ys,rfl,e⟩:=int_items r
 have hl:ys.length=ns.length:=by rw [<-e,zA]
 have li:s.heap.IsList p (intItems ys.toArray):=by
  have:=pl.isList
  unfold intItems
  rw [List.map_toArray]
  exact this
 refine sum_intListG (I.ok.hd hc) li λh' tk t' k=>?_
 have nat':∀ j (h:j < ns.length),numAt ys.toArray j=ns[j]:=λj h=>by
  rw [numAt_eq]
  simp [e,h]
 have sz:ys.toArray.size=ns.length:=by simp [hl]
 have ps:∀ n,n<=ns.length->preSum (numAt ys.toArray) n=(ns.take n).sum:=by
  intro n
  induction n with
  | zero=>intro _;rfl
  | succ n ih=>
   intro hn
   show preSum (numAt ys.toArray) n + numAt ys.toArray n=_
   rw [ih (by omega),nat' n (by omega),List.take_succ_eq_append_getElem (by omega),zu]
   show _ + ns[n]=_ + (ns[n] + 0)
   omega
 rw [sz,ps _ (zF _),zY]
 exact ⟨.int _,H,I.kept k,⟨_,rfl⟩,q⟩
end
end L2
namespace Sm
open PySem L2 SmSort
section
variable {rooms:List Int}{ms:List M4}{ls:List (Addr×L4)}{d:RuleD}{m j:Nat}{s:RS}{M:M4}{L:Addr×L4}
end
section
variable {CA CH:Addr}{H:Hp}{r:Addr}{σ:St}{i:Nat}{Q:VK} {E2:XK}{d:RuleD}
end
end Sm
namespace L2
open PySem PySem.Spec PyProof.Rows
theorem zipM_new (l1 l2:Addr) (xs ys:Array Value) :
  Meets (Builtin.«zip.__new__» ⟨[.type "zip", .ref l1,.ref l2],[]⟩) (λ_ R s=>s.heap.IsList l1 xs/\s.heap.IsTuple l2 ys /\
   ∀ h':Heap,IsZip h' (s.heap.objs.size + 4) (s.heap.objs.size + 2) (s.heap.objs.size + 3) .none->IsPair h' (s.heap.objs.size + 2) (.ref s.heap.objs.size) (.ref (s.heap.objs.size + 1)) ->
   IsPair h' (s.heap.objs.size + 3) .none .none->h'.IsListIter s.heap.objs.size l1 0->h'.IsTupleIter (s.heap.objs.size + 1) l2 0 -> 
   (∀ c o,s.heap.get? c=some o->h'.get? c=some o)->R (.ok (.ret (.ref (s.heap.objs.size + 4)))) { s with heap:=h' }):=
 .of_wp λprog w A R s h=>by
  obtain ⟨hp,g,d,tk,os⟩:=s;obtain ⟨hl1,hl2,h⟩:=h
  have hsub:=sub_zip
  have hL1:Heap.IsList (Shared.heap ⟨hp,g,d,tk,os⟩) l1 xs:=hl1
  have hL2:Heap.IsTuple (Shared.heap ⟨hp.push { cls:=.type "list_iterator", data:=.fields #[.ref l1,.int 0 0] },g,d,tk,os⟩) l2 ys:=let ⟨o,e,r⟩:=hl2;⟨o,Heap.get?_push_of_some _ e,r⟩
  wp_walk using wpAny_pyIter_list hL1,wpAny_pyIter_tuple hL2
  refine ⟨_,rfl,?_⟩
  have sp:∀ (h:Heap) (o:Obj),(h.push o).objs.size=h.objs.size + 1:=λh o=>Heap.size_push ..
  have h':=h (((((hp.push { cls:=.type "list_iterator", data:=.fields #[.ref l1,.int 0 0] }).push { cls:=.type "tuple_iterator", data:=.fields #[.ref l2,.int 0 0] }).push { cls:=.type "tuple", data:=.seq #[.ref hp.objs.size,.ref (hp.objs.size + 1)] }).push { cls:=.type "tuple", data:=.seq #[.none,.none] }).push { cls:=.type "zip", data:=.fields #[.none,.bool false,.bool false,.ref (hp.objs.size + 2),.ref (hp.objs.size + 3)] })
   (by show Heap.get? _ (hp.objs.size + 4)=_;rw [show hp.objs.size + 4=((((hp.push { cls:=.type "list_iterator", data:=.fields #[.ref l1,.int 0 0] }).push { cls:=.type "tuple_iterator", data:=.fields #[.ref l2,.int 0 0] }).push { cls:=.type "tuple", data:=.seq #[.ref hp.objs.size,.ref (hp.objs.size + 1)] }).push { cls:=.type "tuple", data:=.seq #[.none,.none] }).objs.size from by simp only [sp]];exact Heap.get?_push_size _ rfl)
   (by
    refine Heap.get?_push_of_some _ (Heap.get?_push_of_some _ ?_)
    show Heap.get? _ (hp.objs.size + 2)=_
    rw [show hp.objs.size + 2=((hp.push { cls:=.type "list_iterator", data:=.fields #[.ref l1,.int 0 0] }).push { cls:=.type "tuple_iterator", data:=.fields #[.ref l2,.int 0 0] }).objs.size from by simp only [sp]];exact Heap.get?_push_size _ rfl)
   (by
    refine Heap.get?_push_of_some _ ?_
    show Heap.get? _ (hp.objs.size + 3)=_
    rw [show hp.objs.size + 3=(((hp.push { cls:=.type "list_iterator", data:=.fields #[.ref l1,.int 0 0] }).push { cls:=.type "tuple_iterator", data:=.fields #[.ref l2,.int 0 0] }).push { cls:=.type "tuple", data:=.seq #[.ref hp.objs.size,.ref (hp.objs.size + 1)] }).objs.size from by simp only [sp]];exact Heap.get?_push_size _ rfl)
   ⟨_,Heap.get?_push_of_some _ (Heap.get?_push_of_some _ (Heap.get?_push_of_some _ (Heap.get?_push_of_some _ (Heap.get?_push_size _ rfl)))),rfl,rfl⟩
   ⟨{ cls:=.type "tuple_iterator", data:=.fields #[.ref l2,.int 0 0] },(by
    refine Heap.get?_push_of_some _ (Heap.get?_push_of_some _ (Heap.get?_push_of_some _ ?_))
    show Heap.get? _ (hp.objs.size + 1)=_
    rw [show hp.objs.size + 1=(hp.push { cls:=.type "list_iterator", data:=.fields #[.ref l1,.int 0 0] }).objs.size from by simp only [sp]];exact Heap.get?_push_size _ rfl),rfl,rfl⟩
   (λc o x=>Heap.get?_push_of_some _ (Heap.get?_push_of_some _ (Heap.get?_push_of_some _ (Heap.get?_push_of_some _ (Heap.get?_push_of_some _ x)))))
  simp only [sp] at h' ⊢
  exact h'
end L2
namespace L2
open PySem PySem.Spec PyProof.Rows
section
variable {prog:Program}{w:World}{A:Around}{E:Value->Shared->Prop}{s:Shared}
variable {z TI TO i1 i2:Addr} {fp1 fp2:List Addr}{n:Nat} {P1 P2:Nat->Value->Prop} {S1 S2:Nat->Heap->Prop}
theorem ZD.mix {l1 l2:Addr} (hh:A.handled=none) (ne:TI≠z/\TO≠z/\i1≠z/\i2≠z/\TI≠TO/\TI≠i1/\TI≠i2/\TO≠i1/\TO≠i2/\i1≠i2) (a1:∀ x∈[z,TO,i1,i2],l1≠x) (a2:∀ x∈[z,TO,i1,i2],l2≠x) {xs ys:Array Value} (hs:ys.size=xs.size) :
  ZD prog w A z TI TO i1 i2 [i1,l1] [i2,l2] xs.size (λi v=>xs[i]?=some v) (λi v=>ys[i]?=some v) (λi h=>h.IsListIter i1 l1 i/\h.IsList l1 xs) (λi h=>h.IsTupleIter i2 l2 i/\h.IsTuple l2 ys) where
 d1:=Draws.list hh i1 l1 (a1 _ (by simp)) xs
 d2:=hs ▸ drawsT hh i2 l2 (a2 _ (by simp)) ys
 ne:=ne
 f1:=by
  obtain ⟨n1,n2,n3,n4,n5,n6,n7,n8,n9,n10⟩:=ne
  have b1:=a1 z (by simp);have b2:=a1 TO (by simp);have b3:=a1 i2 (by simp)
  simp only [zC,zI,or_false,not_or]
  exact ⟨⟨n3.symm,b1.symm⟩,⟨n8,b2.symm⟩,n10.symm,b3.symm⟩
 f2:=by
  obtain ⟨n1,n2,n3,n4,n5,n6,n7,n8,n9,n10⟩:=ne
  have b1:=a2 z (by simp);have b2:=a2 TO (by simp);have b3:=a2 i1 (by simp)
  simp only [zC,zI,or_false,not_or]
  exact ⟨⟨n4.symm,b1.symm⟩,⟨n9,b2.symm⟩,n10,b3.symm⟩
end
def IzM (K:PySem.W.Frag) (a b:Addr):It:=
 ⟨λi H=>∃ xs ys x y,SqL K H a xs/\SqT K H b ys/\xs.length=ys.length/\xs[i]?=some x/\ys[i]?=some y,λi H v H'=>∃ p x y,H p=none/\v=.ref p/\H'=upd H p (.tup [x,y])/\∀ xs ys,SqL K H a xs->SqT K H b ys->xs[i]?=some x/\ys[i]?=some y,
  λi H=>∃ xs ys,SqL K H a xs/\SqT K H b ys/\xs.length=ys.length/\xs.length=i⟩
theorem turn_zipM {P:Program}{w:World}{K:PySem.W.Frag}{es:List Expr}{k:Nat}{pos:Pos} (l1 l2 z TI TO i1 i2:Addr) (ap:ZN z TI TO i1 i2) (a1:∀ x∈[z,TO,i1,i2],l1≠x) (a2:∀ x∈[z,TO,i1,i2],l2≠x) :
  Turn P w K (.Tuple es k pos) (IzM K l1 l2) [z,TI,TO,i1,i2] z (λi h=>IsZip h z TI TO .none/\IsPair h TI (.ref i1) (.ref i2)/\(∃ a b,IsPair h TO a b)/\h.IsListIter i1 l1 i/\h.IsTupleIter i2 l2 i) where
 mem:=by simp
 obj:=λi h st b hb=>by
  obtain ⟨hz,hTI,⟨a,c,hTO⟩,⟨o1,g1,c1,d1⟩,⟨o2,g2,c2,d2⟩⟩:=st
  simp only [zC,zI,or_false] at hb
  rcases hb with e | e | e | e | e <;> subst e
  ·exact ⟨_,hz,λv q=>nomatch q⟩
  ·exact ⟨_,hTI,λv q=>nomatch q⟩
  ·exact ⟨_,hTO,λv q=>nomatch q⟩
  ·exact ⟨o1,g1,λv q=>by rw [d1] at q;cases q⟩
  ·exact ⟨o2,g2,λv q=>by rw [d2] at q;cases q⟩
 keep:=λi h h' st q=>by
  obtain ⟨hz,hTI,⟨a,c,hTO⟩,⟨o1,g1,r1⟩,⟨o2,g2,r2⟩⟩:=st
  exact ⟨q z (by simp) _ hz,q TI (by simp) _ hTI,⟨a,c,q TO (by simp) _ hTO⟩,⟨o1,q i1 (by simp) o1 g1,r1⟩,⟨o2,q i2 (by simp) o2 g2,r2⟩⟩
 item:=by
  intro X hP hw hK hc i pins s σ H E I hf st hg
  subst hP hw hK
  obtain ⟨xs,ys,x,y,hq1,hq2,el,hx,hy⟩:=hg
  obtain ⟨its1,rv1,p1,hz1⟩:=I.list hq1
  obtain ⟨its2,rv2,p2,hz2⟩:=I.tuple hq2
  obtain ⟨u,hu,ru⟩:=rv1.get hx
  obtain ⟨v,hv,rv⟩:=rv2.get hy
  obtain ⟨hZ,hTI,⟨a0,c0,hTO⟩,hi1,hi2⟩:=st
  have t1:s.heap.IsList l1 its1.toArray:=p1.isList
  have t2:s.heap.IsTuple l2 its2.toArray:=p2
  have fp:=λb hb=>hf b hb
  have lt:∀ b,b∈[z,TI,TO,i1,i2]->b < s.heap.objs.size:=λb hb=>by
   simp only [zC,zI,or_false] at hb
   rcases hb with e | e | e | e | e <;> subst e
   ·exact Heap.lt_size hZ
   ·exact Heap.lt_size hTI
   ·exact Heap.lt_size hTO
   ·exact let ⟨_,z,_⟩:=hi1;Heap.lt_size z
   ·exact let ⟨_,z,_⟩:=hi2;Heap.lt_size z
  have ll1:l1 < s.heap.objs.size:=let ⟨_,z,_⟩:=t1;Heap.lt_size z
  have ll2:l2 < s.heap.objs.size:=let ⟨_,z,_⟩:=t2;Heap.lt_size z
  have e1:=rv1.length
  have e2:=rv2.length
  have ix:=(zK.mp hu).1
  refine zdn_item (ZD.mix (A:=X.A.in1) (I.ok.hd hc) ap a1 a2 (xs:=its1.toArray) (ys:=its2.toArray) (by simp;omega)) (by simpa using ix) hZ hTI hTO ⟨hi1,t1⟩ ⟨hi2,t2⟩ (λu' v' h1 tk hu' hv' hZ1 hTO1 hs1 hs2 hT hsz hk=>?_) (λb hb=>?_) (λb hb=>?_)
  rotate_left
  ·simp only [zC,zI,or_false] at hb
   rcases hb with e | e
   ·rw [e];exact lt i1 (by simp)
   ·rw [e];exact ll1
  ·simp only [zC,zI,or_false] at hb
   rcases hb with e | e
   ·rw [e];exact lt i2 (by simp)
   ·rw [e];exact ll2
  obtain rfl:u=u':=by
   have q:its1.toArray[i]?=some u:=by simpa using hu
   exact Option.some.inj (q.symm.trans hu')
  obtain rfl:v=v':=by
   have q:its2.toArray[i]?=some v:=by simpa using hv
   exact Option.some.inj (q.symm.trans hv')
  refine ⟨_,rfl,?_⟩
  refine wpAny_letOwnedTupleGo_zip hZ1 λh2 hZ2 hs2'=>?_
  replace hs2':Heap.SameBut z h1 h2:=hs2'
  obtain ⟨n1,n2,n3,n4,n5,n6,n7,n8,n9,n10⟩:=ap
  have old2:∀ b o,b ∉ [z,TO,i1,i2]->s.heap.get? b=some o->h2.get? b=some o:=λb o hb q=>by
   simp only [zC,zI,or_false,not_or] at hb
   exact hs2'.extBut b o hb.1 (hk b o hb.1 hb.2.1 hb.2.2.1 hb.2.2.2 q)
  have hT2:h2.get? s.heap.objs.size=some { cls:=.type "tuple", data:=.seq #[u,v] }:=hs2'.extBut _ _ (yE (lt z (by simp))) hT
  have nT:H s.heap.objs.size=none:=I.hok.fresh (zF _)
  have sub:∀ b,b∈[z,TO,i1,i2]->b∈[z,TI,TO,i1,i2]:=λb hb=>by
   simp only [zC,zI,or_false] at hb ⊢
   rcases hb with e | e | e | e <;> simp [e]
  refine ⟨.ref s.heap.objs.size,upd H s.heap.objs.size (.tup [x,y]),?_,rfl,⟨_,x,y,nT,rfl,rfl,λys' zs' h1 h2=>by rw [I.list_inj h1 hq1,I.tuple_inj h2 hq2];exact ⟨hx,hy⟩⟩,⟨hZ2,?_,⟨u,v,?_⟩,?_,?_⟩,λb hb=>?_⟩
  ·refine Inv.step (s:=s) (h':=h2) (g':=s.gens) (d':=s.drawn) (t':=tk) (ch:=[z,TO,i1,i2]) I (λb hb=>?_) (λb o _ _ hb q _=>old2 b o hb q) (λb o _ _ hb q _=>⟨o.slots,old2 b o hb q⟩)
    (λb o _ q n=>by rw [xG (zZ (Heap.lt_size q))];exact n) (λb o hb q=>⟨o,old2 b o hb q⟩)
    (λb ys q=>by rw [xG (xA q nT)];exact q) (λb o v q=>by rw [xG (xA q nT)];exact q) (λb ps q=>⟨#[],by rw [xG (xA q nT),q];simp⟩)
    (λm hm=>by
     obtain ⟨o,es',ep,q,r⟩:=hm
     exact ⟨o,es',ep,old2 _ o (λhb=>(fp _ (sub _ hb)).2.1 rfl) q,r⟩) (λb v' q=>?_) I.bare
   ·obtain ⟨e0,e1,e2,e3,e4,e5⟩:=fp b (sub b hb)
    exact ⟨e3,e1,e4,e5⟩
   ·by_cases hb:b=s.heap.objs.size
    ·subst hb
     rw [yy] at q
     cases q
     exact ⟨⟨by show 2<=sizeLine;rw [sizeLine_eq];decide,λob e=>by rw [hT2] at e;cases e;rfl⟩,[u,v],.cons ru (.cons rv .nil),⟨_,hT2,rfl,_,rfl⟩⟩
    ·rw [xG hb] at q
     refine (I.hok b v' q).stay (λc ob hc qc=>old2 c ob (λhb=>?_) qc) (λc qc=>by rw [xG (xA qc nT)];exact qc) λc ys qc=>by rw [xG (xA qc nT)];exact qc
     have e0:=(fp c (sub c hb)).1
     rcases hc with z | z
     ·subst z;exact xA q e0 rfl
     ·exact xA z e0 rfl
  ·exact old2 _ _ (by simp only [zC,zI,or_false,not_or];exact ⟨n1,n5,n6,n7⟩) hTI
  ·exact hs2'.extBut _ _ n2 hTO1
  ·obtain ⟨o,q,r⟩:=hs1.1
   exact ⟨o,hs2'.extBut i1 o n3 q,r⟩
  ·obtain ⟨o,q,r⟩:=hs2.1
   exact ⟨o,hs2'.extBut i2 o n4 q,r⟩
  ·rw [xG (zZ (lt b hb))];exact (fp b hb).1
 done:=by
  intro X hP hw hK hc i pins s σ H E I hf st hg
  subst hP hw hK
  obtain ⟨xs,ys,hq1,hq2,el,hx⟩:=hg
  obtain ⟨its1,rv1,p1,hz1⟩:=I.list hq1
  obtain ⟨its2,rv2,p2,hz2⟩:=I.tuple hq2
  obtain ⟨hZ,hTI,⟨a0,c0,hTO⟩,hi1,hi2⟩:=st
  have t1:s.heap.IsList l1 its1.toArray:=p1.isList
  have l1':=rv1.length
  have l2':=rv2.length
  have en:i=its1.toArray.size:=by simp;omega
  subst en
  have sub:∀ b,b∈[z,TO,i1,i2]->b∈[z,TI,TO,i1,i2]:=λb hb=>by
   simp only [zC,zI,or_false] at hb ⊢
   rcases hb with e | e | e | e <;> simp [e]
  refine zdn_end (ZD.mix (A:=X.A.in1) (I.ok.hd hc) ap a1 a2 (xs:=its1.toArray) (ys:=its2.toArray) (by simp;omega)) hZ hTI hTO ⟨hi1,t1⟩ λh' hk=>⟨rfl,?_⟩
  have old2:∀ b o,b ∉ [z,TO,i1,i2]->s.heap.get? b=some o->h'.get? b=some o:=λb o hb q=>by
   simp only [zC,zI,or_false,not_or] at hb
   exact hk b o hb.1 hb.2.1 hb.2.2.1 hb.2.2.2 q
  refine Inv.step (s:=s) (h':=h') (g':=s.gens) (d':=s.drawn) (t':=s.toks) (ch:=[z,TO,i1,i2]) I (λb hb=>?_) (λb o _ _ hb q _=>old2 b o hb q) (λb o _ _ hb q _=>⟨o.slots,old2 b o hb q⟩)
    (λb o _ q n=>n) (λb o hb q=>⟨o,old2 b o hb q⟩)
    (λb ys q=>q) (λb o v q=>q) (λb ps q=>⟨#[],by rw [q];simp⟩)
    (λm hm=>by
     obtain ⟨o,es',ep,q,r⟩:=hm
     exact ⟨o,es',ep,old2 _ o (λhb=>(hf _ (sub _ hb)).2.1 rfl) q,r⟩) (λb v' q=>?_) I.bare
  ·obtain ⟨e0,e1,e2,e3,e4,e5⟩:=hf b (sub b hb)
   exact ⟨e3,e1,e4,e5⟩
  ·refine (I.hok b v' q).stay (λc ob hc qc=>old2 c ob (λhb=>?_) qc) (λc qc=>qc) λc ys qc=>qc
   have e0:=(hf c (sub c hb)).1
   rcases hc with z | z
   ·subst z;exact xA q e0 rfl
   ·exact xA z e0 rfl
 self:=λ_ _ _ _ _ st h=>wpAny_pyIter_zip st.1 h
def iZipM (K:PySem.W.Frag) (ta:TA):TI:=fun σ H R=>ta σ H λvs H1=>∃ a b,vs=[.ref a,.ref b]/\(∃ xs,SqL K H1 a xs)/\(∃ ys,SqT K H1 b ys)/\R (IzM K a b) H1
theorem pi_zipM {X:Cx}{a b:Expr}{ta:TA} {p pos pos2:Pos}{es:List Expr}{k:Nat}{K:PySem.W.Frag} (hK:X.K=K) (hg:Gl X "zip") (hm:X.mg "zip" = none) (ha:PA X [a,b] ta)
  (hs:starEach [a,b] X.env=(false,eval a X.env)::starEach [b] X.env:=by rfl) (hs2:starEach [b] X.env=[(false,eval b X.env)]:=by rfl) :
  PI X (.Tuple es k pos2) (.Call (.Name "zip" p) [a,b] [] pos) (iZipM K ta):=by
 subst hK
 intro pins s σ H R I h
 refine Call_ (ld_blt I hg hm boot_zip (yJ (thn (ha pos pins s σ H _ I h) λus s1 ⟨vs,H1,I1,r1,q1⟩=>?_) (by rw [hs,hs2]) (by rw [hs2];rfl)))
 obtain ⟨l1,l2,e,⟨xs,hq1⟩,⟨ys,hq2⟩,q⟩:=q1
 subst e
 cases r1 with
 | cons r rr=>
  cases rr with
  | cons r' rr=>
   cases rr
   cases r
   cases r'
   obtain ⟨its1,rv1,p1,hz1⟩:=I1.list hq1
   obtain ⟨its2,rv2,p2,hz2⟩:=I1.tuple hq2
   have t1:s1.heap.IsList l1 its1.toArray:=p1.isList
   have t2:s1.heap.IsTuple l2 its2.toArray:=p2
   have lt1:l1 < s1.heap.objs.size:=let ⟨_,z,_⟩:=t1;Heap.lt_size z
   have lt2:l2 < s1.heap.objs.size:=let ⟨_,z,_⟩:=t2;Heap.lt_size z
   refine callType_new F.called_zip (by decide) (F.typeCall_zip_2 _ _) (F.newCall_zip_2 _ _) (λobj=>F.args_object_init_3 obj _ _) F.entry_zip_new (zipM_new l1 l2 its1.toArray its2.toArray) ⟨t1,t2,λh' hZ hTI hTO hi1 hi2 hk=>⟨⟨_,hZ,rfl⟩,?_⟩⟩
   refine wpAny_pyIter_zip hZ ?_
   have I2:Inv X pins σ H1 { s1 with heap:=h' }:=I1.kept (t':=s1.toks) hk
   refine ⟨s1.heap.objs.size + 4,[s1.heap.objs.size + 4,s1.heap.objs.size + 2,s1.heap.objs.size + 3,s1.heap.objs.size,s1.heap.objs.size + 1],_,_,H1,rfl,I2,turn_zipM l1 l2 _ _ _ _ _ ?_ ?_ ?_,⟨hZ,hTI,⟨_,_,hTO⟩,hi1,hi2⟩,λb hb=>?_,q⟩
   ·have z:=zipApart_new lt1 lt2
    exact ⟨z.TIz,z.TOz,z.i1z,z.i2z,z.TITO,z.TIi1,z.TIi2,z.TOi1,z.TOi2,z.i12⟩
   ·intro x hx
    have z:=zipApart_new lt1 lt2
    simp only [zC,zI,or_false] at hx
    rcases hx with e | e | e | e <;> subst e
    ·exact z.l1z
    ·exact z.l1TO
    ·exact z.l1i1
    ·exact z.l1i2
   ·intro x hx
    have z:=zipApart_new lt1 lt2
    simp only [zC,zI,or_false] at hx
    rcases hx with e | e | e | e <;> subst e
    ·exact z.l2z
    ·exact z.l2TO
    ·exact z.l2i1
    ·exact z.l2i2
   ·have hb':s1.heap.objs.size<=b:=by
     simp only [zC,zI,or_false] at hb
     rcases hb with e | e | e | e | e <;> rw [e] <;> first | exact zF _ | exact ym _ _
    exact I1.fpOk hb' (I1.hok.fresh hb')
section
variable {K:PySem.W.Frag}{a b:Addr}{xs ys:List V}{n:Nat}{caps:List Nat}{g:TG}{tc:TT}{te:TE}{σ:St}{H:Hp}{Qf:Addr->Hp->List V->Prop}
theorem comp_zipM (el:xs.length=ys.length) (Pv:Nat->St->List V->Hp->Prop) (h0:Pv 0 (tau0 n caps σ) [] H) (hn:xs.length<=1000) (hl:∀ i τ acc H,Pv i τ acc H->acc.length<=i/\SqL K H a xs/\SqT K H b ys)
  (hs:∀ i x y q τ acc H (C:St->List V->Hp->Prop),xs[i]?=some x->ys[i]?=some y->H q=none->Pv i τ acc H->(∀ τ acc H,Pv (i + 1) τ acc H->C τ acc H)->g (.ref q) τ (upd H q (.tup [x,y])) fun τ2 H2=>tc τ2 H2 λb H3=>if b=true then te τ2 H3 λy H4=>C τ2 (acc++[y]) H4 else C τ2 acc H3)
  (hd:∀ τ acc H,Pv xs.length τ acc H->∀ p,H p=none->Qf p H acc) :
  ∃ W:Nat->Nat->St->List V->Hp->Prop,(∃ m,W 0 m (tau0 n caps σ) [] H)/\∀ i m τ acc H,W i m τ acc H ->
   ((IzM K a b).stop i H/\acc.length<=sizeLine/\∀ p,H p=none->Qf p H acc) \/
   ((IzM K a b).go i H/\acc.length < sizeLine/\∀ x H',(IzM K a b).yld i H x H'->g x τ H' fun τ2 H2=>tc τ2 H2 λb H3=>if b=true then te τ2 H3 λy H4=>∃ m',m' < m/\W (i + 1) m' τ2 (acc++[y]) H4 else ∃ m',m' < m/\W (i + 1) m' τ2 acc H3):=
 comp_of (J:=IzM K a b) Pv xs.length h0 hn (λi τ acc H p=>(hl i τ acc H p).1) (λi τ acc H hi p=>⟨xs,ys,xs[i],ys[i]'(by omega),(hl i τ acc H p).2.1,(hl i τ acc H p).2.2,el,by simp [hi],by simp [<-el,hi]⟩) (fun τ acc H p=>⟨xs,ys,(hl _ τ acc H p).2.1,(hl _ τ acc H p).2.2,el,rfl⟩)
  (λi τ acc H C hi p c x H' y=>by obtain ⟨q,x',y',hq,e1,e2,y⟩:=y;subst e1;subst e2;exact hs i x' y' q τ acc _ C (y xs ys (hl i τ acc _ p).2.1 (hl i τ acc _ p).2.2).1 (y xs ys (hl i τ acc _ p).2.1 (hl i τ acc _ p).2.2).2 hq p c) hd
end
end L2
namespace L2
open PySem PySem.Spec PyProof.Rows
theorem zipN_new (l1 l2:Addr) (xs ys:Array Value) :
  Meets (Builtin.«zip.__new__» ⟨[.type "zip", .ref l1,.ref l2],[]⟩) (λ_ R s=>s.heap.IsTuple l1 xs/\s.heap.IsList l2 ys /\
   ∀ h':Heap,IsZip h' (s.heap.objs.size + 4) (s.heap.objs.size + 2) (s.heap.objs.size + 3) .none->IsPair h' (s.heap.objs.size + 2) (.ref s.heap.objs.size) (.ref (s.heap.objs.size + 1)) ->
   IsPair h' (s.heap.objs.size + 3) .none .none->h'.IsTupleIter s.heap.objs.size l1 0->h'.IsListIter (s.heap.objs.size + 1) l2 0 -> 
   (∀ c o,s.heap.get? c=some o->h'.get? c=some o)->R (.ok (.ret (.ref (s.heap.objs.size + 4)))) { s with heap:=h' }):=
 .of_wp λprog w A R s h=>by
  obtain ⟨hp,g,d,tk,os⟩:=s;obtain ⟨hl1,hl2,h⟩:=h
  have hsub:=sub_zip
  have hL1:Heap.IsTuple (Shared.heap ⟨hp,g,d,tk,os⟩) l1 xs:=hl1
  have hL2:Heap.IsList (Shared.heap ⟨hp.push { cls:=.type "tuple_iterator", data:=.fields #[.ref l1,.int 0 0] },g,d,tk,os⟩) l2 ys:=let ⟨o,e,r⟩:=hl2;⟨o,Heap.get?_push_of_some _ e,r⟩
  wp_walk using wpAny_pyIter_tuple hL1,wpAny_pyIter_list hL2
  refine ⟨_,rfl,?_⟩
  have sp:∀ (h:Heap) (o:Obj),(h.push o).objs.size=h.objs.size + 1:=λh o=>Heap.size_push ..
  have h':=h (((((hp.push { cls:=.type "tuple_iterator", data:=.fields #[.ref l1,.int 0 0] }).push { cls:=.type "list_iterator", data:=.fields #[.ref l2,.int 0 0] }).push { cls:=.type "tuple", data:=.seq #[.ref hp.objs.size,.ref (hp.objs.size + 1)] }).push { cls:=.type "tuple", data:=.seq #[.none,.none] }).push { cls:=.type "zip", data:=.fields #[.none,.bool false,.bool false,.ref (hp.objs.size + 2),.ref (hp.objs.size + 3)] })
   (by show Heap.get? _ (hp.objs.size + 4)=_;rw [show hp.objs.size + 4=((((hp.push { cls:=.type "tuple_iterator", data:=.fields #[.ref l1,.int 0 0] }).push { cls:=.type "list_iterator", data:=.fields #[.ref l2,.int 0 0] }).push { cls:=.type "tuple", data:=.seq #[.ref hp.objs.size,.ref (hp.objs.size + 1)] }).push { cls:=.type "tuple", data:=.seq #[.none,.none] }).objs.size from by simp only [sp]];exact Heap.get?_push_size _ rfl)
   (by
    refine Heap.get?_push_of_some _ (Heap.get?_push_of_some _ ?_)
    show Heap.get? _ (hp.objs.size + 2)=_
    rw [show hp.objs.size + 2=((hp.push { cls:=.type "tuple_iterator", data:=.fields #[.ref l1,.int 0 0] }).push { cls:=.type "list_iterator", data:=.fields #[.ref l2,.int 0 0] }).objs.size from by simp only [sp]];exact Heap.get?_push_size _ rfl)
   (by
    refine Heap.get?_push_of_some _ ?_
    show Heap.get? _ (hp.objs.size + 3)=_
    rw [show hp.objs.size + 3=(((hp.push { cls:=.type "tuple_iterator", data:=.fields #[.ref l1,.int 0 0] }).push { cls:=.type "list_iterator", data:=.fields #[.ref l2,.int 0 0] }).push { cls:=.type "tuple", data:=.seq #[.ref hp.objs.size,.ref (hp.objs.size + 1)] }).objs.size from by simp only [sp]];exact Heap.get?_push_size _ rfl)
   ⟨_,Heap.get?_push_of_some _ (Heap.get?_push_of_some _ (Heap.get?_push_of_some _ (Heap.get?_push_of_some _ (Heap.get?_push_size _ rfl)))),rfl,rfl⟩
   ⟨{ cls:=.type "list_iterator", data:=.fields #[.ref l2,.int 0 0] },(by
    refine Heap.get?_push_of_some _ (Heap.get?_push_of_some _ (Heap.get?_push_of_some _ ?_))
    show Heap.get? _ (hp.objs.size + 1)=_
    rw [show hp.objs.size + 1=(hp.push { cls:=.type "tuple_iterator", data:=.fields #[.ref l1,.int 0 0] }).objs.size from by simp only [sp]];exact Heap.get?_push_size _ rfl),rfl,rfl⟩
   (λc o x=>Heap.get?_push_of_some _ (Heap.get?_push_of_some _ (Heap.get?_push_of_some _ (Heap.get?_push_of_some _ (Heap.get?_push_of_some _ x)))))
  simp only [sp] at h' ⊢
  exact h'
end L2
namespace L2
open PySem PySem.Spec PyProof.Rows
section
variable {prog:Program}{w:World}{A:Around}{E:Value->Shared->Prop}{s:Shared}
variable {z TI TO i1 i2:Addr} {fp1 fp2:List Addr}{n:Nat} {P1 P2:Nat->Value->Prop} {S1 S2:Nat->Heap->Prop}
theorem ZD.mixN {l1 l2:Addr} (hh:A.handled=none) (ne:TI≠z/\TO≠z/\i1≠z/\i2≠z/\TI≠TO/\TI≠i1/\TI≠i2/\TO≠i1/\TO≠i2/\i1≠i2) (a1:∀ x∈[z,TO,i1,i2],l1≠x) (a2:∀ x∈[z,TO,i1,i2],l2≠x) {xs ys:Array Value} (hs:ys.size=xs.size) :
  ZD prog w A z TI TO i1 i2 [i1,l1] [i2,l2] xs.size (λi v=>xs[i]?=some v) (λi v=>ys[i]?=some v) (λi h=>h.IsTupleIter i1 l1 i/\h.IsTuple l1 xs) (λi h=>h.IsListIter i2 l2 i/\h.IsList l2 ys) where
 d1:=drawsT hh i1 l1 (a1 _ (by simp)) xs
 d2:=hs ▸ Draws.list hh i2 l2 (a2 _ (by simp)) ys
 ne:=ne
 f1:=by
  obtain ⟨n1,n2,n3,n4,n5,n6,n7,n8,n9,n10⟩:=ne
  have b1:=a1 z (by simp);have b2:=a1 TO (by simp);have b3:=a1 i2 (by simp)
  simp only [zC,zI,or_false,not_or]
  exact ⟨⟨n3.symm,b1.symm⟩,⟨n8,b2.symm⟩,n10.symm,b3.symm⟩
 f2:=by
  obtain ⟨n1,n2,n3,n4,n5,n6,n7,n8,n9,n10⟩:=ne
  have b1:=a2 z (by simp);have b2:=a2 TO (by simp);have b3:=a2 i1 (by simp)
  simp only [zC,zI,or_false,not_or]
  exact ⟨⟨n4.symm,b1.symm⟩,⟨n9,b2.symm⟩,n10,b3.symm⟩
end
def IzN (K:PySem.W.Frag) (a b:Addr):It:=
 ⟨λi H=>∃ xs ys x y,SqT K H a xs/\SqL K H b ys/\xs.length=ys.length/\xs[i]?=some x/\ys[i]?=some y,λi H v H'=>∃ p x y,H p=none/\v=.ref p/\H'=upd H p (.tup [x,y])/\∀ xs ys,SqT K H a xs->SqL K H b ys->xs[i]?=some x/\ys[i]?=some y,
  λi H=>∃ xs ys,SqT K H a xs/\SqL K H b ys/\xs.length=ys.length/\xs.length=i⟩
theorem turn_zipN {P:Program}{w:World}{K:PySem.W.Frag}{es:List Expr}{k:Nat}{pos:Pos} (l1 l2 z TI TO i1 i2:Addr) (ap:ZN z TI TO i1 i2) (a1:∀ x∈[z,TO,i1,i2],l1≠x) (a2:∀ x∈[z,TO,i1,i2],l2≠x) :
  Turn P w K (.Tuple es k pos) (IzN K l1 l2) [z,TI,TO,i1,i2] z (λi h=>IsZip h z TI TO .none/\IsPair h TI (.ref i1) (.ref i2)/\(∃ a b,IsPair h TO a b)/\h.IsTupleIter i1 l1 i/\h.IsListIter i2 l2 i) where
 mem:=by simp
 obj:=λi h st b hb=>by
  obtain ⟨hz,hTI,⟨a,c,hTO⟩,⟨o1,g1,c1,d1⟩,⟨o2,g2,c2,d2⟩⟩:=st
  simp only [zC,zI,or_false] at hb
  rcases hb with e | e | e | e | e <;> subst e
  ·exact ⟨_,hz,λv q=>nomatch q⟩
  ·exact ⟨_,hTI,λv q=>nomatch q⟩
  ·exact ⟨_,hTO,λv q=>nomatch q⟩
  ·exact ⟨o1,g1,λv q=>by rw [d1] at q;cases q⟩
  ·exact ⟨o2,g2,λv q=>by rw [d2] at q;cases q⟩
 keep:=λi h h' st q=>by
  obtain ⟨hz,hTI,⟨a,c,hTO⟩,⟨o1,g1,r1⟩,⟨o2,g2,r2⟩⟩:=st
  exact ⟨q z (by simp) _ hz,q TI (by simp) _ hTI,⟨a,c,q TO (by simp) _ hTO⟩,⟨o1,q i1 (by simp) o1 g1,r1⟩,⟨o2,q i2 (by simp) o2 g2,r2⟩⟩
 item:=by
  intro X hP hw hK hc i pins s σ H E I hf st hg
  subst hP hw hK
  obtain ⟨xs,ys,x,y,hq1,hq2,el,hx,hy⟩:=hg
  obtain ⟨its1,rv1,p1,hz1⟩:=I.tuple hq1
  obtain ⟨its2,rv2,p2,hz2⟩:=I.list hq2
  obtain ⟨u,hu,ru⟩:=rv1.get hx
  obtain ⟨v,hv,rv⟩:=rv2.get hy
  obtain ⟨hZ,hTI,⟨a0,c0,hTO⟩,hi1,hi2⟩:=st
  have t1:s.heap.IsTuple l1 its1.toArray:=p1
  have t2:s.heap.IsList l2 its2.toArray:=p2.isList
  have fp:=λb hb=>hf b hb
  have lt:∀ b,b∈[z,TI,TO,i1,i2]->b < s.heap.objs.size:=λb hb=>by
   simp only [zC,zI,or_false] at hb
   rcases hb with e | e | e | e | e <;> subst e
   ·exact Heap.lt_size hZ
   ·exact Heap.lt_size hTI
   ·exact Heap.lt_size hTO
   ·exact let ⟨_,z,_⟩:=hi1;Heap.lt_size z
   ·exact let ⟨_,z,_⟩:=hi2;Heap.lt_size z
  have ll1:l1 < s.heap.objs.size:=let ⟨_,z,_⟩:=t1;Heap.lt_size z
  have ll2:l2 < s.heap.objs.size:=let ⟨_,z,_⟩:=t2;Heap.lt_size z
  have e1:=rv1.length
  have e2:=rv2.length
  have ix:=(zK.mp hu).1
  refine zdn_item (ZD.mixN (A:=X.A.in1) (I.ok.hd hc) ap a1 a2 (xs:=its1.toArray) (ys:=its2.toArray) (by simp;omega)) (by simpa using ix) hZ hTI hTO ⟨hi1,t1⟩ ⟨hi2,t2⟩ (λu' v' h1 tk hu' hv' hZ1 hTO1 hs1 hs2 hT hsz hk=>?_) (λb hb=>?_) (λb hb=>?_)
  rotate_left
  ·simp only [zC,zI,or_false] at hb
   rcases hb with e | e
   ·rw [e];exact lt i1 (by simp)
   ·rw [e];exact ll1
  ·simp only [zC,zI,or_false] at hb
   rcases hb with e | e
   ·rw [e];exact lt i2 (by simp)
   ·rw [e];exact ll2
  obtain rfl:u=u':=by
   have q:its1.toArray[i]?=some u:=by simpa using hu
   exact Option.some.inj (q.symm.trans hu')
  obtain rfl:v=v':=by
   have q:its2.toArray[i]?=some v:=by simpa using hv
   exact Option.some.inj (q.symm.trans hv')
  refine ⟨_,rfl,?_⟩
  refine wpAny_letOwnedTupleGo_zip hZ1 λh2 hZ2 hs2'=>?_
  replace hs2':Heap.SameBut z h1 h2:=hs2'
  obtain ⟨n1,n2,n3,n4,n5,n6,n7,n8,n9,n10⟩:=ap
  have old2:∀ b o,b ∉ [z,TO,i1,i2]->s.heap.get? b=some o->h2.get? b=some o:=λb o hb q=>by
   simp only [zC,zI,or_false,not_or] at hb
   exact hs2'.extBut b o hb.1 (hk b o hb.1 hb.2.1 hb.2.2.1 hb.2.2.2 q)
  have hT2:h2.get? s.heap.objs.size=some { cls:=.type "tuple", data:=.seq #[u,v] }:=hs2'.extBut _ _ (yE (lt z (by simp))) hT
  have nT:H s.heap.objs.size=none:=I.hok.fresh (zF _)
  have sub:∀ b,b∈[z,TO,i1,i2]->b∈[z,TI,TO,i1,i2]:=λb hb=>by
   simp only [zC,zI,or_false] at hb ⊢
   rcases hb with e | e | e | e <;> simp [e]
  refine ⟨.ref s.heap.objs.size,upd H s.heap.objs.size (.tup [x,y]),?_,rfl,⟨_,x,y,nT,rfl,rfl,λys' zs' h1 h2=>by rw [I.tuple_inj h1 hq1,I.list_inj h2 hq2];exact ⟨hx,hy⟩⟩,⟨hZ2,?_,⟨u,v,?_⟩,?_,?_⟩,λb hb=>?_⟩
  ·refine Inv.step (s:=s) (h':=h2) (g':=s.gens) (d':=s.drawn) (t':=tk) (ch:=[z,TO,i1,i2]) I (λb hb=>?_) (λb o _ _ hb q _=>old2 b o hb q) (λb o _ _ hb q _=>⟨o.slots,old2 b o hb q⟩)
    (λb o _ q n=>by rw [xG (zZ (Heap.lt_size q))];exact n) (λb o hb q=>⟨o,old2 b o hb q⟩)
    (λb ys q=>by rw [xG (xA q nT)];exact q) (λb o v q=>by rw [xG (xA q nT)];exact q) (λb ps q=>⟨#[],by rw [xG (xA q nT),q];simp⟩)
    (λm hm=>by
     obtain ⟨o,es',ep,q,r⟩:=hm
     exact ⟨o,es',ep,old2 _ o (λhb=>(fp _ (sub _ hb)).2.1 rfl) q,r⟩) (λb v' q=>?_) I.bare
   ·obtain ⟨e0,e1,e2,e3,e4,e5⟩:=fp b (sub b hb)
    exact ⟨e3,e1,e4,e5⟩
   ·by_cases hb:b=s.heap.objs.size
    ·subst hb
     rw [yy] at q
     cases q
     exact ⟨⟨by show 2<=sizeLine;rw [sizeLine_eq];decide,λob e=>by rw [hT2] at e;cases e;rfl⟩,[u,v],.cons ru (.cons rv .nil),⟨_,hT2,rfl,_,rfl⟩⟩
    ·rw [xG hb] at q
     refine (I.hok b v' q).stay (λc ob hc qc=>old2 c ob (λhb=>?_) qc) (λc qc=>by rw [xG (xA qc nT)];exact qc) λc ys qc=>by rw [xG (xA qc nT)];exact qc
     have e0:=(fp c (sub c hb)).1
     rcases hc with z | z
     ·subst z;exact xA q e0 rfl
     ·exact xA z e0 rfl
  ·exact old2 _ _ (by simp only [zC,zI,or_false,not_or];exact ⟨n1,n5,n6,n7⟩) hTI
  ·exact hs2'.extBut _ _ n2 hTO1
  ·obtain ⟨o,q,r⟩:=hs1.1
   exact ⟨o,hs2'.extBut i1 o n3 q,r⟩
  ·obtain ⟨o,q,r⟩:=hs2.1
   exact ⟨o,hs2'.extBut i2 o n4 q,r⟩
  ·rw [xG (zZ (lt b hb))];exact (fp b hb).1
 done:=by
  intro X hP hw hK hc i pins s σ H E I hf st hg
  subst hP hw hK
  obtain ⟨xs,ys,hq1,hq2,el,hx⟩:=hg
  obtain ⟨its1,rv1,p1,hz1⟩:=I.tuple hq1
  obtain ⟨its2,rv2,p2,hz2⟩:=I.list hq2
  obtain ⟨hZ,hTI,⟨a0,c0,hTO⟩,hi1,hi2⟩:=st
  have t1:s.heap.IsTuple l1 its1.toArray:=p1
  have l1':=rv1.length
  have l2':=rv2.length
  have en:i=its1.toArray.size:=by simp;omega
  subst en
  have sub:∀ b,b∈[z,TO,i1,i2]->b∈[z,TI,TO,i1,i2]:=λb hb=>by
   simp only [zC,zI,or_false] at hb ⊢
   rcases hb with e | e | e | e <;> simp [e]
  refine zdn_end (ZD.mixN (A:=X.A.in1) (I.ok.hd hc) ap a1 a2 (xs:=its1.toArray) (ys:=its2.toArray) (by simp;omega)) hZ hTI hTO ⟨hi1,t1⟩ λh' hk=>⟨rfl,?_⟩
  have old2:∀ b o,b ∉ [z,TO,i1,i2]->s.heap.get? b=some o->h'.get? b=some o:=λb o hb q=>by
   simp only [zC,zI,or_false,not_or] at hb
   exact hk b o hb.1 hb.2.1 hb.2.2.1 hb.2.2.2 q
  refine Inv.step (s:=s) (h':=h') (g':=s.gens) (d':=s.drawn) (t':=s.toks) (ch:=[z,TO,i1,i2]) I (λb hb=>?_) (λb o _ _ hb q _=>old2 b o hb q) (λb o _ _ hb q _=>⟨o.slots,old2 b o hb q⟩)
    (λb o _ q n=>n) (λb o hb q=>⟨o,old2 b o hb q⟩)
    (λb ys q=>q) (λb o v q=>q) (λb ps q=>⟨#[],by rw [q];simp⟩)
    (λm hm=>by
     obtain ⟨o,es',ep,q,r⟩:=hm
     exact ⟨o,es',ep,old2 _ o (λhb=>(hf _ (sub _ hb)).2.1 rfl) q,r⟩) (λb v' q=>?_) I.bare
  ·obtain ⟨e0,e1,e2,e3,e4,e5⟩:=hf b (sub b hb)
   exact ⟨e3,e1,e4,e5⟩
  ·refine (I.hok b v' q).stay (λc ob hc qc=>old2 c ob (λhb=>?_) qc) (λc qc=>qc) λc ys qc=>qc
   have e0:=(hf c (sub c hb)).1
   rcases hc with z | z
   ·subst z;exact xA q e0 rfl
   ·exact xA z e0 rfl
 self:=λ_ _ _ _ _ st h=>wpAny_pyIter_zip st.1 h
def iZipN (K:PySem.W.Frag) (ta:TA):TI:=fun σ H R=>ta σ H λvs H1=>∃ a b,vs=[.ref a,.ref b]/\(∃ xs,SqT K H1 a xs)/\(∃ ys,SqL K H1 b ys)/\R (IzN K a b) H1
theorem pi_zipN {X:Cx}{a b:Expr}{ta:TA} {p pos pos2:Pos}{es:List Expr}{k:Nat}{K:PySem.W.Frag} (hK:X.K=K) (hg:Gl X "zip") (hm:X.mg "zip" = none) (ha:PA X [a,b] ta)
  (hs:starEach [a,b] X.env=(false,eval a X.env)::starEach [b] X.env:=by rfl) (hs2:starEach [b] X.env=[(false,eval b X.env)]:=by rfl) :
  PI X (.Tuple es k pos2) (.Call (.Name "zip" p) [a,b] [] pos) (iZipN K ta):=by
 subst hK
 intro pins s σ H R I h
 refine Call_ (ld_blt I hg hm boot_zip (yJ (thn (ha pos pins s σ H _ I h) λus s1 ⟨vs,H1,I1,r1,q1⟩=>?_) (by rw [hs,hs2]) (by rw [hs2];rfl)))
 obtain ⟨l1,l2,e,⟨xs,hq1⟩,⟨ys,hq2⟩,q⟩:=q1
 subst e
 cases r1 with
 | cons r rr=>
  cases rr with
  | cons r' rr=>
   cases rr
   cases r
   cases r'
   obtain ⟨its1,rv1,p1,hz1⟩:=I1.tuple hq1
   obtain ⟨its2,rv2,p2,hz2⟩:=I1.list hq2
   have t1:s1.heap.IsTuple l1 its1.toArray:=p1
   have t2:s1.heap.IsList l2 its2.toArray:=p2.isList
   have lt1:l1 < s1.heap.objs.size:=let ⟨_,z,_⟩:=t1;Heap.lt_size z
   have lt2:l2 < s1.heap.objs.size:=let ⟨_,z,_⟩:=t2;Heap.lt_size z
   refine callType_new F.called_zip (by decide) (F.typeCall_zip_2 _ _) (F.newCall_zip_2 _ _) (λobj=>F.args_object_init_3 obj _ _) F.entry_zip_new (zipN_new l1 l2 its1.toArray its2.toArray) ⟨t1,t2,λh' hZ hTI hTO hi1 hi2 hk=>⟨⟨_,hZ,rfl⟩,?_⟩⟩
   refine wpAny_pyIter_zip hZ ?_
   have I2:Inv X pins σ H1 { s1 with heap:=h' }:=I1.kept (t':=s1.toks) hk
   refine ⟨s1.heap.objs.size + 4,[s1.heap.objs.size + 4,s1.heap.objs.size + 2,s1.heap.objs.size + 3,s1.heap.objs.size,s1.heap.objs.size + 1],_,_,H1,rfl,I2,turn_zipN l1 l2 _ _ _ _ _ ?_ ?_ ?_,⟨hZ,hTI,⟨_,_,hTO⟩,hi1,hi2⟩,λb hb=>?_,q⟩
   ·have z:=zipApart_new lt1 lt2
    exact ⟨z.TIz,z.TOz,z.i1z,z.i2z,z.TITO,z.TIi1,z.TIi2,z.TOi1,z.TOi2,z.i12⟩
   ·intro x hx
    have z:=zipApart_new lt1 lt2
    simp only [zC,zI,or_false] at hx
    rcases hx with e | e | e | e <;> subst e
    ·exact z.l1z
    ·exact z.l1TO
    ·exact z.l1i1
    ·exact z.l1i2
   ·intro x hx
    have z:=zipApart_new lt1 lt2
    simp only [zC,zI,or_false] at hx
    rcases hx with e | e | e | e <;> subst e
    ·exact z.l2z
    ·exact z.l2TO
    ·exact z.l2i1
    ·exact z.l2i2
   ·have hb':s1.heap.objs.size<=b:=by
     simp only [zC,zI,or_false] at hb
     rcases hb with e | e | e | e | e <;> rw [e] <;> first | exact zF _ | exact ym _ _
    exact I1.fpOk hb' (I1.hok.fresh hb')
section
variable {K:PySem.W.Frag}{a b:Addr}{xs ys:List V}{n:Nat}{caps:List Nat}{g:TG}{tc:TT}{te:TE}{σ:St}{H:Hp}{Qf:Addr->Hp->List V->Prop}
end
theorem for_zipN {K:PySem.W.Frag}{a b:Addr}{xs ys:List V}{g:TG}{tb:TS}{D:Ends}{σ:St}{H:Hp} (el:xs.length=ys.length) (Pv:Nat->St->Hp->Prop) (h0:Pv 0 σ H) (hl:∀ i σ H,i<=xs.length->Pv i σ H->SqT K H a xs/\SqL K H b ys)
  (hs:∀ i x y q σ H,xs[i]?=some x->ys[i]?=some y->H q=none->Pv i σ H->g (.ref q) σ (upd H q (.tup [x,y])) fun σ2 H2=>tb (D.lp (Pv (i + 1))) σ2 H2) (hd:∀ σ H,Pv xs.length σ H->D.nx σ H) :
  ∃ W:Nat->Nat->St->Hp->Prop,(∃ m,W 0 m σ H)/\∀ i m σ H,W i m σ H ->
   ((IzN K a b).stop i H/\D.nx σ H)\/((IzN K a b).go i H/\∃ N:St->Hp->Prop,(∀ σ' H',N σ' H'->∃ m',m' < m/\W (i + 1) m' σ' H')/\∀ x H',(IzN K a b).yld i H x H'->g x σ H' fun σ2 H2=>tb (D.lp N) σ2 H2):=by
 refine ⟨λi m σ H=>m=xs.length - i/\i<=xs.length/\Pv i σ H,⟨xs.length,by simp,zg _,h0⟩,?_⟩
 rintro i m σ H ⟨rfl,hi,p⟩
 obtain ⟨q1,q2⟩:=hl i σ H hi p
 by_cases hlt:i < xs.length
 ·refine .inr ⟨⟨xs,ys,xs[i],ys[i]'(by omega),q1,q2,el,by simp [hlt],by simp [<-el,hlt]⟩,Pv (i + 1),fun σ' H' p'=>⟨xs.length - (i + 1),by omega,rfl,hlt,p'⟩,λx H' y=>?_⟩
  obtain ⟨q',x',y',hq,e1,e2,y⟩:=y
  subst e1;subst e2
  exact hs i x' y' q' σ _ (y xs ys q1 q2).1 (y xs ys q1 q2).2 hq p
 ·have e:i=xs.length:=by omega
  subst e
  exact .inl ⟨⟨xs,ys,q1,q2,el,rfl⟩,hd σ H p⟩
end L2
namespace L2
open PySem PySem.Spec PyProof.Rows
theorem xz:∀ (n:Nat) (names:List (Str×NameKind)) (acc:List (Str×Addr)),cellsFrom n names acc=cellsFrom n names []++acc
 | _,[],_=>rfl
 | n,(x,k)::r,acc=>by
  unfold cellsFrom
  split
  ·rw [xz (n + 1) r ((x,n)::acc),xz (n + 1) r [(x,n)],List.append_assoc];rfl
  ·exact xz n r acc
theorem cellsFrom_mem:∀ (n:Nat) (names:List (Str×NameKind)) (x:Str) (c:Addr),(x,c)∈cellsFrom n names []->(x,NameKind.cell)∈names
 | _,[],_,_,h=>by simp [cellsFrom] at h
 | n,(y,k)::r,x,c,h=>by
  unfold cellsFrom at h
  split at h
  ·rename_i hk
   rw [xz] at h
   rcases zV.mp h with h | h
   ·exact zW _ (cellsFrom_mem _ r x c h)
   ·cases zE.mp h
    rw [show k=NameKind.cell by simpa using hk];exact zf
  ·exact zW _ (cellsFrom_mem _ r x c h)
theorem cellsFrom_has:∀ (n:Nat) (names:List (Str×NameKind)) (x:Str),(x,NameKind.cell)∈names->∃ c,(x,c)∈cellsFrom n names []
 | _,[],_,h=>by simp at h
 | n,(y,k)::r,x,h=>by
  unfold cellsFrom
  rcases zC.mp h with z | z
  ·have e1:x=y:=congrArg Prod.fst z
   have e2:NameKind.cell=k:=congrArg Prod.snd z
   subst e1 e2
   rw [if_pos (show (NameKind.cell == NameKind.cell)=true from rfl),xz]
   exact ⟨n,zJ _ (zE.mpr rfl)⟩
  ·split
   ·obtain ⟨c,h⟩:=cellsFrom_has (n + 1) r x z
    rw [xz]
    exact ⟨c,yI _ h⟩
   ·exact cellsFrom_has n r x z
def clC (scope:Scope) (env:Env) (C:Addr):List (Str×Addr):=cellsFrom (C + 1) scope.names []++clOf scope.names env []
theorem lookup_app {β:Type}:∀ (l r:List (Str×β)) (x:Str),(l++r).lookup x=(l.lookup x).or (r.lookup x)
 | [],_,_=>rfl
 | (n,d)::l,r,x=>by
  rw [yW,zt,zt]
  cases x == n with
  | true=>rfl
  | false=>exact lookup_app l r x
theorem wL {scope:Scope}{env:Env}{C:Addr}{x:Str}{c:Addr} (h:(clC scope env C).lookup x=some c):(cellsFrom (C + 1) scope.names []).lookup x=some c\/((cellsFrom (C + 1) scope.names []).lookup x=none/\env.cells.lookup x=some c):=by
 unfold clC at h
 rw [lookup_app] at h
 cases z:(cellsFrom (C + 1) scope.names []).lookup x with
 | some d=>rw [z] at h;exact .inl h
 | none=>rw [z] at h;exact .inr ⟨rfl,xl h⟩
structure CompScopeC (own:List Str) (caps:List Nat) (N:List Str) (sc scope:Scope):Prop where
 kind:scope.kind=.function
 cel:∀ y∈scope.names,y.2=.cell->scope.names.lookup y.1=some .cell
 loc:∀ y∈scope.names,y.2=.local->scope.names.lookup y.1=some .local
 fr:∀ y∈scope.names,y.2=.free->sc.names.lookup y.1=some .cell\/sc.names.lookup y.1=some .free
 cap:∀ i∈caps,i < N.length/\scope.names.lookup ((N[i]?).getD Str.empty)=some .free
def cxCompC (X:Cx) (own:List Str) (caps:List Nat) (scope:Scope) (s:Shared) (H:Hp) (fp:List Addr) (C:Addr):Cx:=
 { X with N:=own++caps.map (λi=>(X.N[i]?).getD Str.empty),s₀:=s,H₀:=H,env:=compEnvC scope (clC scope X.env C) C X.env,outer:=X.stack,ex:=fp,fn:=λx=>scope.names.lookup x == some .cell,pn:=[],xe:=λ_ _=>False }
section
variable {M:Model}{A:Around}{E:Value->Shared->Prop}{s:Shared}
theorem wpAny_newFunctionEnv_cc {scope:Scope}{globals:Addr}{closure:List (Str×Addr)}{qual:Str}{func:Option Addr}{code:Value}{outer:Env}{builtins:Addr}{Q:Env->Shared->Prop}
  (hQ:∀ h':Heap,h'.Ns s.heap.objs.size (λ_=>none)->(∀ b o,s.heap.get? b=some o->h'.get? b=some o)->CellsOk h' (s.heap.objs.size + 1) (cellsFrom (s.heap.objs.size + 1) scope.names []) ->
   Q (newEnv scope s.heap.objs.size globals (cellsFrom (s.heap.objs.size + 1) scope.names []++closure) qual func code (some outer) builtins) { s with heap:=h' }) :
  wpAny M A (newFunctionEnv scope globals closure [] qual func code (some outer) builtins) Q E s:=by
 simp only [newFunctionEnv,Option.isSome_some,if_true]
 refine wpAny_bind (wpAny_alloc ?_)
 refine wpAny_bind (wpAny_layCells _ (λname kind cells=>by cases hkc:kind == NameKind.cell <;> simp [hkc]) _ _ _ _ ?_)
 have ok:=cellsFrom_ok scope.names (s.heap.push { cls:=.type "dict", data:=.dict #[] }) (s.heap.objs.size + 1) [] ⟨λ_ _ hm=>(nomatch hm),List.Pairwise.nil⟩ (by rw [Heap.size_push];exact zF _)
 rw [Heap.size_push] at ok
 rw [show ({ s with heap:=s.heap.push { cls:=.type "dict", data:=.dict #[] } }:Shared).heap.objs.size=s.heap.objs.size + 1 from Heap.size_push ..]
 rw [xz]
 refine wpAny_bind ?_
 rw [List.forIn_nil]
 exact wpAny_pure (wpAny_pure (hQ _ ((Heap.Ns.new s.heap (.type "dict")).keeps (pushCells_keeps _ _)) (λb o e=>pushCells_keeps _ _ b o (Heap.get?_push_of_some _ e)) ok))
end
section
variable {X:Cx}{pins:List (Addr×Obj)}{σ:St}{H:Hp}{s:Shared}
theorem cf_kind {scope:Scope}{env:Env}{x:Str}{k:NameKind} (hk:k=.cell\/k=.free) (h:(relabel scope env).names.lookup x=some k):(x,NameKind.free)∈scope.names\/(x,NameKind.cell)∈scope.names:=by
 have hm:=za h
 obtain ⟨⟨n,k0⟩,hy,e⟩:=zS.mp hm
 dsimp only at e
 split at e
 ·rename_i hc
  simp only [yj,beq_iff_eq] at hc
  have e1:n=x:=congrArg Prod.fst e
  subst e1
  rw [hc.1.1] at hy
  exact .inl hy
 ·cases e
  rcases hk with z | z
  ·subst z;exact .inr hy
  ·subst z;exact .inl hy
theorem inv_compC {own:List Str}{caps:List Nat}{scope:Scope}{fp:List Addr}{D C:Addr}{o:Obj} {h1:Heap}{tk:Nat} (I:Inv X pins σ H s) (S:CompScopeC own caps X.N X.env.scope scope)
  (f:∀ b∈fp,FpOk X pins H b) (fl:∀ b∈fp,b < s.heap.objs.size) (hD:s.heap.objs.size<=D) (hC:s.heap.objs.size<=C) (hDC:D≠C) (keep:∀ b o,s.heap.get? b=some o->h1.get? b=some o)
  (hns:h1.Ns C λ_=>none) (hacc:h1.get? D=some o) (ho:∀ v,o.data≠.cell v) (hcc:CellsOk h1 (C + 1) (cellsFrom (C + 1) scope.names [])) :
  Inv (cxCompC X own caps scope s H fp C) [(D,o)] (tau0 own.length caps σ) H { s with heap:=h1,toks:=tk }:=by
 have sub:∀ b∈frs X.stack,b < s.heap.objs.size:=λb hb=>by
  rcases zC.mp (I.stkSub b hb) with e | hb
  ·rw [e];exact I.lt
  ·by_cases q:b < s.heap.objs.size
   ·exact q
   ·exact absurd hb (I.nofs (yl q))
 have newGe:∀ {x:Str}{c:Addr},(cellsFrom (C + 1) scope.names []).lookup x=some c->C < c:=λ{x c} e=>(hcc.empty _ _ (za e)).2
 have newOld:∀ {x y:Str}{c:Addr},(cellsFrom (C + 1) scope.names []).lookup x=some c->X.env.cells.lookup y=some c->False:=λ{x y c} e e'=>by
  obtain ⟨v,ob,hob,_⟩:=I.cell y c e'
  exact absurd (Heap.lt_size hob) (Nat.not_lt.mpr (zm hC (yb (newGe e))))
 have ownC:∀ {x:Str}{c:Addr},(scope.names.lookup x == some NameKind.cell)=true->(clC scope X.env C).lookup x=some c->C < c:=λ{x c} z e=>by
  have z':scope.names.lookup x=some .cell:=by
   cases q:scope.names.lookup x with
   | none=>rw [q] at z;cases z
   | some k=>rw [q] at z;cases k <;> first | rfl | cases z
  obtain ⟨d,hd⟩:=cellsFrom_has (C + 1) scope.names x (za z')
  obtain ⟨d',hd'⟩:=lookup_of_mem _ _ _ hd
  rcases wL e with e | ⟨e,_⟩
  ·exact newGe e
  ·rw [hd'] at e;cases e
 refine ⟨⟨I.ok.mod,S.kind,I.ok.glob,I.ok.blt,hC,λx y c h1 h2=>?_,λx hx=>?_,λx c z e=>zm hC (yb (ownC z e)),I.ok.hd,I.ok.frames,.inl rfl,
   λb hb=>⟨zZ (zU (fl b hb) hC),λx c e=>?_⟩,I.bs,zm I.ok.bsz I.sz,λb ob e hb=>?_,λb hb hs=>?_,I.stack,I.stkFree⟩,
  rfl,I.bare,Un.kept keep,⟨_,hns,λi x v e1 e2 e3=>?_⟩,λx c e=>?_,I.hok.fresh hC,λx c e=>?_,λp hp=>?_,I.hok.kept keep,?_⟩
 ·rcases wL h1 with h1 | ⟨n1,h1⟩ <;> rcases wL h2 with h2 | ⟨n2,h2⟩
  ·exact name_of_addr hcc.apart (za h1) (za h2)
  ·exact (newOld h1 h2).elim
  ·exact (newOld h2 h1).elim
  ·exact I.ok.inj x y c h1 h2
 ·have hm:(x,NameKind.free)∈scope.names\/(x,NameKind.cell)∈scope.names:=by
   rcases hx with hx | hx
   ·exact cf_kind (.inl rfl) hx
   ·exact cf_kind (.inr rfl) hx
  show ∃ c,(clC scope X.env C).lookup x=some c
  unfold clC
  rw [lookup_app]
  cases z:(cellsFrom (C + 1) scope.names []).lookup x with
  | some d=>exact ⟨d,rfl⟩
  | none=>
   rcases hm with hm | hm
   ·obtain ⟨c,hc⟩:=I.ok.has x (S.fr _ hm rfl)
    exact ⟨c,clOf_some hm hc⟩
   ·obtain ⟨c,hc⟩:=cellsFrom_has (C + 1) scope.names x hm
    obtain ⟨d,hd⟩:=lookup_of_mem _ _ _ hc
    rw [z] at hd;cases hd
 ·rcases wL e with e | ⟨_,e⟩
  ·have:=newGe e
   exact λq=>by rw [q] at this;exact absurd (fl b hb) (Nat.not_lt.mpr (zm hC (yb this)))
  ·exact (f b hb).2.2.2.2.1 x c e
 ·rcases (f b hb).2.2.2.1 with z | z
  ·exact I.ok.noex b ob e z
  ·exact absurd (zU (Heap.lt_size e) (zm I.ok.bsz z)) (zp _)
 ·rcases zC.mp (I.stkSub b hs) with e | e
  ·exact (f b hb).2.1 e
  ·exact (f b hb).2.2.1 e
 ·have e2':(List.replicate own.length (none:Option V)++caps.map λi=>(σ[i]?).join)[i]?=some (some v):=e2
  have e1':(own++caps.map (λi=>(X.N[i]?).getD Str.empty))[i]?=some x:=e1
  have hi:own.length<=i:=by
   by_cases q:i < own.length
   ·rw [yB (by simpa using q),z4,if_pos q] at e2'
    cases e2'
   ·exact yl q
  rw [zo (by simpa using hi),zX,zG] at e2'
  rw [zo hi,zG] at e1'
  cases ek:caps[i - own.length]? with
  | none=>rw [ek] at e1';cases e1'
  | some k=>
   rw [ek] at e1' e2'
   have ex:(X.N[k]?).getD Str.empty=x:=Option.some.inj e1'
   have ev:(σ[k]?).join=some v:=Option.some.inj e2'
   have ev':σ[k]?=some (some v):=by
    cases q:σ[k]? with
    | none=>rw [q] at ev;cases ev
    | some y=>rw [q] at ev;exact congrArg some ev
   obtain ⟨hl,hf⟩:=S.cap k (zD ek)
   have eN:X.N[k]?=some x:=by
    rw [zH hl] at ex ⊢
    exact congrArg some ex
   rw [ex] at hf
   have hm:=za hf
   have hfr:=S.fr _ hm rfl
   obtain ⟨m,_,hl'⟩:=I.loc
   obtain ⟨u,ru,lk⟩:=hl' k x v eN ev' (.inr hfr)
   have nn:(cellsFrom (C + 1) scope.names []).lookup x=none:=by
    cases z:(cellsFrom (C + 1) scope.names []).lookup x with
    | none=>rfl
    | some d=>
     have q:=S.cel _ (cellsFrom_mem _ _ _ _ (za z)) rfl
     have q':scope.names.lookup x=some .cell:=q
     rw [hf] at q';cases q'
   refine ⟨u,ru,.inr ⟨wA hf,?_⟩⟩
   rcases lk with ⟨kl,_⟩ | ⟨_,c,hc,ob,hob,hd⟩
   ·have kl':X.env.scope.names.lookup x=some .local:=kl
    rcases hfr with z | z
    ·have z':X.env.scope.names.lookup x=some .cell:=z
     rw [z'] at kl';cases kl'
    ·have z':X.env.scope.names.lookup x=some .free:=z
     rw [z'] at kl';cases kl'
   ·exact ⟨c,by show (clC scope X.env C).lookup x=some c;unfold clC;rw [lookup_app,nn];exact clOf_some hm hc,ob,keep c ob hob,hd⟩
 ·rcases wL e with e | ⟨_,e⟩
  ·exact ⟨_,(hcc.empty _ _ (za e)).1⟩
  ·obtain ⟨v,ob,hob,hd⟩:=I.cell x c e
   exact ⟨v,ob,keep c ob hob,hd⟩
 ·rcases wL e with e | ⟨_,e⟩
  ·exact I.hok.fresh (zm hC (yb (newGe e)))
  ·exact I.freeC x c e
 ·have e:p=(D,o):=by simpa using (show p∈[]++[(D,o)] from hp)
  subst e
  refine ⟨hacc,I.hok.fresh hD,hDC,λz=>?_,ho⟩
  exact absurd (zU (sub D z) hD) (zp _)
 ·show (tau0 own.length caps σ).length=(own++caps.map (λi=>(X.N[i]?).getD Str.empty)).length
  simp [tau0]
theorem ps_setCompC {ix:Nat}{xn:Str}{pos' spos:Pos}{own:List Str}{caps:List Nat}{elt tg iter:Expr}{ifs:List Expr}{scope:Scope}{pos:Pos}{wi:TI}{g:TG}{tc:TT}{te:TE} (hN:X.N.Nodup) (hix:X.N[ix]?=some xn) (hxl:Loc X.env.scope xn) (hc:X.calm=true) (S:CompScopeC own caps X.N X.env.scope scope) (hi:PI X tg iter wi)
  (hg:∀ s H fp C,PG (cxCompC X own caps scope s H fp C) tg g) (ht:∀ s H fp C,PTs (cxCompC X own caps scope s H fp C) ifs tc) (he:∀ s H fp C,PE (cxCompC X own caps scope s H fp C) elt te)
  (hs:∀ x,foldedSetIterable iter X.env x=pure x:=by intro _;rfl) (hsw:swapsWith (.ListComp elt [⟨tg,iter,ifs,0⟩] scope pos) (some (.Name xn pos')) spos.line X.env=pure true:=by rfl)
  (hf:X.fn xn=true\/X.env.scope.names.lookup xn=some .local:=by first | exact .inl rfl | exact .inr rfl | assumption) :
  PS X (.Assign [.Name xn pos'] (.ListComp elt [⟨tg,iter,ifs,0⟩] scope pos) spos) (tAsg (tComp own.length caps wi g tc te) (gName ix)):=by
 intro pins s σ H D0 I h
 rw [exec_Assign_Name_used _ _ _ _ hsw,arm_evalThenUse_ListComp]
 suffices main:wpAny (model X.prog X.w) X.A (comprehension (.ListComp elt [⟨tg,iter,ifs,0⟩] scope pos) scope X.env (firstIterPos [⟨tg,iter,ifs,0⟩] pos) (newList []) false (eval iter X.env) (some (assign (.Name xn pos') X.env))) (λ_ s1=>SP X pins D0 .next s1) X.xe s from
  wpAny_bind (wpAny_standAt (wpAny_bind (wpAny_bind (wpAny_mono main (λ_ s1 h=>wpAny_pure (wpAny_pure h)) λ_ _ e=>e))))
 refine wpAny_comprehension_free (use:=some _) (cl:=clOf scope.names X.env []) rfl hs (closureFor_eq λy hy e=>I.ok.has y.1 (S.fr y hy e)) S.kind S.loc
  (wpAny_mono (hi pins s σ H _ I h) (λv s1 h1=>thn h1 λitv s2 h2=>?_) λ_ _ e=>e)
 obtain ⟨it,fp,tn,J,H2,e,I2,T,st2,f2,W,⟨m0,w0⟩,turn⟩:=h2
 subst e
 refine wpAny_newObj_type (wpAny_newFunctionEnv_cc (λh₁ hns₁ hsb₁ hcc₁=>?_))
 dsimp only at hns₁ hsb₁ hcc₁ ⊢
 generalize hH2:s2.heap.push { cls:=.type "list", dict:=none,data:=.seq ([]:List Value).toArray }=G at hns₁ hsb₁ hcc₁ ⊢
 have hG:G.objs.size=s2.heap.objs.size + 1:=by rw [<-hH2,Heap.size_push]
 have hDC:s2.heap.objs.size≠G.objs.size:=by rw [hG];exact zZ (Nat.lt_succ_self _)
 have hCle:s2.heap.objs.size<=G.objs.size:=by rw [hG];exact Nat.le_succ _
 have below:∀ b,b < s2.heap.objs.size->b≠G.objs.size:=λb hb=>by rw [hG];exact zZ (yd hb)
 have old:∀ b o,s2.heap.get? b=some o->h₁.get? b=some o:=λb o e=>hsb₁ b o (hH2 ▸ Heap.get?_push_of_some _ e)
 have hacc:h₁.get? s2.heap.objs.size=some { cls:=.type "list", dict:=none,data:=.seq ([]:List Value).toArray }:=hsb₁ _ _ (hH2 ▸ Heap.get?_push_size _ rfl)
 have fl:∀ b∈fp,b < s2.heap.objs.size:=λb hb=>let ⟨o,e,_⟩:=T.obj _ _ st2 b hb;Heap.lt_size e
 have hns₁':h₁.Ns G.objs.size λ_=>none:=hns₁
 have I4:=inv_compC (tk:=s2.toks) I2 S f2 fl (zF _) hCle hDC old hns₁' hacc (λv z=>nomatch z) hcc₁
 have st4:tn 0 h₁:=T.keep _ _ _ st2 λb _ o e=>old b o e
 generalize hs4:({ s2 with heap:=h₁,toks:=s2.toks }:Shared)=s4 at I4 ⊢
 have e4:s4.heap=h₁:=by rw [<-hs4]
 rw [<-e4] at st4
 -- the loop
 have loop:codeAny (model X.prog X.w) X.A (.compLoop (.ListComp elt [⟨tg,iter,ifs,0⟩] scope pos) 0 (.ref it) (.ref s2.heap.objs.size) (compEnvC scope (clC scope X.env G.objs.size) G.objs.size X.env))
   (compPost (model X.prog X.w) X.A X.xe (some (assign (.Name xn pos') X.env)) (λ_ s1=>SP X pins D0 .next s1) (.ref s2.heap.objs.size) G.objs.size) s4:=by
  let Y:=cxCompC X own caps scope s2 H2 fp G.objs.size
  have stat:∀ {H':Hp}{its:List Value}{n:Nat},(∀ b∈fp,H' b=none)->∀ b∈fp,FpOk Y [(s2.heap.objs.size,({ cls:=.type "list", data:=.seq its.toArray n }:Obj))] H' b:=λ{H' its n} hn b hb=>by
   refine ⟨hn b hb,below b (fl b hb),λz=>?_,.inl hb,λx c e=>?_,λp hp=>?_⟩
   ·rcases zC.mp (I2.stkSub b z) with e | e
    ·exact (f2 b hb).2.1 e
    ·exact (f2 b hb).2.2.1 e
   ·rcases wL e with e | ⟨_,e⟩
    ·have:=(hcc₁.empty _ _ (za e)).2
     exact λq=>by rw [q] at this;exact absurd (fl b hb) (Nat.not_lt.mpr (zm hCle (yb this)))
    ·exact (f2 b hb).2.2.2.2.1 x c e
   ·have e:p=(s2.heap.objs.size,({ cls:=.type "list", data:=.seq its.toArray n }:Obj)):=by simpa using (show p∈[]++[_] from hp)
    subst e
    exact yE (fl b hb)
  refine loop_comp (λn s'=>∃ i τ acc its k H',Inv Y [(s2.heap.objs.size,({ cls:=.type "list", data:=.seq its.toArray k }:Obj))] τ H' s'/\tn i s'.heap/\(∀ b∈fp,H' b=none)/\Vals acc its/\W i n τ acc H') ?_ m0
   ⟨0,_,[],[],0,H2,I4,st4,λb hb=>(f2 b hb).1,.nil,w0⟩
  rintro n s5 ⟨i,τ,acc,its,k,H5,I5,st5,fr5,rv5,w5⟩
  rcases turn i n τ acc H5 w5 with ⟨stop,hz,q⟩ | ⟨go,hz,step⟩
  ·refine thn (T.done Y rfl rfl rfl hc i _ s5 τ H5 (λ_ _=>False) I5 (stat fr5) st5 stop) λr s6 ⟨hr,I6⟩=>?_
   subst hr
   obtain ⟨eD,nD,_,_,_⟩:=I6.pin _ (zJ _ (zE.mpr rfl))
   obtain ⟨m6,hm6,_⟩:=I6.loc
   have hC6:H5 G.objs.size=none:=I6.free
   have hok6:HOk X.prog X.w H5 s6.heap:=I6.hok
   have ub:=I6.base
   have IX:Inv X pins σ (upd H5 s2.heap.objs.size (.lst acc)) s6:=by
    refine I2.call' (ch:=fp) (s':=s6) I6.os ⟨λb o e n' hb hx=>ub.keep b o e n' hb hx,λb o e n' hb hx=>?_,λb o e n' hx=>?_,λb o e hx=>?_,λb xs e=>?_,λb o u e=>?_,λb ps e=>?_⟩
     (hok6.track nD ⟨hz,its,k,rv5,eD⟩) I6.bare λb hb=>⟨(f2 b hb).2.2.2.1,(f2 b hb).2.1,(f2 b hb).2.2.2.2.1,(f2 b hb).2.2.2.2.2⟩
    ·exact ub.slot b o e n' hb hx
    ·rw [xG (zZ (Heap.lt_size e))]
     exact ub.free b o e n' hx
    ·exact ub.there b o e hx
    ·have z:=ub.tups b xs e
     rw [xG (xA z nD)];exact z
    ·have z:=ub.frzs b o u e
     rw [xG (xA z nD)];exact z
    ·obtain ⟨more,z⟩:=ub.tbls b ps e
     exact ⟨more,by rw [xG (xA z nD)];exact z⟩
   have hCX:(upd H5 s2.heap.objs.size (.lst acc)) G.objs.size=none:=by rw [xG (Ne.symm hDC)];exact hC6
   have fC:FpOk X pins (upd H5 s2.heap.objs.size (.lst acc)) G.objs.size:=I2.fpOk hCle hCX
   obtain ⟨oC,esC,epC,gC,dC,rC⟩:=hm6
   have IP:=IX.pinned (fp:=[G.objs.size]) (λb hb=>by cases zE.mp hb;exact fC) (λb hb=>by cases zE.mp hb;exact ⟨oC,gC,λv z=>by rw [dC] at z;cases z⟩)
   refine wpAny_assign_Name (store_ok IP hN hix hxl (v:=.ref s2.heap.objs.size) rfl (λs7 I7=>?_) hf)
   have pC:=(I7.pin (G.objs.size,oC) (zJ _ (zJ _ (xy (zE.mpr rfl) gC)))).1
   refine ⟨m6,⟨oC,esC,epC,pC,dC,rC⟩,λh' hsb=>?_⟩
   have I8:Inv X pins (σ.set ix (some (.ref s2.heap.objs.size))) (upd H5 s2.heap.objs.size (.lst acc)) { s7 with heap:=h' }:=I7.unpinned.turned (t':=s7.toks) (λb o hb e=>hsb.extBut b o hb e) fC.1 fC.2.1 fC.2.2.2.1 fC.2.2.2.2.1 fC.2.2.2.2.2
   exact ⟨_,_,I8,q _ nD⟩
  ·refine thn (T.item Y rfl rfl rfl hc i _ s5 τ H5 (λ_ _=>False) I5 (stat fr5) st5 go) λr s6 ⟨u,hr,h6⟩=>?_
   subst hr
   refine thn h6 λ_ s7 ⟨x,H7,I7,r7,y7,st7,fr7⟩=>?_
   have I7':=I7.pinned (stat fr7) (T.obj _ _ st7)
   refine thn (hg s2 H2 fp G.objs.size _ s7 τ H7 x u _ I7' r7 (step x H7 y7)) λ_ s8 ⟨τ8,H8,I8,q8⟩=>?_
   refine thn (ht s2 H2 fp G.objs.size _ s8 τ8 H8 _ I8 q8) λok s9 ⟨H9,I9,q9⟩=>?_
   -- the iterator's state behind the turn
   have back:∀ {s':Shared}{τ':St}{H':Hp},Inv Y ([(s2.heap.objs.size,({ cls:=.type "list", data:=.seq its.toArray k }:Obj))]++pinsAt fp s7.heap) τ' H' s'->(tn (i + 1) s'.heap/\∀ b∈fp,H' b=none):=λ{s' τ' H'} Ib=>
    ⟨T.keep _ _ _ st7 λb hb o e=>(Ib.pin (b,o) (zJ _ (zJ _ (xy hb e)))).1,λb hb=>by
     obtain ⟨o,e,d⟩:=T.obj _ _ st7 b hb
     exact (Ib.pin (b,o) (zJ _ (zJ _ (xy hb e)))).2.1⟩
   cases ok with
   | false=>
    obtain ⟨m',hm',w'⟩:=q9
    obtain ⟨sb,fb⟩:=back I9
    exact ⟨m',hm',i + 1,τ8,acc,its,k,H9,I9.unpinned,sb,fb,rv5,w'⟩
   | true=>
    refine thn (he s2 H2 fp G.objs.size _ s9 τ8 H9 _ I9 q9) λy s10 ⟨yv,H10,I10,r10,q10⟩=>?_
    obtain ⟨m',hm',w'⟩:=q10
    obtain ⟨sb,fb⟩:=back I10
    obtain ⟨eD,nD,neD,nfD,_⟩:=I10.pin (s2.heap.objs.size,_) (zJ _ (yI _ (zE.mpr rfl)))
    have hl:acc.length=its.length:=rv5.length
    refine call_meets F.slot_list_append ⟨_,eD,rfl⟩ F.entry_list_append (F.args_list_append_2 _ _) (PySem.list_append s2.heap.objs.size its.toArray k y (by rw [zO];omega)) ⟨eD,?_⟩
    have q:=PySem.IsL.update eD (λa:Array Value=>a.push y)
    have Iu:Inv Y [] τ8 H10 s10:=I10.pins_of λp hp=>nomatch hp
    have It:=Iu.turned (t':=s10.toks) (it:=s2.heap.objs.size) (h':=s10.heap.update s2.heap.objs.size (Obj.mapSeq (λa:Array Value=>a.push y))) (λb o hb e=>(Heap.get?_update_other s10.heap _ (Ne.symm hb)).trans e) nD neD (.inr (zF _))
     (λx c e z=>by
      rcases wL e with e | ⟨_,e⟩
      ·have:=(hcc₁.empty _ _ (za e)).2
       rw [z] at this
       exact absurd (Nat.lt_of_le_of_lt hCle this) (zp _)
      obtain ⟨v,ob,hob,_⟩:=I2.cell x c e
      exact absurd (Heap.lt_size hob) (by rw [z];exact zp _)) (λp hp=>nomatch hp)
    have It':=It.pins_of (pins':=[(s2.heap.objs.size,({ cls:=.type "list", data:=.seq (its++[y]).toArray (k + 1) }:Obj))]) λp hp=>by
     have e:p=_:=zE.mp hp
     subst e
     exact ⟨by simpa using q,nD,neD,nfD,λv z=>nomatch z⟩
    refine ⟨m',hm',i + 1,τ8,acc++[yv],its++[y],_,H10,It',T.keep _ _ _ sb λb hb o e=>(Heap.get?_update_other s10.heap _ (yE (fl b hb))).trans e,fb,rv5.append (.cons r10 .nil),w'⟩
 exact codeAny_compStart_list loop (T.self _ 0 s4 _ _ st4 loop)
end
theorem lookup_relabel_cell {env:Env}:∀ {names:List (Str×NameKind)}{x:Str},names.lookup x=some .cell ->
  (names.map λ(n,k)=>if (k == NameKind.free && env.scope.kind == .function && env.kindOf n == some .cell) then (n,NameKind.cell) else (n,k)).lookup x=some .cell
 | [],_,h=>by simp at h
 | (n,k)::r,x,h=>by
  have ih:=@lookup_relabel_cell env r x
  show List.lookup x ((if (k == NameKind.free && env.scope.kind == .function && env.kindOf n == some .cell)=true then (n,NameKind.cell) else (n,k))::_)=_
  by_cases hc:(k == NameKind.free && env.scope.kind == .function && env.kindOf n == some .cell)=true
  ·rw [if_pos hc]
   cases hx:x == n with
   | true=>simp [zt,hx]
   | false=>
    simp only [zt,hx] at h ⊢
    exact ih h
  ·rw [if_neg hc]
   cases hx:x == n with
   | true=>simp only [zt,hx] at h ⊢;exact h
   | false=>
    simp only [zt,hx] at h ⊢
    exact ih h
theorem CompScope.inn {own:List Str}{caps:List Nat}{N:List Str}{so scope:Scope}{env:Env} (h1:scope.kind=.function) (h2:∀ y∈scope.names,y.2≠.cell) (h3:∀ y∈scope.names,y.2=.local->scope.names.lookup y.1=some .local)
  (h4:∀ y∈scope.names,y.2=.free->so.names.lookup y.1=some .cell\/so.names.lookup y.1=some .free) (h5:∀ i∈caps,i < N.length/\scope.names.lookup ((N[i]?).getD Str.empty)=some .free):CompScope own caps N (relabel so env) scope:=
 ⟨h1,h2,h3,λy hy e=>(h4 y hy e).elim (λz=>.inl (lookup_relabel_cell z)) λz=>wA z,h5⟩
end L2
namespace L2
theorem call_sumLK {X:Cx}{K:PySem.W.Frag} (hK:X.K=K) (hc:X.calm=true):CallR X (.builtin "sum") (λxs H Q=>∃ p ns,xs=[.ref p]/\SqL K H p (List.map V.int ns)/\Q (.int ns.sum) H):=by subst hK;exact call_sumL hc
end L2
namespace Sm
open PySem L2
structure S3 where
 w:Int
 t:Int
 m:Int
structure SacksAt (H:Hp) (l:Addr) (ps:List (Addr×S3)):Prop where
 l:H l=some (.lst (ps.map λa=>V.ref a.1))
 each:∀ a∈ps,H a.1=some (.tup [.int a.2.w,.int a.2.t,.int a.2.m])
theorem SacksAt.same {H H':Hp}{l:Addr}{ps:List (Addr×S3)} (h:SacksAt H l ps) (s:Same H H'):SacksAt H' l ps:=⟨s _ _ h.l,λa ha=>s _ _ (h.each a ha)⟩
structure R4 where
 th:Int
 bk:Int
 bg:List Int
 cm:List Int
structure RA where
 a:Addr
 b:Addr
 c:Addr
 r:R4
structure RA.At (H:Hp) (x:RA):Prop where
 a:H x.a=some (.tup [.int x.r.th,.int x.r.bk,.ref x.b,.ref x.c])
 b:H x.b=some (.lst (x.r.bg.map V.int))
 c:H x.c=some (.lst (x.r.cm.map V.int))
theorem RA.At.same {H H':Hp}{x:RA} (h:RA.At H x) (s:Same H H'):RA.At H' x:=⟨s _ _ h.a,s _ _ h.b,s _ _ h.c⟩
structure T3 where
 k:Int
 j:Int
 m:Int
structure PlanAt (H:Hp) (p:Addr) (lr ls:Addr) (xs:List RA) (ts:List (Addr×T3)):Prop where
 p:H p=some (.tup [.ref lr,.ref ls])
 lr:H lr=some (.lst (xs.map λx=>V.ref x.a))
 ls:H ls=some (.lst (ts.map λx=>V.ref x.1))
 rows:∀ x∈xs,RA.At H x
 ones:∀ x∈ts,H x.1=some (.tup [.int x.2.k,.int x.2.j,.int x.2.m])
theorem PlanAt.same {H H':Hp}{p lr ls:Addr}{xs:List RA}{ts:List (Addr×T3)} (h:PlanAt H p lr ls xs ts) (s:Same H H'):PlanAt H' p lr ls xs ts:=
 ⟨s _ _ h.p,s _ _ h.lr,s _ _ h.ls,λx hx=>(h.rows x hx).same s,λx hx=>s _ _ (h.ones x hx)⟩
structure R4.ok (n m:Nat) (r:R4):Prop where
 th:0<=r.th
 bk:0<=r.bk
 bl:r.bg.length=n
 cl:r.cm.length=m
 b0:∀ x∈r.bg,(0:Int)<=x
 c0:∀ x∈r.cm,(0:Int)<=x
structure T3.ok (n m:Nat) (t:T3):Prop where
 k:0<=t.k/\t.k < n
 j:0<=t.j/\t.j < m
 m:0 < t.m
def cntB:V->Bool
 | .int i=>decide (0<=i)
 | _=>false
def spCount:Sp:=λvs H Q _=>∃ x t,vs=[x]/\tyS H x=some t/\Q (.bl (cntB x)) H
def spCounts:Sp:=λvs H Q _=>∃ l ns,∃ n:Nat,vs=[.ref l,.int n]/\H l=some (.lst (List.map V.int ns))/\ns.length=n/\n<=100/\(∀ x∈ns,(0:Int)<=x)/\∀ H',Same H H'->Q (.bl true) H'
def spRowForm:Sp:=λvs H Q _=>∃ ll lw ls ws x,vs=[.ref ll,.ref lw,.ref x.a]/\SacksAt H ll ls/\SacksAt H lw ws/\ls.length<=100/\ws.length<=100/\RA.At H x/\x.r.ok ls.length ws.length/\∀ H',Same H H'->Q (.bl true) H'
def spStrForm:Sp:=λvs H Q _=>∃ ll lw ls ws a t,vs=[.ref ll,.ref lw,.ref a]/\SacksAt H ll ls/\SacksAt H lw ws/\H a=some (.tup [.int t.k,.int t.j,.int t.m])/\T3.ok ls.length ws.length t/\∀ H',Same H H'->Q (.bl true) H'
structure PlanOk (nm nl nw:Nat) (xs:List RA) (ts:List (Addr×T3)):Prop where
 n:xs.length=nm
 m60:nm<=60
 l:nl<=100
 w:nw<=100
 t:ts.length<=100
 rows:∀ x∈xs,x.r.ok nl nw
 ones:∀ x∈ts,T3.ok nl nw x.2
def spPlanForm:Sp:=λvs H Q _=>∃ b ll lw p rooms tr tm ps ls ws lr lt xs ts,vs=[.ref b,.ref ll,.ref lw,.ref p]/\BookAt H b rooms tr tm ps/\SacksAt H ll ls/\SacksAt H lw ws/\PlanAt H p lr lt xs ts/\PlanOk ps.length ls.length ws.length xs ts/\∀ H',Same H H'->Q (.bl true) H'
def strB (l w:S3):Bool:=decide (l.w=w.w) && decide (l.t<=w.t)
def spStraight1:Sp:=λvs H Q _=>∃ a b l w,vs=[.ref a,.ref b]/\H a=some (.tup [.int l.w,.int l.t,.int l.m])/\H b=some (.tup [.int w.w,.int w.t,.int w.m])/\Q (.bl (strB l w)) H
def strT (ls ws:List S3) (t:T3):Bool:=match ls[t.k.toNat]?,ws[t.j.toNat]? with
 | some l,some w=>strB l w
 | _,_=>false
theorem strT_eq {ls ws:List S3}{t:T3}{l w:S3} (h1:ls[t.k.toNat]?=some l) (h2:ws[t.j.toNat]?=some w):strT ls ws t=strB l w:=by unfold strT;rw [h1,h2]
def straightB (ls ws:List S3) (ts:List T3):Bool:=ts.all (strT ls ws)
def spMay:Sp:=λvs H Q _=>∃ ll lw lt ls ws,∃ ts:List (Addr×T3),vs=[.ref ll,.ref lw,.ref lt]/\SacksAt H ll ls/\SacksAt H lw ws/\H lt=some (.lst (ts.map λx=>V.ref x.1))/\(∀ x∈ts,H x.1=some (.tup [.int x.2.k,.int x.2.j,.int x.2.m]))/\ts.length<=100/\(∀ x∈ts,T3.ok ls.length ws.length x.2)/\(ts.map λx=>[x.2.k,x.2.j]).Nodup/\∀ H',Same H H'->Q (.bl (straightB (ls.map (·.2)) (ws.map (·.2)) (ts.map (·.2)))) H'
def ofW (ss:List S3) (ns:List Int) (w:Int):Int:=(((ss.zip ns).filter λp=>decide (p.1.w=w)).map (·.2)).sum
def spOf:Sp:=λvs H Q _=>∃ l n ps ns w,vs=[.ref l,.ref n,.int w]/\SacksAt H l ps/\H n=some (.lst (List.map V.int ns))/\ns.length=ps.length/\ps.length<=100/\∀ H',Same H H'->Q (.int (ofW (ps.map (·.2)) ns w)) H'
def mayB (r:M4) (bad:S3->Bool) (p:S3×Int):Bool:=!(decide (p.2 > 0) && (!(decide (p.1.w=r.lo) || decide (p.1.w=r.hi)) || bad p.1))
def withinB (r:M4) (ls ws:List S3) (x:R4):Bool:=
 ((ls.zip x.bg).all (mayB r λs=>decide (s.t ≥ r.t))) && ((ws.zip x.cm).all (mayB r λs=>decide (s.t < r.t))) && decide (x.th + x.bk<=r.m)
def spWithinP:Sp:=λvs H Q _=>∃ m r ll lw ls ws x,vs=[.ref m,.ref ll,.ref lw,.ref x.a]/\H m=some (.tup [.int r.lo,.int r.hi,.int r.t,.int r.m])/\SacksAt H ll ls/\SacksAt H lw ws/\ls.length<=100/\ws.length<=100/\RA.At H x/\x.r.bg.length=ls.length/\x.r.cm.length=ws.length/\∀ H',Same H H'->Q (.bl (withinB r (ls.map (·.2)) (ws.map (·.2)) x.r)) H'
def bag (bs:List Int) (w:Int):Int:=bs.getD w.toNat 0
def goesB (bs:List Int) (w o i:Int):Bool:=decide (0<=o) && decide (o<=bag bs w) && decide (0<=i)
def behindF (bs:List Int) (r:M4) (ls ws:List S3) (x:R4):Option (List Int):=
 if goesB bs r.lo (x.th - ofW ls x.bg r.lo) (x.bk - ofW ws x.cm r.lo) && goesB bs r.hi (x.bk - ofW ls x.bg r.hi) (x.th - ofW ws x.cm r.hi) then
  some ((bs.set r.lo.toNat (bag bs r.lo + ((x.bk - ofW ws x.cm r.lo) - (x.th - ofW ls x.bg r.lo)))).set r.hi.toNat (bag bs r.hi + ((x.th - ofW ws x.cm r.hi) - (x.bk - ofW ls x.bg r.hi))))
 else none
def turnI (bs:List Int) (r:M4) (ls ws:List S3) (x:R4):Nat->List Int->Prop
 | 0,cs=>cs=bs
 | 1,cs=>goesB bs r.lo (x.th - ofW ls x.bg r.lo) (x.bk - ofW ws x.cm r.lo)=true/\cs=bs.set r.lo.toNat (bag bs r.lo + ((x.bk - ofW ws x.cm r.lo) - (x.th - ofW ls x.bg r.lo)))
 | _,cs=>goesB bs r.lo (x.th - ofW ls x.bg r.lo) (x.bk - ofW ws x.cm r.lo)=true/\goesB bs r.hi (x.bk - ofW ls x.bg r.hi) (x.th - ofW ws x.cm r.hi)=true/\cs=(bs.set r.lo.toNat (bag bs r.lo + ((x.bk - ofW ws x.cm r.lo) - (x.th - ofW ls x.bg r.lo)))).set r.hi.toNat (bag bs r.hi + ((x.th - ofW ws x.cm r.hi) - (x.bk - ofW ls x.bg r.hi)))
theorem bagA {bs:List Int}{w:Int} (h0:0<=w) (h1:w < bs.length):atI (bs.map V.int) w=some (V.int (bag bs w)):=by
 obtain ⟨k,rfl⟩:=ze h0
 refine xh ?_
 rw [zG]
 unfold bag
 rw [zc,zP,zH (by omega)];rfl
theorem bagN {bs:List Int}{w:Int} (h0:0<=w) (h1:w < bs.length):(bs.map V.int)[w.toNat]?=some (V.int (bag bs w)):=by
 rw [zG]
 unfold bag
 rw [zP,zH (by omega)];rfl
theorem inV_two36 {x a b:Int}:inV (V.int x) [V.int a,V.int b]=(decide (x=a) || decide (x=b)):=by
 have:=inV_ints (x:=x) (bs:=[a,b])
 simp only [zz,yq] at this
 rw [this];by_cases c:x=a <;> by_cases d:x=b <;> simp [c,d]
theorem ixNI {n:Nat}{i:Int} (h0:0<=i) (h1:i < n):ixN n i=some i.toNat:=by unfold ixN;rw [if_pos h0,if_pos h1]
theorem bagS {bs:List Int}{v w x:Int} (h0:0<=v) (h1:0<=w) (ne:v≠w):bag (bs.set v.toNat x) w=bag bs w:=by
 unfold bag
 rw [zP,zP,List.getElem?_set_ne (by omega)]
theorem bagS' {bs:List Int}{v x:Int} (h0:0<=v) (h1:v < bs.length):bag (bs.set v.toNat x) v=x:=by
 unfold bag
 rw [zP,List.getElem?_set_self (by omega)];rfl
def spBehindP:Sp:=λvs H Q _=>∃ lb,∃ bs:List Int,∃ m,∃ r:M4,∃ ll lw ls ws x,vs=[.ref lb,.ref m,.ref ll,.ref lw,.ref x.a]/\H lb=some (.lst (List.map V.int bs))/\(0<=r.lo/\r.lo < r.hi/\r.hi < bs.length)/\bs.length<=100/\H m=some (.tup [.int r.lo,.int r.hi,.int r.t,.int r.m])/\SacksAt H ll ls/\SacksAt H lw ws/\ls.length<=100/\ws.length<=100/\RA.At H x/\x.r.bg.length=ls.length/\x.r.cm.length=ws.length /\
 (behindF bs r (ls.map (·.2)) (ws.map (·.2)) x.r=none->∀ H',Same H H'->Q .non H')/\∀ cs,behindF bs r (ls.map (·.2)) (ws.map (·.2)) x.r=some cs->∀ p H',H p=none->Same H H'->H' p=some (.lst (cs.map V.int))->Q (.ref p) H'
def keptF (rooms:List Int) (ls ws:List S3):List (M4×R4)->List Int->Bool
 | [],_=>true
 | (r,x)::rest,bs=>withinB r ls ws x && match behindF bs r ls ws x with
  | none=>false
  | some cs=>((cs.zip rooms).all λp=>decide (p.1<=p.2)) && keptF rooms ls ws rest cs
def spKept:Sp:=λvs H Q _=>∃ b ll lw lr rooms tr tm ps ls ws,∃ xs:List RA,vs=[.ref b,.ref ll,.ref lw,.ref lr]/\BookAt H b rooms tr tm ps/\Good rooms.length (ps.map (·.2))/\rooms.length<=100/\SacksAt H ll ls/\SacksAt H lw ws/\ls.length<=100/\ws.length<=100/\H lr=some (.lst (xs.map λx=>V.ref x.a))/\(∀ x∈xs,RA.At H x)/\xs.length=ps.length/\(∀ x∈xs,x.r.bg.length=ls.length/\x.r.cm.length=ws.length) /\
 ∀ H',Same H H'->Q (.bl (keptF rooms (ls.map (·.2)) (ws.map (·.2)) ((ps.map (·.2)).zip (xs.map (·.r))) (List.replicate rooms.length 0))) H'
def totF (n:Nat) (rows:List (List Int)) (ps:List (Int×Int)):List Int:=(List.range n).map λ(k:Nat)=>(rows.map λr=>r.getD k 0).sum + ((ps.filter λx=>decide (x.1=(k:Int))).map (·.2)).sum
def spTotals:Sp:=λvs H Q _=>∃ n:Nat,∃ lr ls,∃ rs:List (Addr×List Int),∃ ts:List (Addr×Int×Int),vs=[.int n,.ref lr,.ref ls]/\n<=100/\H lr=some (.lst (rs.map λx=>V.ref x.1))/\(∀ x∈rs,H x.1=some (.lst (x.2.map V.int))/\x.2.length=n)/\rs.length<=60/\H ls=some (.lst (ts.map λx=>V.ref x.1))/\(∀ x∈ts,H x.1=some (.tup [.int x.2.1,.int x.2.2])/\0<=x.2.1/\x.2.1 < n)/\ts.length<=100 /\
 ∀ l H',H l=none->Same H H'->H' l=some (.lst ((totF n (rs.map (·.2)) (ts.map (·.2))).map V.int))->Q (.ref l) H'
def uptoB (ns:List Int) (ss:List S3):Bool:=(ns.zip ss).all λp=>decide (p.1<=p.2.m)
def spUptoM:Sp:=λvs H Q _=>∃ l a ns ps,vs=[.ref l,.ref a]/\H l=some (.lst (List.map V.int ns))/\SacksAt H a ps/\ns.length=ps.length/\ps.length<=100/\∀ H',Same H H'->Q (.bl (uptoB ns (ps.map (·.2)))) H'
def leftF (n:Nat) (xs:List R4) (ts:List T3):List Int:=totF n (xs.map (·.bg)) (ts.map λt=>(t.k,t.m))
def cameF (n:Nat) (xs:List R4) (ts:List T3):List Int:=totF n (xs.map (·.cm)) (ts.map λt=>(t.j,t.m))
def worthF (rooms:List Int) (ms:List M4) (ls ws:List S3) (xs:List R4) (ts:List T3):Option Int:=
 if straightB ls ws ts && keptF rooms ls ws (ms.zip xs) (List.replicate rooms.length 0) && (uptoB (leftF ls.length xs ts) ls && uptoB (cameF ws.length xs ts) ws) then some (cameF ws.length xs ts).sum else none
def spWorth:Sp:=λvs H Q _=>∃ b ll lw p rooms tr tm ps ls ws lr lt xs ts,vs=[.ref b,.ref ll,.ref lw,.ref p]/\BookAt H b rooms tr tm ps/\Good rooms.length (ps.map (·.2))/\rooms.length<=100/\SacksAt H ll ls/\SacksAt H lw ws/\PlanAt H p lr lt xs ts/\PlanOk ps.length ls.length ws.length xs ts/\(ts.map λx=>[x.2.k,x.2.j]).Nodup /\
 ∀ H',Same H H'->Q (oV (worthF rooms (ps.map (·.2)) (ls.map (·.2)) (ws.map (·.2)) (xs.map (·.r)) (ts.map (·.2)))) H'
theorem zip_at {α β:Type}{xs:List α}{ys:List β}{i:Nat}{x:α}{y:β} (hx:xs[i]?=some x) (hy:ys[i]?=some y):(xs.zip ys)[i]?=some (x,y):=by
 rw [List.getElem?_zip_eq_some];exact ⟨hx,hy⟩
theorem map2_at {α:Type}{ps:List (Addr×α)}{i:Nat}{r:Addr×α} (h:ps[i]?=some r):(ps.map (·.2))[i]?=some r.2:=by rw [zG,h];rfl
theorem all_snoc {α:Type}{xs:List α}{i:Nat}{x:α}{f:α->Bool} (h:xs[i]?=some x):(xs.take (i + 1)).all f=((xs.take i).all f && f x):=by
 rw [xY h,List.all_append,List.all_cons,List.all_nil,Bool.and_true]
theorem all_stop {α:Type}{xs:List α}{i:Nat}{x:α}{f:α->Bool} (h:xs[i]?=some x) (e:f x=false):xs.all f=false:=by
 rw [List.all_eq_false];exact ⟨x,zD h,by rw [e];exact zL⟩
theorem zip_len {α β:Type}{xs:List α}{ys:List β} (e:ys.length=xs.length):(xs.zip ys).length=xs.length:=by rw [List.length_zip];omega
theorem ofW_snoc {ss:List S3}{ns:List Int}{w:Int}{i:Nat}{s:S3}{n:Int} (hs:ss[i]?=some s) (hn:ns[i]?=some n) :
  ((((ss.zip ns).take (i + 1)).filter λp=>decide (p.1.w=w)).map (·.2))=((((ss.zip ns).take i).filter λp=>decide (p.1.w=w)).map (·.2))++if s.w=w then [n] else []:=by
 rw [xY (zip_at hs hn),List.filter_append,zB]
 by_cases c:s.w=w
 ·simp [c]
 ·simp [c]
theorem wH {n:Nat}{rows:List (List Int)}{ps:List (Int×Int)}:(totF n rows ps).length=n:=by unfold totF;rw [zA,List.length_range]
theorem totF_at {n k:Nat}{rows:List (List Int)}{ps:List (Int×Int)} (h:k < n):(totF n rows ps)[k]?=some ((rows.map λr=>r.getD k 0).sum + ((ps.filter λx=>decide (x.1=(k:Int))).map (·.2)).sum):=by
 unfold totF;rw [zG,List.getElem?_range h];rfl
theorem totF_snoc {n k:Nat}{rows:List (List Int)}{ps:List (Int×Int)}{m old:Int} (h:k < n) (e:(totF n rows ps)[k]?=some old):totF n rows (ps++[((k:Int),m)])=(totF n rows ps).set k (old + m):=by
 rw [totF_at h] at e
 refine List.ext_getElem? λi=>?_
 by_cases hi:i < n
 ·rw [totF_at hi,List.getElem?_set]
  by_cases c:k=i
  ·subst c
   rw [if_pos rfl,if_pos (by rw [wH];exact h)]
   rw [List.filter_append,zB,zu,<- Option.some.inj e]
   congr 1
   have:((List.filter (λx:Int×Int=>decide (x.1=(k:Int))) [((k:Int),m)]).map (·.2)).sum=m:=by simp
   rw [this];omega
  ·rw [if_neg c,totF_at hi,List.filter_append,zB,zu]
   have:(List.filter (λx:Int×Int=>decide (x.1=(i:Int))) [((k:Int),m)])=[]:=by
    rw [List.filter_cons,if_neg (by simp;omega)];rfl
   rw [this];simp
 ·rw [yP (by rw [wH];omega),yP (by rw [zq,wH];omega)]
theorem drop_at {α:Type}{xs:List α}{i:Nat}{x:α} (h:xs[i]?=some x):xs.drop i=x::xs.drop (i + 1):=by
 obtain ⟨hi,e⟩:=zK.mp h
 rw [List.drop_eq_getElem_cons hi,e]
theorem keptF_cons {rooms:List Int}{ls ws:List S3}{r:M4}{x:R4}{rest:List (M4×R4)}{bs:List Int}:keptF rooms ls ws ((r,x)::rest) bs=(withinB r ls ws x && match behindF bs r ls ws x with
  | none=>false
  | some cs=>((cs.zip rooms).all λp=>decide (p.1<=p.2)) && keptF rooms ls ws rest cs):=rfl
theorem behindF_len {bs:List Int}{r:M4}{ls ws:List S3}{x:R4}{cs:List Int} (h:behindF bs r ls ws x=some cs):cs.length=bs.length:=by
 unfold behindF at h
 split at h
 ·cases h;rw [zq,zq]
 ·cases h
end Sm
namespace Sm
open PySem L2
theorem same_go36 {p:Addr} {H H1 H2:Hp} (hp:H p=none) (s:Same H H1) (g:But p H1 H2):Same H H2:=λb u e=>g b u (xA e hp) (s b u e)
theorem Go.put' {p l:Addr}{H H':Hp}{o:HO} (g:Go p H H') (h:H l=none) (n:l≠p):Go p H (upd H' l o):=
 ⟨λb u nb e=>by rw [xG (xA e h)];exact g.1 b u nb e,by obtain ⟨a,b,c,e⟩:=g.2;exact ⟨a,b,c,by rw [xG n.symm];exact e⟩⟩
def spSack36:Sp:=λvs H Q _=>∃ p b j rooms tr tm ps,∃ n:Nat,vs=[.ref p,.ref b,.int n,.int j]/\(j=0\/j=1)/\BookAt H b rooms tr tm ps/\Good rooms.length (ps.map (·.2))/\1<=n/\n<=1000/\Purse H p /\
 ∀ t (s:S3) H',Go p H H'->H' t=some (.tup [.int s.w,.int s.t,.int s.m])->0<=s.w->s.w < n->1<=s.m->s.m<=99->Q (.ref t) H'
def spSacks36 (K:PySem.W.Frag):Sp:=λvs H Q _=>∃ sa b hd j rooms tr tm ps ns,∃ n:Nat,∃ H0,vs=[.ref sa,.ref b,.ref hd,.int n,.int j]/\SqL K H0 sa (List.map V.int ns)/\ns.length<=63/\H0 hd=none/\Same H0 H/\n < 100/\(j=0\/j=1)/\BookAt H b rooms tr tm ps/\Good rooms.length (ps.map (·.2))/\1<=rooms.length/\rooms.length<=12/\Purse H hd /\
 ∀ l (ss:List (Addr×S3)) H',H l=none->Go hd H H'->SacksAt H' l ss->ss.length<=8->(∀ a∈ss,0<=a.2.w/\a.2.w < rooms.length/\1<=a.2.m/\a.2.m<=99)->Q (.ref l) H'
def fitB (j:Int) (s:S3) (t:Int):Bool:=if j=0 then decide (s.t < t) else decide (s.t ≥ t)
def spGoes36:Sp:=λvs H Q _=>∃ ls lr w t j,∃ ps:List (Addr×S3),∃ rs,vs=[.ref ls,.ref lr,.int w,.int t,.int j]/\SacksAt H ls ps/\H lr=some (.lst (List.map V.int rs))/\rs.length=ps.length/\ps.length<=100/\(j=0\/j=1) /\
 ∀ l (ks:List Nat) H',H l=none->Same H H'->H' l=some (.lst (ks.map λk:Nat=>V.int (k:Int)))->(∀ k∈ks,∃ s r,(ps.map (·.2))[k]?=some s/\rs[k]?=some r/\s.w=w/\fitB j s t=true/\0 < r)->ks.length<=ps.length->Q (.ref l) H'
end Sm
namespace Sm
open PySem L2
def g36 (xs:List Int) (k:Nat):Int:=xs.getD k 0
theorem wF {xs:List Int}{k:Nat} (h:k < xs.length):xs[k]?=some (g36 xs k):=by
 unfold g36;rw [zP,zH h];rfl
theorem wS {xs:List Int}{k:Nat} (h:k < xs.length):g36 xs k∈xs:=zD (wF h)
theorem g36_set {xs:List Int}{k:Nat}{v:Int} (h:k < xs.length):g36 (xs.set k v) k=v:=by
 unfold g36;rw [zP,List.getElem?_set_self h];rfl
theorem g36_set' {xs:List Int}{k j:Nat}{v:Int} (h:k≠j):g36 (xs.set k v) j=g36 xs j:=by
 unfold g36;rw [zP,zP,List.getElem?_set_ne h]
structure Hf (ss:List S3) (ok:S3->Prop) (bg rs rs':List Int):Prop where
 bl:bg.length=ss.length
 rl:rs.length=ss.length
 rl':rs'.length=ss.length
 b0:∀ x∈bg,(0:Int)<=x
 r0:∀ x∈rs',(0:Int)<=x
 gw:∀ k s,ss[k]?=some s->0 < g36 bg k->ok s
 eq:∀ k:Nat,k < ss.length->g36 rs' k=g36 rs k - g36 bg k
theorem Hf.start {ss:List S3}{ok:S3->Prop}{rs:List Int} (h:rs.length=ss.length) (r0:∀ x∈rs,(0:Int)<=x):Hf ss ok (List.replicate ss.length 0) rs rs where
 bl:=zX ..
 rl:=h
 rl':=h
 b0:=λx hx=>by rw [(zy.mp hx).2];exact zw _
 r0:=r0
 gw:=λk s _ p=>by
  unfold g36 at p
  rw [zP,z4] at p
  split at p <;> exact absurd p (by decide)
 eq:=λk hk=>by
  have:g36 (List.replicate ss.length 0) k=0:=by unfold g36;rw [zP,z4,if_pos hk];rfl
  omega
def bgUp (bg:List Int) (o:Option Nat) (s:Int):List Int:=match o with
 | none=>bg
 | some k=>bg.set k (g36 bg k + s)
def rsUp (rs:List Int) (o:Option Nat) (s:Int):List Int:=match o with
 | none=>rs
 | some k=>rs.set k (g36 rs k - s)
def eN (o:Option Nat) (s:Int):Int:=match o with
 | none=>0
 | some _=>s
theorem Hf.up {ss:List S3}{ok:S3->Prop}{bg rs rs':List Int}{o:Option Nat}{s:Int} (h:Hf ss ok bg rs rs') (s0:0<=s) (ho:∀ k,o=some k->∃ x,ss[k]?=some x/\ok x/\s<=g36 rs' k):Hf ss ok (bgUp bg o s) rs (rsUp rs' o s):=by
 cases o with
 | none=>exact h
 | some k=>
  obtain ⟨x,hx,hok,hs⟩:=ho k rfl
  have hk:k < ss.length:=(zK.mp hx).1
  have kb:k < bg.length:=by rw [h.bl];exact hk
  have kr:k < rs'.length:=by rw [h.rl'];exact hk
  have b0:=h.b0 _ (wS kb)
  refine ⟨by unfold bgUp;rw [zq,h.bl],h.rl,by unfold rsUp;rw [zq,h.rl'],λy hy=>?_,λy hy=>?_,λj z hz p=>?_,λj hj=>?_⟩
  ·rcases yO hy with q | q
   ·exact h.b0 y q
   ·omega
  ·rcases yO hy with q | q
   ·exact h.r0 y q
   ·omega
  ·by_cases e:k=j
   ·subst e;rw [hx] at hz;cases hz;exact hok
   ·unfold bgUp at p;dsimp only at p;rw [g36_set' e] at p;exact h.gw j z hz p
  ·unfold bgUp rsUp
   dsimp only
   by_cases e:k=j
   ·subst e;rw [g36_set kb,g36_set kr,h.eq k hk];omega
   ·rw [g36_set' e,g36_set' e,h.eq j hj]
theorem ofW_cons {s:S3}{ss:List S3}{n:Int}{ns:List Int}{w:Int}:ofW (s::ss) (n::ns) w=(if s.w=w then n else 0) + ofW ss ns w:=by
 unfold ofW
 rw [List.zip_cons_cons,List.filter_cons]
 by_cases c:s.w=w
 ·simp [c]
 ·simp [c]
theorem ofW_set:∀ {ss:List S3}{bg:List Int}{k:Nat}{s:S3}{v w:Int},ss[k]?=some s->k < bg.length->ofW ss (bg.set k (g36 bg k + v)) w=ofW ss bg w + if s.w=w then v else 0
 | [],_,_,_,_,_,h,_=>by simp at h
 | _::_,[],_,_,_,_,_,h=>by simp at h
 | t::ss,b::bg,0,s,v,w,h,_=>by
  cases h
  have:g36 (b::bg) 0=b:=rfl
  rw [this,List.set_cons_zero,ofW_cons,ofW_cons]
  by_cases c:t.w=w
  ·rw [if_pos c,if_pos c,if_pos c];omega
  ·rw [if_neg c,if_neg c,if_neg c];omega
 | t::ss,b::bg,k + 1,s,v,w,h,hk=>by
  have e:g36 (b::bg) (k + 1)=g36 bg k:=rfl
  have:=ofW_set (ss:=ss) (bg:=bg) (k:=k) (s:=s) (v:=v) (w:=w) h (by simpa using hk)
  rw [e,List.set_cons_succ,ofW_cons,ofW_cons,this];omega
theorem ofW_up {ss:List S3}{bg:List Int}{o:Option Nat}{v G:Int} (ho:∀ k,o=some k->k < bg.length/\∃ x,ss[k]?=some x/\x.w=G):ofW ss (bgUp bg o v) G=ofW ss bg G + eN o v/\∀ w,w≠G->ofW ss (bgUp bg o v) w=ofW ss bg w:=by
 cases o with
 | none=>exact ⟨by unfold bgUp eN;simp,λ_ _=>rfl⟩
 | some k=>
  obtain ⟨hk,x,hx,e⟩:=ho k rfl
  unfold bgUp eN
  dsimp only
  refine ⟨by rw [ofW_set hx hk,if_pos e],λw hw=>by rw [ofW_set hx hk,if_neg (by rw [e];exact hw.symm)];simp⟩
def bUp (bs:List Int) (w:Int) (o:Option Nat) (s:Int):List Int:=match o with
 | none=>bs.set w.toNat (bag bs w + s)
 | some _=>bs
theorem bUp_len {bs:List Int}{w:Int}{o:Option Nat}{s:Int}:(bUp bs w o s).length=bs.length:=by
 unfold bUp;cases o <;> simp
theorem bUp_at {bs:List Int}{w:Int}{o:Option Nat}{s:Int} (h0:0<=w) (h1:w < bs.length):bag (bUp bs w o s) w=bag bs w + (s - eN o s):=by
 cases o with
 | none=>unfold bUp eN;dsimp only;rw [bagS' h0 h1];omega
 | some k=>unfold bUp eN;dsimp only;omega
theorem bUp_ne {bs:List Int}{w v:Int}{o:Option Nat}{s:Int} (h0:0<=w) (hv:0<=v) (ne:w≠v):bag (bUp bs w o s) v=bag bs v:=by
 cases o with
 | none=>unfold bUp;dsimp only;exact bagS h0 hv ne
 | some k=>rfl
structure RI (r:M4) (ls ws:List S3) (rooms bs rs ks:List Int) (g0 g1 a0 a1:Int) (bg cm bs' rs' ks':List Int):Prop where
 L:Hf ls (λs=>(s.w=r.lo\/s.w=r.hi)/\s.t < r.t) bg rs rs'
 W:Hf ws (λs=>(s.w=r.lo\/s.w=r.hi)/\s.t ≥ r.t) cm ks ks'
 z0:0<=g0
 z1:0<=g1
 gm:g0 + g1<=r.m
 ea0:a0=bag bs r.lo - (g0 - ofW ls bg r.lo)
 ea1:a1=bag bs r.hi - (g1 - ofW ls bg r.hi)
 p0:0<=a0
 p1:0<=a1
 o0:0<=g0 - ofW ls bg r.lo
 o1:0<=g1 - ofW ls bg r.hi
 i0:0<=g1 - ofW ws cm r.lo
 i1:0<=g0 - ofW ws cm r.hi
 bl:bs'.length=bs.length
 blo:bag bs' r.lo=bag bs r.lo + ((g1 - ofW ws cm r.lo) - (g0 - ofW ls bg r.lo))
 bhi:bag bs' r.hi=bag bs r.hi + ((g0 - ofW ws cm r.hi) - (g1 - ofW ls bg r.hi))
 bo:∀ w:Int,0<=w->w≠r.lo->w≠r.hi->bag bs' w=bag bs w
 rm:∀ w:Int,0<=w->w < rooms.length->bag bs' w<=bag rooms w
def M4.swap (r:M4):M4:=⟨r.hi,r.lo,r.t,r.m⟩
theorem RI.swap {r:M4}{ls ws:List S3}{rooms bs rs ks:List Int} {g0 g1 a0 a1:Int}{bg cm bs' rs' ks':List Int} (h:RI r ls ws rooms bs rs ks g0 g1 a0 a1 bg cm bs' rs' ks'):RI r.swap ls ws rooms bs rs ks g1 g0 a1 a0 bg cm bs' rs' ks' where
 L:=⟨h.L.bl,h.L.rl,h.L.rl',h.L.b0,h.L.r0,λk s hs p=>⟨(h.L.gw k s hs p).1.symm,(h.L.gw k s hs p).2⟩,h.L.eq⟩
 W:=⟨h.W.bl,h.W.rl,h.W.rl',h.W.b0,h.W.r0,λk s hs p=>⟨(h.W.gw k s hs p).1.symm,(h.W.gw k s hs p).2⟩,h.W.eq⟩
 z0:=h.z1
 z1:=h.z0
 gm:=by have:=h.gm;show g1 + g0<=r.m;omega
 ea0:=h.ea1
 ea1:=h.ea0
 p0:=h.p1
 p1:=h.p0
 o0:=h.o1
 o1:=h.o0
 i0:=h.i1
 i1:=h.i0
 bl:=h.bl
 blo:=h.bhi
 bhi:=h.blo
 bo:=λw w0 n1 n2=>h.bo w w0 n2 n1
 rm:=h.rm
def May (ss:List S3) (G:Int) (ok:S3->Prop) (rs':List Int) (a s:Int) (o:Option Nat):Prop:=match o with
 | none=>s<=a
 | some k=>∃ x,ss[k]?=some x/\x.w=G/\ok x/\s<=g36 rs' k
theorem RI.step0 {r:M4}{ls ws:List S3}{rooms bs rs ks:List Int} {g0 g1 a0 a1 s:Int}{bg cm bs' rs' ks':List Int} {o1 o2:Option Nat} (h:RI r ls ws rooms bs rs ks g0 g1 a0 a1 bg cm bs' rs' ks')
  (hr:0<=r.lo/\r.lo < bs.length/\0<=r.hi/\r.hi < bs.length/\r.lo≠r.hi) (rl:bs.length=rooms.length) (s1:1<=s) (sm:s<=r.m - (g0 + g1))
  (h1:May ls r.lo (λx=>x.t < r.t) rs' a0 s o1) (h2:May ws r.hi (λx=>x.t ≥ r.t) ks' (bag rooms r.hi - bag bs' r.hi) s o2) :
  RI r ls ws rooms bs rs ks (g0 + s) g1 (a0 - (s - eN o1 s)) a1 (bgUp bg o1 s) (bgUp cm o2 s) (bUp (bUp bs' r.lo o1 (-s)) r.hi o2 s) (rsUp rs' o1 s) (rsUp ks' o2 s):=by
 obtain ⟨l0,l1,h0,h1',ne⟩:=hr
 have l2:r.lo < bs'.length:=by rw [h.bl];exact l1
 have h2':r.hi < (bUp bs' r.lo o1 (-s)).length:=by rw [bUp_len,h.bl];exact h1'
 have e1:∀ k,o1=some k->∃ x,ls[k]?=some x/\x.w=r.lo/\x.t < r.t/\s<=g36 rs' k:=λk e=>by subst e;exact h1
 have e2:∀ k,o2=some k->∃ x,ws[k]?=some x/\x.w=r.hi/\x.t ≥ r.t/\s<=g36 ks' k:=λk e=>by subst e;exact h2
 obtain ⟨f1,f2⟩:=ofW_up (ss:=ls) (bg:=bg) (o:=o1) (v:=s) (G:=r.lo) λk e=>by
  obtain ⟨x,hx,hw,_⟩:=e1 k e
  exact ⟨by rw [h.L.bl];exact (zK.mp hx).1,x,hx,hw⟩
 obtain ⟨f3,f4⟩:=ofW_up (ss:=ws) (bg:=cm) (o:=o2) (v:=s) (G:=r.hi) λk e=>by
  obtain ⟨x,hx,hw,_⟩:=e2 k e
  exact ⟨by rw [h.W.bl];exact (zK.mp hx).1,x,hx,hw⟩
 have f2:=f2 r.hi ne.symm
 have f4:=f4 r.lo ne
 have n1:eN o1 (-s)=- eN o1 s:=by cases o1 <;> simp [eN]
 have q1:0<=eN o1 s/\eN o1 s<=s:=by cases o1 <;> simp only [eN] <;> omega
 have q2:0<=eN o2 s/\eN o2 s<=s:=by cases o2 <;> simp only [eN] <;> omega
 have w1:s - eN o1 s<=a0:=by
  cases o1 with
  | none=>have h1:s<=a0:=h1;simp only [eN];omega
  | some k=>have:=h.p0;simp only [eN];omega
 have w2:bag bs' r.hi + (s - eN o2 s)<=bag rooms r.hi:=by
  cases o2 with
  | none=>have h2:s<=bag rooms r.hi - bag bs' r.hi:=h2;simp only [eN];omega
  | some k=>have:=h.rm r.hi h0 (by omega);simp only [eN];omega
 have b1:bag (bUp (bUp bs' r.lo o1 (-s)) r.hi o2 s) r.lo=bag bs' r.lo + (-s - eN o1 (-s)):=by rw [bUp_ne h0 l0 ne.symm,bUp_at l0 l2]
 have b2:bag (bUp (bUp bs' r.lo o1 (-s)) r.hi o2 s) r.hi=bag bs' r.hi + (s - eN o2 s):=by rw [bUp_at h0 h2',bUp_ne l0 h0 ne]
 have:=h.gm;have:=h.ea0;have:=h.ea1;have:=h.p0;have:=h.p1;have:=h.o0;have:=h.o1;have:=h.i0;have:=h.i1;have:=h.blo;have:=h.bhi;have:=h.z0;have:=h.z1
 refine ⟨h.L.up (by omega) λk e=>?_,h.W.up (by omega) λk e=>?_,by omega,by omega,by omega,by rw [f1];omega,by rw [f2];omega,by omega,by omega,by rw [f1];omega,by rw [f2];omega,by rw [f4];omega,by rw [f3];omega,by rw [bUp_len,bUp_len,h.bl],by rw [b1,f1,f4,n1];omega,by rw [b2,f2,f3];omega,λw w0 m1 m2=>?_,λw w0 w1=>?_⟩
 ·obtain ⟨x,hx,hw,ht,hs⟩:=e1 k e
  exact ⟨x,hx,⟨.inl hw,ht⟩,hs⟩
 ·obtain ⟨x,hx,hw,ht,hs⟩:=e2 k e
  exact ⟨x,hx,⟨.inr hw,ht⟩,hs⟩
 ·rw [bUp_ne h0 w0 m2.symm,bUp_ne l0 w0 m1.symm];exact h.bo w w0 m1 m2
 ·by_cases c1:w=r.hi
  ·rw [c1,b2];exact w2
  ·rw [bUp_ne h0 w0 (Ne.symm c1)]
   by_cases c2:w=r.lo
   ·rw [c2,bUp_at l0 l2,n1]
    have:=h.rm r.lo l0 (by omega);omega
   ·rw [bUp_ne l0 w0 (Ne.symm c2)];exact h.rm w w0 w1
def sel {α:Type} (way:Int) (x y:α):α:=if way=0 then x else y
theorem RI.step {r:M4}{ls ws:List S3}{rooms bs rs ks:List Int} {g0 g1 a0 a1 s way:Int}{bg cm bs' rs' ks':List Int} {o1 o2:Option Nat} (h:RI r ls ws rooms bs rs ks g0 g1 a0 a1 bg cm bs' rs' ks') (hw:way=0\/way=1)
  (hr:0<=r.lo/\r.lo < bs.length/\0<=r.hi/\r.hi < bs.length/\r.lo≠r.hi) (rl:bs.length=rooms.length) (s1:1<=s) (sm:s<=r.m - (g0 + g1))
  (h1:May ls (sel way r.lo r.hi) (λx=>x.t < r.t) rs' (sel way a0 a1) s o1) (h2:May ws (sel way r.hi r.lo) (λx=>x.t ≥ r.t) ks' (bag rooms (sel way r.hi r.lo) - bag bs' (sel way r.hi r.lo)) s o2) :
  RI r ls ws rooms bs rs ks (sel way (g0 + s) g0) (sel way g1 (g1 + s)) (sel way (a0 - (s - eN o1 s)) a0) (sel way a1 (a1 - (s - eN o1 s))) (bgUp bg o1 s) (bgUp cm o2 s) (bUp (bUp bs' (sel way r.lo r.hi) o1 (-s)) (sel way r.hi r.lo) o2 s) (rsUp rs' o1 s) (rsUp ks' o2 s):=by
 rcases hw with rfl | rfl
 ·exact h.step0 hr rl s1 sm h1 h2
 ·exact (RI.step0 (r:=r.swap) h.swap ⟨hr.2.2.1,hr.2.2.2.1,hr.1,hr.2.1,hr.2.2.2.2.symm⟩ rl s1 (by show s<=r.m - (g1 + g0);omega) h1 h2).swap
theorem RI.start {r:M4}{ls ws:List S3}{rooms bs rs ks:List Int} (lr:rs.length=ls.length) (lk:ks.length=ws.length) (r0:∀ x∈rs,(0:Int)<=x) (k0:∀ x∈ks,(0:Int)<=x) (rm:0<=r.m)
  (b0:∀ w:Int,0<=bag bs w) (br:∀ w:Int,0<=w->w < rooms.length->bag bs w<=bag rooms w):RI r ls ws rooms bs rs ks 0 0 (bag bs r.lo) (bag bs r.hi) (List.replicate ls.length 0) (List.replicate ws.length 0) bs rs ks:=by
 have z:∀ (ss:List S3) (w:Int),ofW ss (List.replicate ss.length 0) w=0:=λss w=>by
  induction ss with
  | nil=>rfl
  | cons s ss ih=>rw [zn,yC,ofW_cons,ih];split <;> rfl
 exact ⟨Hf.start lr r0,Hf.start lk k0,by omega,by omega,by omega,by rw [z];omega,by rw [z];omega,b0 _,b0 _,by rw [z];omega,by rw [z];omega,by rw [z];omega,by rw [z];omega,rfl,by rw [z,z];omega,by rw [z,z];omega,λ_ _ _ _=>rfl,br⟩
structure RowOk (r:M4) (ls ws:List S3) (rooms bs rs ks:List Int) (x:R4) (bs' rs' ks':List Int):Prop where
 ok:x.ok ls.length ws.length
 win:withinB r ls ws x=true
 beh:behindF bs r ls ws x=some bs'
 bl:bs'.length=bs.length
 b0:∀ w:Int,0<=bag bs' w
 br:∀ w:Int,0<=w->w < rooms.length->bag bs' w<=bag rooms w
 rl:rs'.length=ls.length
 kl:ks'.length=ws.length
 r0:∀ y∈rs',(0:Int)<=y
 k0:∀ y∈ks',(0:Int)<=y
 re:∀ k:Nat,k < ls.length->g36 rs' k=g36 rs k - g36 x.bg k
 ke:∀ k:Nat,k < ws.length->g36 ks' k=g36 ks k - g36 x.cm k
theorem bag_ext {xs ys:List Int} (l:xs.length=ys.length) (h:∀ w:Int,0<=w->bag xs w=bag ys w):xs=ys:=by
 refine List.ext_getElem? λi=>?_
 by_cases hi:i < xs.length
 ·have:=h (i:Int) (by omega)
  unfold bag at this
  rw [zc,zP,zP,zH hi,zH (by omega)] at this
  rw [zH hi,zH (by omega)]
  exact congrArg some this
 ·rw [yP (by omega),yP (by omega)]
theorem RI.done {r:M4}{ls ws:List S3}{rooms bs rs ks:List Int} {g0 g1 a0 a1:Int}{bg cm bs' rs' ks':List Int} (h:RI r ls ws rooms bs rs ks g0 g1 a0 a1 bg cm bs' rs' ks')
  (hr:0<=r.lo/\r.lo < bs.length/\0<=r.hi/\r.hi < bs.length/\r.lo≠r.hi) (b0:∀ w:Int,0<=bag bs w):RowOk r ls ws rooms bs rs ks ⟨g0,g1,bg,cm⟩ bs' rs' ks':=by
 obtain ⟨l0,l1,h0,h1,ne⟩:=hr
 have nat:∀ w:Int,∃ v:Int,0<=v/\∀ xs:List Int,bag xs w=bag xs v:=λw=>⟨w.toNat,by omega,λxs=>by unfold bag;rw [zc]⟩
 have all:∀ (ss:List S3) (ns:List Int) (bad:S3->Bool),ns.length=ss.length->(∀ k s,ss[k]?=some s->0 < g36 ns k->(s.w=r.lo\/s.w=r.hi)/\bad s=false)->(ss.zip ns).all (mayB r bad)=true:=λss ns bad ln hh=>by
  rw [yS]
  intro p hp
  obtain ⟨k,hk⟩:=List.getElem?_of_mem hp
  rw [List.getElem?_zip_eq_some] at hk
  have kn:k < ns.length:=(zK.mp hk.2).1
  have e2:g36 ns k=p.2:=Option.some.inj ((wF kn).symm.trans hk.2)
  unfold mayB
  by_cases c:0 < p.2
  ·obtain ⟨q1,q2⟩:=hh k p.1 hk.1 (by rw [e2];exact c)
   rw [q2,Bool.or_false]
   rcases q1 with q1 | q1 <;> simp [q1]
  ·rw [decide_eq_false c];rfl
 refine ⟨⟨h.z0,h.z1,h.L.bl,h.W.bl,h.L.b0,h.W.b0⟩,?_,?_,h.bl,λw=>?_,h.rm,h.L.rl',h.W.rl',h.L.r0,h.W.r0,h.L.eq,h.W.eq⟩
 ·unfold withinB
  rw [all ls bg _ h.L.bl λk s hs p=>⟨(h.L.gw k s hs p).1,by have:=(h.L.gw k s hs p).2;simp;omega⟩,all ws cm _ h.W.bl λk s hs p=>⟨(h.W.gw k s hs p).1,by have:=(h.W.gw k s hs p).2;simp;omega⟩]
  simpa using h.gm
 ·unfold behindF
  have:=h.ea0;have:=h.ea1;have:=h.p0;have:=h.p1
  have c1:goesB bs r.lo (g0 - ofW ls bg r.lo) (g1 - ofW ws cm r.lo)=true:=by unfold goesB;rw [decide_eq_true h.o0,decide_eq_true h.i0,decide_eq_true (by omega)];rfl
  have c2:goesB bs r.hi (g1 - ofW ls bg r.hi) (g0 - ofW ws cm r.hi)=true:=by unfold goesB;rw [decide_eq_true h.o1,decide_eq_true h.i1,decide_eq_true (by omega)];rfl
  dsimp only
  rw [c1,c2]
  refine congrArg some (bag_ext (by rw [zq,zq,h.bl]) λw w0=>?_)
  by_cases e1:w=r.hi
  ·rw [e1,bagS' h0 (by rw [zq];exact h1),h.bhi]
  ·rw [bagS h0 w0 (Ne.symm e1)]
   by_cases e2:w=r.lo
   ·rw [e2,bagS' l0 l1,h.blo]
   ·rw [bagS l0 w0 (Ne.symm e2),h.bo w w0 e2 e1]
 ·obtain ⟨v,v0,ev⟩:=nat w
  rw [ev]
  have:=h.ea0;have:=h.ea1;have:=h.p0;have:=h.p1;have:=h.i0;have:=h.i1
  by_cases e1:v=r.hi
  ·rw [e1,h.bhi];omega
  ·by_cases e2:v=r.lo
   ·rw [e2,h.blo];omega
   ·rw [h.bo v v0 e2 e1];exact b0 v
end Sm
namespace Sm
open PySem L2
theorem nrmS {N:St->Hp->Prop}{σ:St} (σ':St) {H:Hp} (e:σ=σ') (h:N σ' H):N σ H:=by rw [e];exact h
theorem nrmG {i:Nat}{v:V}{Q:St->Hp->Prop}{σ:St} (σ':St) {H:Hp} (e:σ.set i (some v)=σ') (h:Q σ' H):gName i v σ H Q:=by unfold gName;rw [e];exact h
def A7 (a b c d e f g:Addr):Nat->Addr
 | 0=>a | 1=>b | 2=>c | 3=>d | 4=>e | 5=>f | _=>g
def F7 (a b c d e f g:List Int):Nat->List Int
 | 0=>a | 1=>b | 2=>c | 3=>d | 4=>e | 5=>f | _=>g
structure RowA (H0:Hp) (p:Addr) (A:Nat->Addr):Prop where
 inj:∀ i j,i < 7->j < 7->A i=A j->i=j
 np:∀ i,i < 7->A i≠p
 fr:∀ i,3<=i->i < 7->H0 (A i)=none
structure RowH (H0:Hp) (p:Addr) (A:Nat->Addr) (F:Nat->List Int) (H:Hp):Prop where
 pu:Purse H p
 ls:∀ i,i < 7->H (A i)=some (.lst ((F i).map V.int))
 kp:∀ c u,c≠p->c≠A 0->c≠A 1->c≠A 2->H0 c=some u->H c=some u
theorem RowH.go {H0:Hp}{p:Addr}{A:Nat->Addr}{F:Nat->List Int}{H H':Hp} (h:RowH H0 p A F H) (a:RowA H0 p A) (g:Go p H H'):RowH H0 p A F H':=
 ⟨g.2,λi hi=>g.1 _ _ (a.np i hi) (h.ls i hi),λc u n0 n1 n2 n3 e=>g.1 _ _ n0 (h.kp c u n0 n1 n2 n3 e)⟩
theorem RowH.same {H0:Hp}{p:Addr}{A:Nat->Addr}{F:Nat->List Int}{H H':Hp} (h:RowH H0 p A F H) (s:Same H H'):RowH H0 p A F H':=
 ⟨by obtain ⟨a,b,c,e⟩:=h.pu;exact ⟨a,b,c,s _ _ e⟩,λi hi=>s _ _ (h.ls i hi),λc u n0 n1 n2 n3 e=>s _ _ (h.kp c u n0 n1 n2 n3 e)⟩
theorem RowH.set {H0:Hp}{p:Addr}{A:Nat->Addr}{F F':Nat->List Int}{H:Hp} (h:RowH H0 p A F H) (a:RowA H0 p A) {i:Nat}{ys:List V} (hi:i < 7) (e:ys=(F' i).map V.int) (o:∀ j,j < 7->j≠i->F' j=F j):RowH H0 p A F' (upd H (A i) (.lst ys)):=by
 refine ⟨?_,λj hj=>?_,λc u n0 n1 n2 n3 q=>?_⟩
 ·obtain ⟨x,y,z,q⟩:=h.pu
  exact ⟨x,y,z,by rw [xG (a.np i hi).symm];exact q⟩
 ·by_cases c:j=i
  ·subst c;rw [yy,e]
  ·rw [xG (λz=>c (a.inj j i hj hi z)),o j hj c];exact h.ls j hj
 ·have ne:c≠A i:=by
   intro z;subst z
   by_cases k:i < 3
   ·match i,k with
    | 0,_=>exact n1 rfl
    | 1,_=>exact n2 rfl
    | 2,_=>exact n3 rfl
   ·rw [a.fr i (by omega) hi] at q;cases q
  rw [xG ne];exact h.kp c u n0 n1 n2 n3 q
theorem RowH.set0 {H0:Hp}{p:Addr}{A:Nat->Addr}{a b c d e f g y:List Int}{H:Hp}{ys:List V} (h:RowH H0 p A (F7 a b c d e f g) H) (r:RowA H0 p A) (q:ys=y.map V.int):RowH H0 p A (F7 y b c d e f g) (upd H (A 0) (.lst ys)):=h.set r (by decide) q λj hj n=>by rcases j with _ | _ | _ | _ | _ | _ | _ | j <;> first | exact absurd rfl n | rfl
theorem RowH.set1 {H0:Hp}{p:Addr}{A:Nat->Addr}{a b c d e f g y:List Int}{H:Hp}{ys:List V} (h:RowH H0 p A (F7 a b c d e f g) H) (r:RowA H0 p A) (q:ys=y.map V.int):RowH H0 p A (F7 a y c d e f g) (upd H (A 1) (.lst ys)):=h.set r (by decide) q λj hj n=>by rcases j with _ | _ | _ | _ | _ | _ | _ | j <;> first | exact absurd rfl n | rfl
theorem RowH.set2 {H0:Hp}{p:Addr}{A:Nat->Addr}{a b c d e f g y:List Int}{H:Hp}{ys:List V} (h:RowH H0 p A (F7 a b c d e f g) H) (r:RowA H0 p A) (q:ys=y.map V.int):RowH H0 p A (F7 a b y d e f g) (upd H (A 2) (.lst ys)):=h.set r (by decide) q λj hj n=>by rcases j with _ | _ | _ | _ | _ | _ | _ | j <;> first | exact absurd rfl n | rfl
theorem RowH.set3 {H0:Hp}{p:Addr}{A:Nat->Addr}{a b c d e f g y:List Int}{H:Hp}{ys:List V} (h:RowH H0 p A (F7 a b c d e f g) H) (r:RowA H0 p A) (q:ys=y.map V.int):RowH H0 p A (F7 a b c y e f g) (upd H (A 3) (.lst ys)):=h.set r (by decide) q λj hj n=>by rcases j with _ | _ | _ | _ | _ | _ | _ | j <;> first | exact absurd rfl n | rfl
theorem RowH.set4 {H0:Hp}{p:Addr}{A:Nat->Addr}{a b c d e f g y:List Int}{H:Hp}{ys:List V} (h:RowH H0 p A (F7 a b c d e f g) H) (r:RowA H0 p A) (q:ys=y.map V.int):RowH H0 p A (F7 a b c d y f g) (upd H (A 4) (.lst ys)):=h.set r (by decide) q λj hj n=>by rcases j with _ | _ | _ | _ | _ | _ | _ | j <;> first | exact absurd rfl n | rfl
theorem RowH.set5 {H0:Hp}{p:Addr}{A:Nat->Addr}{a b c d e f g y:List Int}{H:Hp}{ys:List V} (h:RowH H0 p A (F7 a b c d e f g) H) (r:RowA H0 p A) (q:ys=y.map V.int):RowH H0 p A (F7 a b c d e y g) (upd H (A 5) (.lst ys)):=h.set r (by decide) q λj hj n=>by rcases j with _ | _ | _ | _ | _ | _ | _ | j <;> first | exact absurd rfl n | rfl
theorem RowH.set6 {H0:Hp}{p:Addr}{A:Nat->Addr}{a b c d e f g y:List Int}{H:Hp}{ys:List V} (h:RowH H0 p A (F7 a b c d e f g) H) (r:RowA H0 p A) (q:ys=y.map V.int):RowH H0 p A (F7 a b c d e f y) (upd H (A 6) (.lst ys)):=h.set r (by decide) q λj hj n=>by rcases j with _ | _ | _ | _ | _ | _ | j <;> first | exact absurd rfl n | rfl | omega
def opts (ks:List Nat) (b:Bool):List Int:=ks.map (λk:Nat=>(k:Int))++if b then [-1] else []
def oI:Option Nat->Int
 | none=>-1
 | some k=>(k:Int)
def pk (rs:List Int) (a:Int):Option Nat->Int
 | none=>a
 | some k=>g36 rs k
theorem opts_at {ks:List Nat}{b:Bool}{i:Nat}{x:Int} (h:(opts ks b)[i]?=some x):∃ o:Option Nat,x=oI o/\(o=none->b=true)/\∀ k,o=some k->k∈ks:=by
 have hm:=zD h
 unfold opts at hm
 rcases zV.mp hm with q | q
 ·obtain ⟨k,hk,rfl⟩:=zS.mp q
  exact ⟨some k,rfl,nofun,λj e=>by cases e;exact hk⟩
 ·cases b with
  | false=>simp at q
  | true=>
   have q:x=-1:=by simpa using q
   exact ⟨none,q,λ_=>rfl,nofun⟩
theorem opts_rep {b:Bool}:(List.replicate (Int.toNat (if b then 1 else 0)) [V.int (-1)]).flatten=(if b then [(-1:Int)] else []).map V.int:=by cases b <;> rfl
theorem opts_map {ks:List Nat}{b:Bool}:(ks.map λk:Nat=>V.int (k:Int))++(if b then [(-1:Int)] else []).map V.int=(opts ks b).map V.int:=by
 unfold opts;rw [zB,zd];rfl
theorem pick_at {rs:List Int}{a:Int}{o:Option Nat} (h:∀ k,o=some k->k < rs.length):atI (rs.map V.int++[V.int a]) (oI o)=some (V.int (pk rs a o)):=by
 cases o with
 | none=>
  show atI _ (-1)=some (V.int a)
  unfold atI ixN
  rw [if_neg (by decide),if_pos (by rw [zT,zA];show -((rs.length + 1:Nat):Int)<=-1;omega)]
  show (rs.map V.int++[V.int a])[_]?=_
  rw [zo (by rw [zA,zT,zA];show _<=(-1 + ((rs.length + 1:Nat):Int)).toNat;omega)]
  rw [zA,zT,zA]
  show [V.int a][(-1 + ((rs.length + 1:Nat):Int)).toNat - rs.length]?=_
  rw [show (-1 + ((rs.length + 1:Nat):Int)).toNat - rs.length=0 by omega];rfl
 | some k=>
  show atI _ ((k:Nat):Int)=some (V.int (g36 rs k))
  refine xh ?_
  rw [yB (by rw [zA];exact h k rfl),zG,wF (h k rfl)];rfl
theorem one36 {x:V}:[x].length<=sizeLine:=by rw [sizeLine_eq];show 1<=_;decide
theorem two36 {x y:V}:[x,y].length<=sizeLine:=by rw [sizeLine_eq];show 2<=_;decide
theorem four36 {x y z u:V}:[x,y,z,u].length<=sizeLine:=by rw [sizeLine_eq];show 4<=_;decide
theorem take_n {os:List Int} (h:0 < os.length) (h2:os.length<=9):(0:Int) < ((os.map V.int).length:Nat)/\(((os.map V.int).length:Nat):Int) < 2 ^ 200:=by
 have e200:(2:Int) ^ 200 > 10000:=by decide
 rw [zA];omega
theorem cat_n {os:List Int}{x:V} (h:os.length<=8):(os.map V.int).length + [x].length<=sizeLine:=by rw [sizeLine_eq,zA];show os.length + 1<=_;omega
theorem some_ix {os:List Int}{i:Nat} (h:(i:Int) < ((os.map V.int).length:Nat)):∃ x,os[i]?=some x:=by rw [zA] at h;exact ⟨_,zH (by omega)⟩
theorem b01_36 (x:V) (b:Bool):-(2:Int) ^ 63<=(if b=true then 1 else 0)/\(if b=true then (1:Int) else 0) < 2 ^ 63/\([x]:List V).length * Int.toNat (if b=true then 1 else 0)<=sizeLine:=by
 rw [sizeLine_eq]
 cases b
 ·exact ⟨by decide,by decide,by show 1 * 0<=_;decide⟩
 ·exact ⟨by decide,by decide,by show 1 * 1<=_;decide⟩
theorem lopt36 {ks:List Nat} (b:Bool) (h1:ks.length<=8):(ks.map λk:Nat=>V.int (k:Int)).length + ((List.replicate (Int.toNat (if b=true then 1 else 0)) [V.int (-1)]).flatten).length<=sizeLine:=by
 rw [opts_rep,zA,zA,sizeLine_eq];cases b <;> simp only [if_true,if_false,zb,zn,yN] <;> omega
theorem opts_len {ks:List Nat}{b:Bool} (h1:ks.length<=8):(opts ks b).length<=9:=by
 unfold opts;rw [zT,zA];cases b <;> simp only [if_true,if_false,zb,zn,yN] <;> omega
theorem opts_pos {os:List Int} (h:(os.map V.int).isEmpty=false):0 < os.length:=by
 cases os with
 | nil=>cases h
 | cons _ _=>exact Nat.succ_pos _
theorem m0_36 {a b m:Int} (h:a + b<=m) (c:m - (a + b)≠0):0 < m - (a + b):=by omega
theorem m9_36 {a b m:Int} (h:0<=a) (h':0<=b) (c:m<=99):m - (a + b)<=99:=by omega
theorem s36 {s d M:Int} (e:s=1 + d) (h:d < M):s<=M:=by omega
theorem s36' {s d:Int} (e:s=1 + d) (h:0<=d):1<=s:=by omega
theorem pick_pos {ss:List S3}{rs:List Int}{w t j a:Int}{ks:List Nat}{b:Bool}{o:Option Nat} (mem:∀ k∈ks,∃ s r,ss[k]?=some s/\rs[k]?=some r/\s.w=w/\fitB j s t=true/\0 < r) (ob:o=none->b=true) (om:∀ k,o=some k->k∈ks) (hb:b=true->0 < a) :
  (∀ k,o=some k->k < rs.length)/\0 < pk rs a o/\∀ s:Int,s<=pk rs a o->∀ ok:S3->Prop,(∀ x,fitB j x t=true->ok x)->May ss w ok rs a s o:=by
 cases o with
 | none=>exact ⟨nofun,hb (ob rfl),λs h ok _=>h⟩
 | some k=>
  obtain ⟨x,y,hx,hy,hw,hf,h0⟩:=mem k (om k rfl)
  have hk:=(zK.mp hy).1
  have e:=Option.some.inj ((wF hk).symm.trans hy)
  refine ⟨λm z=>by cases z;exact hk,by show 0 < g36 rs k;rw [e];exact h0,λs h ok q=>⟨x,hx,hw,q x hf,h⟩⟩
theorem min3_36 (a b c:Int) (ha:0 < a) (h9:a<=99) (hb:0 < b) (hc:0 < c):∃ M:Int,(if c < (if b < a then b else a) then c else (if b < a then b else a))=M/\0 < M/\M < 2 ^ 200/\M<=a/\M<=b/\M<=c:=by
 have e200:(2:Int) ^ 200 > 10000:=by decide
 exact ⟨_,rfl,by split <;> split <;> omega,by split <;> split <;> omega,by split <;> split <;> omega,by split <;> split <;> omega,by split <;> split <;> omega⟩
theorem flat_rep (n:Nat):(List.replicate n [V.int 0]).flatten=(List.replicate n (0:Int)).map V.int:=by
 induction n with
 | zero=>rfl
 | succ n ih=>rw [yC,yc,ih,yC,zz];rfl
theorem RowA.mk7 {H0:Hp}{p a b c d e f g:Addr} (nd:[a,b,c,d,e,f,g].Nodup) (np:∀ x∈[a,b,c,d,e,f,g],x≠p) (fd:H0 d=none) (fe:H0 e=none) (ff:H0 f=none) (fg:H0 g=none):RowA H0 p (A7 a b c d e f g):=by
 have at7:∀ i,i < 7->[a,b,c,d,e,f,g][i]?=some (A7 a b c d e f g i):=λi hi=>by
  rcases i with _ | _ | _ | _ | _ | _ | _ | i <;> first | rfl | omega
 refine ⟨λi j hi hj ee=>(List.getElem?_inj (show i < [a,b,c,d,e,f,g].length from hi) nd).mp (by rw [at7 i hi,at7 j hj,ee]),λi hi=>np _ (zD (at7 i hi)),λi h3 hi=>?_⟩
 rcases i with _ | _ | _ | _ | _ | _ | _ | i <;> first | omega | assumption
theorem RowH.tup {H0:Hp}{p:Addr}{A:Nat->Addr}{F:Nat->List Int}{H:Hp} (h:RowH H0 p A F H) (pu:Purse H0 p) (l0:∀ i,i < 3->∃ xs,H0 (A i)=some (.lst xs)) {c:Addr}{xs:List V} (e:H0 c=some (.tup xs)):H c=some (.tup xs):=by
 have ne:∀ i,i < 3->c≠A i:=λi hi=>by obtain ⟨ys,q⟩:=l0 i hi;exact ne_of e q (by intro z;cases z)
 exact h.kp c _ (pu.tup e) (ne 0 (by decide)) (ne 1 (by decide)) (ne 2 (by decide)) e
theorem RowH.sacks {H0:Hp}{p:Addr}{A:Nat->Addr}{F:Nat->List Int}{H:Hp} (h:RowH H0 p A F H) (pu:Purse H0 p) (l0:∀ i,i < 3->∃ xs,H0 (A i)=some (.lst xs)) {l:Addr}{ss:List (Addr×S3)} (hs:SacksAt H0 l ss) (n0:l≠p) (n1:l≠A 0) (n2:l≠A 1) (n3:l≠A 2):SacksAt H l ss:=
 ⟨h.kp _ _ n0 n1 n2 n3 hs.l,λa ha=>h.tup pu l0 (hs.each a ha)⟩
theorem sel_set {way:Int}{x y z:Int} (h:way=0\/way=1):([x,y].map V.int).set way.toNat (V.int z)=([sel way z x,sel way y z]:List Int).map V.int:=by rcases h with rfl | rfl <;> rfl
theorem sel_map {way:Int}{x y:Int} (h:way=0\/way=1):atI ([x,y].map V.int) way=some (V.int (sel way x y)):=by rcases h with rfl | rfl <;> rfl
theorem sel_both {α:Type}{way:Int}{x y:α}{P:α->Prop} (hx:P x) (hy:P y):P (sel way x y):=by unfold sel;split <;> assumption
theorem none_of {H H1:Hp}{a:Addr} (s:Same H H1) (h:H1 a=none):H a=none:=by
 cases z:H a with
 | none=>rfl
 | some u=>rw [s _ _ z] at h;cases h
theorem RowH.fresh {H0:Hp}{p:Addr}{A:Nat->Addr}{F:Nat->List Int}{H:Hp} (h:RowH H0 p A F H) {x:Addr} (hx:H x=none):H0 x=none:=by
 have n0:x≠p:=λz=>by obtain ⟨a,b,c,e⟩:=h.pu;rw [z,e] at hx;cases hx
 have n:∀ i,i < 7->x≠A i:=λi hi z=>by rw [z,h.ls i hi] at hx;cases hx
 cases z:H0 x with
 | none=>rfl
 | some u=>rw [h.kp x u n0 (n 0 (by decide)) (n 1 (by decide)) (n 2 (by decide)) z] at hx;cases hx
def spRow36:Sp:=λvs H Q _=>∃ p tr m ll lw st lb lr lk,∃ rooms:List Int,∃ r:M4,∃ ls ws bs rs ks,vs=[.ref p,.ref tr,.ref m,.ref ll,.ref lw,.ref st]/\Purse H p/\H tr=some (.tup (rooms.map V.int))/\H m=some (.tup [.int r.lo,.int r.hi,.int r.t,.int r.m])/\SacksAt H ll ls/\SacksAt H lw ws/\H st=some (.tup [.ref lb,.ref lr,.ref lk]) /\
 (H lb=some (.lst (List.map V.int bs))/\H lr=some (.lst (List.map V.int rs))/\H lk=some (.lst (List.map V.int ks)))/\(lb≠lr/\lb≠lk/\lr≠lk/\lb≠p/\lr≠p/\lk≠p)/\((ll≠p/\ll≠lb/\ll≠lr/\ll≠lk)/\lw≠p/\lw≠lb/\lw≠lr/\lw≠lk) /\
 (0<=r.lo/\r.lo < r.hi/\r.hi < rooms.length/\1<=r.m/\r.m<=99)/\(bs.length=rooms.length/\rooms.length<=12/\rs.length=ls.length/\ks.length=ws.length/\ls.length<=8/\ws.length<=8)/\(∀ x∈rs,(0:Int)<=x)/\(∀ x∈ks,(0:Int)<=x)/\(∀ w:Int,0<=bag bs w)/\(∀ w:Int,0<=w->w < rooms.length->bag bs w<=bag rooms w) /\
 ∀ (x:RA) bs' rs' ks' H',(∀ c u,c≠p->c≠lb->c≠lr->c≠lk->H c=some u->H' c=some u)->Purse H' p->H' lb=some (.lst (List.map V.int bs'))->H' lr=some (.lst (List.map V.int rs'))->H' lk=some (.lst (List.map V.int ks'))->RA.At H' x->(H x.a=none/\H x.b=none/\H x.c=none)->RowOk r (ls.map (·.2)) (ws.map (·.2)) rooms bs rs ks x.r bs' rs' ks'->Q (.ref x.a) H'
end Sm
namespace Sm
open PySem L2
def sumAt (f:T3->Int) (ts:List T3) (k:Nat):Int:=((ts.filter λt=>decide (f t=(k:Int))).map (·.m)).sum
theorem sumAt_snoc {f:T3->Int}{ts:List T3}{t:T3}{k:Nat}:sumAt f (ts++[t]) k=sumAt f ts k + if f t=(k:Int) then t.m else 0:=by
 unfold sumAt
 rw [List.filter_append,zB,zu]
 by_cases c:f t=(k:Int)
 ·simp [c]
 ·simp [c]
theorem sum_perm:∀ {xs ys:List Int},xs.Perm ys->xs.sum=ys.sum:=λh=>by
 induction h with
 | nil=>rfl
 | cons x _ ih=>rw [yV,yV,ih]
 | swap x y l=>rw [yV,yV,yV,yV];omega
 | trans _ _ ih1 ih2=>rw [ih1,ih2]
theorem sumAt_perm {f:T3->Int}{ts us:List T3}{k:Nat} (h:ts.Perm us):sumAt f ts k=sumAt f us k:=sum_perm ((h.filter _).map _)
structure StrOk (ls ws:List S3) (rs ks:List Int) (ts:List T3) (rs' ks':List Int):Prop where
 ones:∀ t∈ts,T3.ok ls.length ws.length t
 str:∀ t∈ts,strT ls ws t=true
 nd:(ts.map λt=>[t.k,t.j]).Nodup
 rl:rs'.length=ls.length
 kl:ks'.length=ws.length
 r0:∀ y∈rs',(0:Int)<=y
 k0:∀ y∈ks',(0:Int)<=y
 re:∀ k:Nat,k < ls.length->g36 rs' k=g36 rs k - sumAt (·.k) ts k
 ke:∀ k:Nat,k < ws.length->g36 ks' k=g36 ks k - sumAt (·.j) ts k
theorem StrOk.perm {ls ws:List S3}{rs ks:List Int}{ts us:List T3}{rs' ks':List Int} (h:StrOk ls ws rs ks ts rs' ks') (p:us.Perm ts):StrOk ls ws rs ks us rs' ks':=
 ⟨λt ht=>h.ones t (p.mem_iff.mp ht),λt ht=>h.str t (p.mem_iff.mp ht),((p.map λt:T3=>[t.k,t.j]).nodup_iff).mpr h.nd,h.rl,h.kl,h.r0,h.k0,λk hk=>by rw [sumAt_perm p];exact h.re k hk,λk hk=>by rw [sumAt_perm p];exact h.ke k hk⟩
theorem mem_g36 {xs:List Int}{y:Int} (h:y∈xs):∃ k,k < xs.length/\y=g36 xs k:=by
 obtain ⟨k,hk,e⟩:=yh h
 exact ⟨k,hk,by have:=wF hk;rw [zH hk,e] at this;exact Option.some.inj this⟩
theorem mem_set36 {xs:List Int}{k:Nat}{v:Int}{P:Int->Prop} (h:∀ y∈xs,P y) (hv:P v):∀ y∈xs.set k v,P y:=λy hy=>by
 rcases yO hy with q | q
 ·exact h y q
 ·rw [q];exact hv
def Ahead (ts:List T3) (k j:Nat):Prop:=∀ t∈ts,t.k < k\/(t.k=k/\t.j < j)
theorem StrOk.step {ls ws:List S3}{rs ks:List Int}{ts:List T3}{rs' ks':List Int}{k j:Nat}{s:Int}{l w:S3} (h:StrOk ls ws rs ks ts rs' ks') (a:Ahead ts k j) (hl:ls[k]?=some l) (hw:ws[j]?=some w) (st:strB l w=true) (s0:0 < s) (s1:s<=g36 rs' k) (s2:s<=g36 ks' j) :
  StrOk ls ws rs ks (ts++[⟨k,j,s⟩]) (rs'.set k (g36 rs' k - s)) (ks'.set j (g36 ks' j - s)):=by
 have lk:=(zK.mp hl).1
 have lj:=(zK.mp hw).1
 refine ⟨λt ht=>?_,λt ht=>?_,?_,by rw [zq,h.rl],by rw [zq,h.kl],mem_set36 (P:=λy=>0<=y) h.r0 (by omega),mem_set36 (P:=λy=>0<=y) h.k0 (by omega),λm hm=>?_,λm hm=>?_⟩
 ·rcases zV.mp ht with q | q
  ·exact h.ones t q
  ·rw [zE.mp q];exact ⟨⟨by show (0:Int)<=(k:Int);omega,by show (k:Int) < _;omega⟩,⟨by show (0:Int)<=(j:Int);omega,by show (j:Int) < _;omega⟩,s0⟩
 ·rcases zV.mp ht with q | q
  ·exact h.str t q
  ·rw [zE.mp q,strT_eq (l:=l) (w:=w) (by show ls[((k:Int)).toNat]?=_;rw [zc];exact hl) (by show ws[((j:Int)).toNat]?=_;rw [zc];exact hw)];exact st
 ·rw [zB,List.nodup_append]
  refine ⟨h.nd,by simp,λx hx y hy e=>?_⟩
  obtain ⟨t,ht,rfl⟩:=zS.mp hx
  have hy:=zE.mp hy
  rw [hy] at e
  have e1:t.k=(k:Int):=by have:=congrArg List.head? e;simpa using this
  have e2:t.j=(j:Int):=by have:=congrArg (λl:List Int=>l.getD 1 0) e;simpa using this
  rcases a t ht with q | ⟨_,q⟩
  ·omega
  ·omega
 ·rw [sumAt_snoc]
  by_cases c:k=m
  ·subst c
   rw [g36_set (by rw [h.rl];exact lk),if_pos rfl,h.re k hm];show _ - s=_ - (_ + s);omega
  ·rw [g36_set' c,if_neg (by show ¬ (k:Int)=m;omega),h.re m hm];omega
 ·rw [sumAt_snoc]
  by_cases c:j=m
  ·subst c
   rw [g36_set (by rw [h.kl];exact lj),if_pos rfl,h.ke j hm];show _ - s=_ - (_ + s);omega
  ·rw [g36_set' c,if_neg (by show ¬ (j:Int)=m;omega),h.ke m hm];omega
theorem set_same36 {xs:List Int}{k:Nat} (h:k < xs.length):xs.set k (g36 xs k - 0)=xs:=by
 refine List.ext_getElem? λi=>?_
 rw [List.getElem?_set]
 by_cases c:k=i
 ·subst c;rw [if_pos rfl,if_pos h,wF h,yt]
 ·rw [if_neg c]
def spStr36:Sp:=λvs H Q _=>∃ p ll lw st lb lr lk ls ws rs ks,vs=[.ref p,.ref ll,.ref lw,.ref st]/\Purse H p/\SacksAt H ll ls/\SacksAt H lw ws/\H st=some (.tup [.ref lb,.ref lr,.ref lk]) /\
 (H lr=some (.lst (List.map V.int rs))/\H lk=some (.lst (List.map V.int ks)))/\(lr≠lk/\lr≠p/\lk≠p)/\((ll≠p/\ll≠lr/\ll≠lk)/\lw≠p/\lw≠lr/\lw≠lk) /\
 (rs.length=ls.length/\ks.length=ws.length/\ls.length<=8/\ws.length<=8)/\(∀ x∈rs,(0:Int)<=x/\x<=99)/\(∀ x∈ks,(0:Int)<=x) /\
 ∀ l (ts:List (Addr×T3)) rs' ks' H',(∀ c u,c≠p->c≠lr->c≠lk->H c=some u->H' c=some u)->Purse H' p->H' lr=some (.lst (List.map V.int rs'))->H' lk=some (.lst (List.map V.int ks'))->H l=none->H' l=some (.lst (ts.map λx=>V.ref x.1))->(∀ x∈ts,H' x.1=some (.tup [.int x.2.k,.int x.2.j,.int x.2.m]))->ts.length<=64 ->
  StrOk (ls.map (·.2)) (ws.map (·.2)) rs ks (ts.map (·.2)) rs' ks'->Q (.ref l) H'
end Sm
namespace Sm
open PySem L2
structure RowsOk (rooms:List Int) (ls ws:List S3) (ms:List M4) (xs:List R4) (b0 rs ks bs' rs' ks':List Int):Prop where
 len:xs.length=ms.length
 ok:∀ x∈xs,x.ok ls.length ws.length
 kept:∀ rest,keptF rooms ls ws (ms.zip xs++rest) b0=keptF rooms ls ws rest bs'
 bl:bs'.length=rooms.length
 b0:∀ w:Int,0<=bag bs' w
 br:∀ w:Int,0<=w->w < rooms.length->bag bs' w<=bag rooms w
 rl:rs'.length=ls.length
 kl:ks'.length=ws.length
 r0:∀ y∈rs',(0:Int)<=y
 k0:∀ y∈ks',(0:Int)<=y
 re:∀ k:Nat,k < ls.length->g36 rs' k=g36 rs k - (xs.map λx=>g36 x.bg k).sum
 ke:∀ k:Nat,k < ws.length->g36 ks' k=g36 ks k - (xs.map λx=>g36 x.cm k).sum
theorem zip_app36 {α β:Type}:∀ {xs:List α}{ys:List β}{us:List α}{vs:List β},xs.length=ys.length->(xs++us).zip (ys++vs)=xs.zip ys++us.zip vs
 | [],[],_,_,_=>rfl
 | x::xs,y::ys,us,vs,h=>by
  rw [yW,yW,List.zip_cons_cons,List.zip_cons_cons,zip_app36 (Nat.succ.inj h),yW]
theorem RowsOk.step {rooms:List Int}{ls ws:List S3}{ms:List M4}{xs:List R4} {b0 rs ks bs' rs' ks' bs2 rs2 ks2:List Int}{r:M4}{x:R4} (h:RowsOk rooms ls ws ms xs b0 rs ks bs' rs' ks') (o:RowOk r ls ws rooms bs' rs' ks' x bs2 rs2 ks2) :
  RowsOk rooms ls ws (ms++[r]) (xs++[x]) b0 rs ks bs2 rs2 ks2:=by
 refine ⟨by rw [zT,zT,h.len];rfl,λy hy=>?_,λrest=>?_,by rw [o.bl,h.bl],o.b0,o.br,o.rl,o.kl,o.r0,o.k0,λk hk=>?_,λk hk=>?_⟩
 ·rcases zV.mp hy with q | q
  ·exact h.ok y q
  ·rw [zE.mp q];exact o.ok
 ·rw [zip_app36 h.len.symm,List.append_assoc,h.kept]
  show keptF rooms ls ws ((r,x)::rest) bs'=_
  rw [keptF_cons,o.win,o.beh,yT]
  show (((bs2.zip rooms).all λp=>decide (p.1<=p.2)) && _)=_
  have:((bs2.zip rooms).all λp=>decide (p.1<=p.2))=true:=by
   rw [yS]
   intro p hp
   obtain ⟨k,hk⟩:=List.getElem?_of_mem hp
   rw [List.getElem?_zip_eq_some] at hk
   have k1:=(zK.mp hk.1).1
   have k2:=(zK.mp hk.2).1
   have e1:bag bs2 (k:Int)=p.1:=Option.some.inj (by rw [<-hk.1];unfold bag;rw [zc];exact (wF k1).symm)
   have e2:bag rooms (k:Int)=p.2:=Option.some.inj (by rw [<-hk.2];unfold bag;rw [zc];exact (wF k2).symm)
   have:=o.br (k:Int) (by omega) (by omega)
   rw [e1,e2] at this
   exact decide_eq_true this
  rw [this,yT]
 ·rw [o.re k hk,h.re k hk,zB,zu];show _=_ - (_ + (g36 x.bg k + 0));omega
 ·rw [o.ke k hk,h.ke k hk,zB,zu];show _=_ - (_ + (g36 x.cm k + 0));omega
structure PlanGood (rooms:List Int) (ms:List M4) (ls ws:List S3) (xs:List R4) (ts:List T3) (ks2:List Int):Prop where
 kept:keptF rooms ls ws (ms.zip xs) (List.replicate rooms.length 0)=true
 str:∀ t∈ts,strT ls ws t=true
 ones:∀ t∈ts,T3.ok ls.length ws.length t
 left:∀ k:Nat,k < ls.length->(xs.map λx=>g36 x.bg k).sum + sumAt (·.k) ts k<=g36 (ls.map (·.m)) k
 came:∀ k:Nat,k < ws.length->(xs.map λx=>g36 x.cm k).sum + sumAt (·.j) ts k=g36 (ws.map (·.m)) k - g36 ks2 k
 kl:ks2.length=ws.length
 k0:∀ y∈ks2,(0:Int)<=y
theorem totF_g36 {n:Nat}{rows:List (List Int)}{ts:List T3}{f:T3->Int}{k:Nat} (h:k < n):(totF n rows (ts.map λt=>(f t,t.m)))[k]?=some ((rows.map λr=>g36 r k).sum + sumAt f ts k):=by
 rw [totF_at h]
 congr 2
 unfold sumAt
 rw [List.filter_map,zd];rfl
theorem sum_range {xs:List Int}:∀ {n:Nat}{f:Nat->Int},xs.length=n->(∀ k,k < n->g36 xs k=f k)->xs.sum=((List.range n).map f).sum:=by
 intro n f l h
 have:xs=(List.range n).map f:=by
  refine List.ext_getElem? λi=>?_
  by_cases hi:i < n
  ·rw [wF (by omega),h i hi,zG,List.getElem?_range hi];rfl
  ·rw [yP (by omega),yP (by rw [zA,List.length_range];omega)]
 rw [this]
theorem sum_sub {n:Nat}{f g:Nat->Int}:((List.range n).map λk=>f k - g k).sum=((List.range n).map f).sum - ((List.range n).map g).sum:=by
 induction n with
 | zero=>rfl
 | succ n ih=>
  rw [yo,zB,zB,zB,zu,zu,zu,ih]
  show _ + (f n - g n + 0)=_ + (f n + 0) - (_ + (g n + 0));omega
theorem sum_add36 {n:Nat}{f g:Nat->Int}:((List.range n).map λk=>f k + g k).sum=((List.range n).map f).sum + ((List.range n).map g).sum:=by
 induction n with
 | zero=>rfl
 | succ n ih=>
  rw [yo,zB,zB,zB,zu,zu,zu,ih]
  show _ + (f n + g n + 0)=_ + (f n + 0) + (_ + (g n + 0));omega
theorem zero_sum36 {n:Nat}:((List.range n).map λ_=>(0:Int)).sum=0:=by
 induction n with
 | zero=>rfl
 | succ n ih=>rw [yo,zB,zu,ih];rfl
theorem sum_one36 {n:Nat}{a m:Int} (h0:0<=a) (h1:a < n):((List.range n).map λk:Nat=>if a=(k:Int) then m else 0).sum=m:=by
 induction n with
 | zero=>omega
 | succ n ih=>
  rw [yo,zB,zu]
  show _ + ((if a=((n:Nat):Int) then m else 0) + 0)=m
  by_cases c:a=(n:Int)
  ·rw [if_pos c]
   have:((List.range n).map λk:Nat=>if a=(k:Int) then m else 0).sum=0:=by
    have:((List.range n).map λk:Nat=>if a=(k:Int) then m else 0)=(List.range n).map λ_=>(0:Int):=yg λk hk=>by
     rw [if_neg];have:=zv.mp hk;omega
    rw [this];exact zero_sum36
   rw [this];omega
  ·rw [if_neg c,ih (by omega)];omega
theorem sum_sumAt {n:Nat}{f:T3->Int}:∀ {ts:List T3},(∀ t∈ts,0<=f t/\f t < n)->((List.range n).map (sumAt f ts)).sum=(ts.map (·.m)).sum:=by
 intro ts
 induction ts with
 | nil=>
  intro _
  have:(List.range n).map (sumAt f [])=(List.range n).map λ_=>(0:Int):=rfl
  rw [this];exact zero_sum36
 | cons t ts ih=>
  intro h
  have e:(List.range n).map (sumAt f (t::ts))=(List.range n).map λk:Nat=>(if f t=(k:Int) then t.m else 0) + sumAt f ts k:=yg λk _=>by
   unfold sumAt
   rw [List.filter_cons]
   by_cases c:f t=(k:Int)
   ·simp [c]
   ·simp [c]
  rw [e,sum_add36,ih λu hu=>h u (zW _ hu),sum_one36 (h t zf).1 (h t zf).2];rfl
theorem upto36 {ns:List Int}{ss:List S3} (l:ns.length=ss.length) (h:∀ k:Nat,k < ss.length->g36 ns k<=g36 (ss.map (·.m)) k):uptoB ns ss=true:=by
 unfold uptoB
 rw [yS]
 intro p hp
 obtain ⟨k,hk⟩:=List.getElem?_of_mem hp
 rw [List.getElem?_zip_eq_some] at hk
 have k1:=(zK.mp hk.1).1
 have k2:=(zK.mp hk.2).1
 have e1:g36 ns k=p.1:=Option.some.inj ((wF k1).symm.trans hk.1)
 have e2:g36 (ss.map (·.m)) k=p.2.m:=by
  have:(ss.map (·.m))[k]?=some p.2.m:=by rw [zG,hk.2];rfl
  exact Option.some.inj ((wF (by rw [zA];exact k2)).symm.trans this)
 have:=h k k2
 rw [e1,e2] at this
 exact decide_eq_true this
theorem PlanGood.worth {rooms:List Int}{ms:List M4}{ls ws:List S3}{xs:List R4}{ts:List T3} {ks2:List Int} (h:PlanGood rooms ms ls ws xs ts ks2) (us:List T3) (hu:us=ts\/us=[]) :
  worthF rooms ms ls ws xs us=some ((ws.map (·.m)).sum - ks2.sum - ((ts.map (·.m)).sum - (us.map (·.m)).sum)):=by
 have m0:∀ {f:T3->Int}{k:Nat},0<=sumAt f ts k:=λ{f k}=>by
  unfold sumAt
  have:∀ l:List T3,(∀ t∈l,0 < t.m)->0<=(l.map (·.m)).sum:=λl=>by
   induction l with
   | nil=>intro _;exact zw _
   | cons t l ih=>intro q;rw [zz,yV];have:=q t zf;have:=ih λu hu=>q u (zW _ hu);omega
  exact this _ λt ht=>(h.ones t (List.mem_filter.mp ht).1).m
 have le:∀ {f:T3->Int}{k:Nat},sumAt f us k<=sumAt f ts k:=λ{f k}=>by
  rcases hu with rfl | rfl
  ·exact zw _
  ·exact m0
 have str:straightB ls ws us=true:=by
  unfold straightB
  rw [yS]
  rcases hu with rfl | rfl
  ·exact h.str
  ·exact nofun
 have gl:∀ k,k < ls.length->g36 (leftF ls.length xs us) k=(xs.map λx=>g36 x.bg k).sum + sumAt (·.k) us k:=λk hk=>by
  have:=totF_g36 (n:=ls.length) (rows:=xs.map (·.bg)) (ts:=us) (f:=(·.k)) hk
  rw [zd] at this
  have e:(leftF ls.length xs us)[k]?=_:=this
  exact Option.some.inj ((wF (by unfold leftF;rw [wH];exact hk)).symm.trans e)
 have gc:∀ k,k < ws.length->g36 (cameF ws.length xs us) k=(xs.map λx=>g36 x.cm k).sum + sumAt (·.j) us k:=λk hk=>by
  have:=totF_g36 (n:=ws.length) (rows:=xs.map (·.cm)) (ts:=us) (f:=(·.j)) hk
  rw [zd] at this
  have e:(cameF ws.length xs us)[k]?=_:=this
  exact Option.some.inj ((wF (by unfold cameF;rw [wH];exact hk)).symm.trans e)
 have u1:uptoB (leftF ls.length xs us) ls=true:=upto36 (by unfold leftF;rw [wH]) λk hk=>by
  have:=h.left k hk;have:=le (f:=(·.k)) (k:=k);rw [gl k hk];omega
 have u2:uptoB (cameF ws.length xs us) ws=true:=upto36 (by unfold cameF;rw [wH]) λk hk=>by
  have:=h.came k hk;have:=le (f:=(·.j)) (k:=k);have:=h.k0 _ (wS (show k < ks2.length by rw [h.kl];exact hk));rw [gc k hk];omega
 have sm:(cameF ws.length xs us).sum=(ws.map (·.m)).sum - ks2.sum - ((ts.map (·.m)).sum - (us.map (·.m)).sum):=by
  have a1:=sum_range (xs:=cameF ws.length xs us) (n:=ws.length) (f:=λk=>(g36 (ws.map (·.m)) k - g36 ks2 k) - (sumAt (·.j) ts k - sumAt (·.j) us k)) (by unfold cameF;rw [wH]) λk hk=>by
   rw [gc k hk];have:=h.came k hk;omega
  rw [a1,sum_sub,sum_sub,sum_sub]
  have b1:=sum_range (xs:=ws.map (·.m)) (n:=ws.length) (f:=λk=>g36 (ws.map (·.m)) k) (by rw [zA]) λk _=>rfl
  have b2:=sum_range (xs:=ks2) (n:=ws.length) (f:=λk=>g36 ks2 k) h.kl λk _=>rfl
  have b3:((List.range ws.length).map λk=>sumAt (·.j) ts k).sum=(ts.map (·.m)).sum:=sum_sumAt (n:=ws.length) (f:=(·.j)) λt ht=>(h.ones t ht).j
  have b4:((List.range ws.length).map λk=>sumAt (·.j) us k).sum=(us.map (·.m)).sum:=sum_sumAt (n:=ws.length) (f:=(·.j)) λt ht=>by
   rcases hu with rfl | rfl
   ·exact (h.ones t ht).j
   ·cases ht
  rw [<-b1,<- b2,b3,b4]
 unfold worthF
 rw [str,h.kept,u1,u2,sm];rfl
theorem still_worth {rooms:List Int}{ms:List M4}{ls ws:List S3} (hm:∀ r∈ms,0<=r.lo/\r.lo < r.hi/\r.hi < rooms.length/\1<=r.m) (h0:∀ y∈rooms,(0:Int)<=y) (l0:∀ s∈ls,0<=s.m) (w0:∀ s∈ws,0<=s.m) :
  worthF rooms ms ls ws (ms.map λ_=>⟨0,0,List.replicate ls.length 0,List.replicate ws.length 0⟩) []=some 0:=by
 have z:∀ (n k:Nat),g36 (List.replicate n (0:Int)) k=0:=λn k=>by
  unfold g36;rw [zP,z4];split <;> rfl
 have kept:∀ l:List M4,(∀ r∈l,0<=r.lo/\r.lo < r.hi/\r.hi < rooms.length/\1<=r.m)->keptF rooms ls ws (l.zip (l.map λ_=>⟨0,0,List.replicate ls.length 0,List.replicate ws.length 0⟩)) (List.replicate rooms.length 0)=true:=λl=>by
  induction l with
  | nil=>intro _;rfl
  | cons r l ih=>
   intro hl
   obtain ⟨r0,r1,r2,r3⟩:=hl r zf
   have b0:∀ w:Int,bag (List.replicate rooms.length (0:Int)) w=0:=λw=>z _ _
   have rb:∀ w:Int,0<=w->w < rooms.length->0<=bag rooms w:=λw w0 w1=>h0 _ (wS (show w.toNat < rooms.length by omega))
   have o:=(RI.start (r:=r) (ls:=ls) (ws:=ws) (rooms:=rooms) (bs:=List.replicate rooms.length 0) (rs:=List.replicate ls.length 0) (ks:=List.replicate ws.length 0) (zX ..) (zX ..) (λx hx=>by rw [(zy.mp hx).2];exact zw _) (λx hx=>by rw [(zy.mp hx).2];exact zw _) (by omega) (λw=>by rw [b0];exact zw _) (λw w0 w1=>by rw [b0];exact rb w w0 w1)).done ⟨r0,by rw [zX];omega,by omega,by rw [zX];omega,by omega⟩ (λw=>by rw [b0];exact zw _)
   have st:RowsOk rooms ls ws [] [] (List.replicate rooms.length 0) (List.replicate ls.length 0) (List.replicate ws.length 0) (List.replicate rooms.length 0) (List.replicate ls.length 0) (List.replicate ws.length 0):=
    ⟨rfl,nofun,λ_=>rfl,zX ..,λw=>by rw [b0];exact zw _,λw w0 w1=>by rw [b0];exact rb w w0 w1,zX ..,zX ..,λx hx=>by rw [(zy.mp hx).2];exact zw _,λx hx=>by rw [(zy.mp hx).2];exact zw _,λk _=>by show _=_ - (0:Int);omega,λk _=>by show _=_ - (0:Int);omega⟩
   have:=(st.step o).kept (l.zip (l.map λ_=>⟨0,0,List.replicate ls.length 0,List.replicate ws.length 0⟩))
   exact Eq.trans this (ih λy hy=>hl y (zW _ hy))
 have s0:∀ (n k:Nat) (f:R4->List Int),(∀ y∈(ms.map λ_=>(⟨0,0,List.replicate ls.length 0,List.replicate ws.length 0⟩:R4)),g36 (f y) k=0)->((ms.map λ_=>(⟨0,0,List.replicate ls.length 0,List.replicate ws.length 0⟩:R4)).map λx=>g36 (f x) k).sum=0:=λn k f hf=>by
  generalize (ms.map λ_=>(⟨0,0,List.replicate ls.length 0,List.replicate ws.length 0⟩:R4))=ys at hf
  induction ys with
  | nil=>rfl
  | cons y ys ih=>rw [zz,yV,hf y zf,ih λu hu=>hf u (zW _ hu)];rfl
 have ge0:∀ {ss:List S3}{k:Nat},(∀ s∈ss,0<=s.m)->k < ss.length->0<=g36 (ss.map (·.m)) k:=λ{ss k} q hk=>by
  have:=wS (xs:=ss.map (·.m)) (k:=k) (by rw [zA];exact hk)
  obtain ⟨s,hs,e⟩:=zS.mp this
  rw [<-e];exact q s hs
 have g:PlanGood rooms ms ls ws (ms.map λ_=>⟨0,0,List.replicate ls.length 0,List.replicate ws.length 0⟩) [] (ws.map (·.m)):=
  ⟨kept ms hm,nofun,nofun,λk hk=>by rw [s0 0 k (·.bg) λy hy=>by obtain ⟨_,_,rfl⟩:=zS.mp hy;exact z _ _];have:=ge0 l0 hk;show (0:Int) + 0<=_;omega,λk hk=>by rw [s0 0 k (·.cm) λy hy=>by obtain ⟨_,_,rfl⟩:=zS.mp hy;exact z _ _];show (0:Int) + 0=_;omega,zA ..,λy hy=>by obtain ⟨s,hs,rfl⟩:=zS.mp hy;exact w0 s hs⟩
 have:=g.worth [] (.inr rfl)
 rw [this]
 congr 1
 show _ - _ - ((0:Int) - 0)=0
 omega
end Sm
namespace Sm
open PySem L2
def spPlan36 (K:PySem.W.Frag):Sp:=λvs H Q _=>∃ sa hd b ll lw rooms tr tm ps ls ws ns,∃ n:Nat,∃ H0,vs=[.ref sa,.ref hd,.ref b,.ref ll,.ref lw,.int n]/\SqL K H0 sa (List.map V.int ns)/\ns.length<=63/\H0 hd=none/\Same H0 H/\n < 100/\BookAt H b rooms tr tm ps/\Good rooms.length (ps.map (·.2))/\1<=rooms.length/\rooms.length<=12/\(∀ y∈rooms,(0:Int)<=y)/\Purse H hd/\SacksAt H ll ls/\SacksAt H lw ws/\(ll≠hd/\lw≠hd)/\ls.length<=8/\ws.length<=8/\(∀ a∈ls,1<=a.2.m/\a.2.m<=99)/\(∀ a∈ws,1<=a.2.m/\a.2.m<=99) /\
 ∀ t p lr lt xs ts lk ks2 H',Go hd H H'->H' t=some (.tup [.ref p,.ref lk])->PlanAt H' p lr lt xs ts->PlanOk ps.length ls.length ws.length xs ts->(ts.map λx=>[x.2.k,x.2.j]).Nodup->H' lk=some (.lst (List.map V.int ks2))->PlanGood rooms (ps.map (·.2)) (ls.map (·.2)) (ws.map (·.2)) (xs.map (·.r)) (ts.map (·.2)) ks2->Q (.ref t) H'
structure PF (H:Hp) (hd lb lr lk st:Addr) (bs rs ks:List Int) (H9:Hp):Prop where
 pu:Purse H9 hd
 kp:∀ c u,c≠hd->H c=some u->H9 c=some u
 kb:H9 lb=some (.lst (bs.map V.int))
 kr:H9 lr=some (.lst (rs.map V.int))
 kk:H9 lk=some (.lst (ks.map V.int))
 ks:H9 st=some (.tup [.ref lb,.ref lr,.ref lk])
structure PN (H:Hp) (hd lb lr lk:Addr):Prop where
 b:H lb=none
 r:H lr=none
 k:H lk=none
 br:lb≠lr
 bk:lb≠lk
 rk:lr≠lk
 bp:lb≠hd
 rp:lr≠hd
 kp:lk≠hd
theorem PF.same {H:Hp}{hd lb lr lk st:Addr}{bs rs ks:List Int} {H9 H':Hp} (h:PF H hd lb lr lk st bs rs ks H9) (s:Same H9 H'):PF H hd lb lr lk st bs rs ks H':=
 ⟨by obtain ⟨a,b,c,e⟩:=h.pu;exact ⟨a,b,c,s _ _ e⟩,λc u n e=>s _ _ (h.kp c u n e),s _ _ h.kb,s _ _ h.kr,s _ _ h.kk,s _ _ h.ks⟩
theorem PF.str {H:Hp}{hd lb lr lk st:Addr} {bs rs ks rs1 ks1:List Int} {H6 H7:Hp} (f:PF H hd lb lr lk st bs rs ks H6) (n:PN H hd lb lr lk) (k:∀ c u,c≠hd->c≠lr->c≠lk->H6 c=some u->H7 c=some u) (pu:Purse H7 hd) (kr:H7 lr=some (.lst (rs1.map V.int))) (kk:H7 lk=some (.lst (ks1.map V.int))):PF H hd lb lr lk st bs rs1 ks1 H7:=
 ⟨pu,λc u m e=>k c u m (xA e n.r) (xA e n.k) (f.kp c u m e),k _ _ n.bp n.br n.bk f.kb,kr,kk,k _ _ (f.pu.tup f.ks) (ne_of f.ks f.kr (by intro z;cases z)) (ne_of f.ks f.kk (by intro z;cases z)) f.ks⟩
structure OnceAt (H9:Hp) (la:Addr) (ts:List (Addr×T3)):Prop where
 l:H9 la=some (.lst (ts.map λx=>V.ref x.1))
 e:∀ x∈ts,H9 x.1=some (.tup [.int x.2.k,.int x.2.j,.int x.2.m])
theorem map_m36 {ps:List (Addr×S3)}:(ps.map (·.2)).map (·.m)=ps.map λa=>a.2.m:=by rw [zd];rfl
theorem sum_pos36 {xs:List Int} (h:∀ x∈xs,0<=x):0<=xs.sum:=by
 induction xs with
 | nil=>exact zw _
 | cons x xs ih=>rw [yV];have:=h x zf;have:=ih λy hy=>h y (zW _ hy);omega
theorem pu_ne36 {H:Hp}{p la:Addr}{ts:List (Addr×T3)} (pu:Purse H p) (k:H la=some (.lst (ts.map λx=>V.ref x.1))):la≠p:=by
 rintro rfl
 obtain ⟨a,b,c,e⟩:=pu
 rw [k] at e
 cases ts with
 | nil=>simp at e
 | cons x ts=>simp at e
theorem good_early {rooms:List Int}{ms:List M4}{ls ws:List S3}{xs:List R4}{ts:List T3} {b1 r1 k1 r2 k2:List Int} (a:StrOk ls ws (ls.map (·.m)) (ws.map (·.m)) ts r1 k1) (b:RowsOk rooms ls ws ms xs (List.replicate rooms.length 0) r1 k1 b1 r2 k2):PlanGood rooms ms ls ws xs ts k2:=
 ⟨by have:=b.kept [];rw [yF] at this;rw [this];rfl,a.str,a.ones,λk hk=>by have:=a.re k hk;have:=b.re k hk;have:=b.r0 _ (wS (show k < r2.length by rw [b.rl];exact hk));omega,λk hk=>by have:=a.ke k hk;have:=b.ke k hk;omega,b.kl,b.k0⟩
theorem good_late {rooms:List Int}{ms:List M4}{ls ws:List S3}{xs:List R4}{ts:List T3} {b1 r1 k1 r2 k2:List Int} (b:RowsOk rooms ls ws ms xs (List.replicate rooms.length 0) (ls.map (·.m)) (ws.map (·.m)) b1 r1 k1) (a:StrOk ls ws r1 k1 ts r2 k2):PlanGood rooms ms ls ws xs ts k2:=
 ⟨by have:=b.kept [];rw [yF] at this;rw [this];rfl,a.str,a.ones,λk hk=>by have:=a.re k hk;have:=b.re k hk;have:=a.r0 _ (wS (show k < r2.length by rw [a.rl];exact hk));omega,λk hk=>by have:=a.ke k hk;have:=b.ke k hk;omega,a.kl,a.k0⟩
end Sm
namespace Sm
open PySem L2
def spCopy36:Sp:=λvs H Q _=>∃ p lr lt xs,∃ ts:List (Addr×T3),vs=[.ref p]/\PlanAt H p lr lt xs ts/\xs.length<=60/\ts.length<=100/\(∀ x∈xs,x.r.bg.length<=100/\x.r.cm.length<=100) /\
 ∀ p2 lr2 lt2 ys H',Same H H'->PlanAt H' p2 lr2 lt2 ys ts->ys.map (·.r)=xs.map (·.r)->Q (.ref p2) H'
theorem eqv_row36 {K:PySem.W.Frag}{H:Hp}{x y:RA} (hx:RA.At H x) (hy:RA.At H y) (e:x.r=y.r):Eqv K H 2 (.ref x.a) (.ref y.a) true:=by
 have hya:=hy.a;have hyb:=hy.b;have hyc:=hy.c
 rw [<-e] at hya hyb hyc
 refine eqv_tup hx.a hya rfl λi u v hu hv=>?_
 match i,hu,hv with
 | 0,hu,hv=>cases hu;cases hv;exact eqv_int _
 | 1,hu,hv=>cases hu;cases hv;exact eqv_int _
 | 2,hu,hv=>cases hu;cases hv;exact eqv_lst hx.b hyb rfl (eqv_ints _)
 | 3,hu,hv=>cases hu;cases hv;exact eqv_lst hx.c hyc rfl (eqv_ints _)
 | n + 4,hu,hv=>cases hu
theorem PlanAt.ne {K:PySem.W.Frag}{H:Hp} {p p2 lr lr2 lt lt2:Addr}{xs ys:List RA}{ts:List (Addr×T3)}{Q:VK} (a:PlanAt H p2 lr2 lt2 ys ts) (b:PlanAt H p lr lt xs ts) (e:ys.map (·.r)=xs.map (·.r)) (q:Q (.bl false) H):rEqv K true (.ref p2) (.ref p) H Q:=by
 refine ⟨3,p2,p,_,_,λ_=>true,true,by decide,rfl,rfl,.inr ⟨SqT.of a.p,SqT.of b.p⟩,rfl,λi x y hx hy=>?_,q⟩
 match i,hx,hy with
 | 0,hx,hy=>
  cases hx;cases hy
  refine eqv_lst a.lr b.lr (by have:=congrArg List.length e;rw [zA,zA] at this;rw [zA,zA];exact this) λi u v hu hv=>?_
  obtain ⟨r,hr,rfl⟩:=xU hu
  obtain ⟨s,hs,rfl⟩:=xU hv
  have er:r.r=s.r:=by
   have:=congrArg (·[i]?) e
   simp only [zG,hr,hs,Option.map_some,Option.some.injEq] at this
   exact this
  exact eqv_row36 (a.rows r (zD hr)) (b.rows s (zD hs)) er
 | 1,hx,hy=>
  cases hx;cases hy
  refine eqv_lst a.ls b.ls rfl λi u v hu hv=>?_
  rw [hu] at hv;cases hv
  obtain ⟨r,_,rfl⟩:=xU hu
  exact eqv_same _
 | n + 2,hx,hy=>cases hx
theorem two_ne36 {K:PySem.W.Frag}{H:Hp}{l d a b c e:Addr}{xs ys:List Addr}{Q:VK} (hl:H l=some (.lst [.ref a,.ref b])) (hd:H d=some (.lst [.ref c,.ref e])) (ha:H a=some (.lst (xs.map V.ref))) (hc:H c=some (.lst (xs.map V.ref))) (hb:H b=some (.lst (ys.map V.ref))) (he:H e=some (.lst (ys.map V.ref))) (q:Q (.bl false) H):rEqv K true (.ref l) (.ref d) H Q:=by
 have same:∀ {a c:Addr}{xs:List Addr},H a=some (.lst (xs.map V.ref))->H c=some (.lst (xs.map V.ref))->Eqv K H 1 (.ref a) (.ref c) true:=λ{a c xs} h1 h2=>eqv_lst h1 h2 rfl λi u v hu hv=>by
  rw [hu] at hv;cases hv
  obtain ⟨r,_,rfl⟩:=xU hu
  exact eqv_same _
 refine ⟨1,l,d,_,_,λ_=>true,true,by decide,rfl,rfl,.inl ⟨SqL.of hl,SqL.of hd⟩,rfl,λi x y hx hy=>?_,q⟩
 match i,hx,hy with
 | 0,hx,hy=>cases hx;cases hy;exact same ha hc
 | 1,hx,hy=>cases hx;cases hy;exact same hb he
 | n + 2,hx,hy=>cases hx
end Sm
namespace Sm
open PySem L2
theorem line9:1002<=sizeLine:=by rw [sizeLine_eq];decide
end Sm


namespace Sm
open PySem L2
def top (i:Nat):Stmt:=PySem.Challenge.pw_satchelmeet_k36_plans_that_go.main.body.getD i (.Pass ⟨0,0,0,0⟩)
abbrev CF:Stmt:=top 19
abbrev C6:Stmt:=top 20
abbrev DH:Stmt:=top 21
abbrev CD:Stmt:=top 22
abbrev C7:Stmt:=top 23
abbrev wT:Stmt:=top 24
abbrev C9:Stmt:=top 25
abbrev C5:Stmt:=top 26
abbrev CC:Stmt:=top 27
abbrev DE:Stmt:=top 1
abbrev C4:Stmt:=top 2
abbrev DF:Stmt:=top 3
abbrev B9:Stmt:=top 4
abbrev Cf:Stmt:=top 8
abbrev wQ:Stmt:=top 9
abbrev wI:Stmt:=top 7
abbrev Cm:Stmt:=top 11
abbrev xw:Stmt:=top 10
abbrev wR:Stmt:=top 13
abbrev Cj:Stmt:=top 15
abbrev Cn:Stmt:=top 14
abbrev wJ:Stmt:=top 12
abbrev DY:Stmt:=top 16
abbrev wN:Stmt:=top 17
abbrev wG:Stmt:=top 6
abbrev Ck:Stmt:=top 28
abbrev Ca:Stmt:=top 29
abbrev C8:Stmt:=top 30
abbrev DG:Stmt:=top 31
abbrev B4:Stmt:=top 32
abbrev B2:Stmt:=top 33
abbrev Cl:Stmt:=top 34
abbrev Fu:Stmt:=top 35
set_option genInjectivity false
set_option genSizeOf false
structure Ad where
 AN:Addr
 BB:FuncData
 AV:Addr
 BM:FuncData
 Bl:Addr
 BY:FuncData
 AM:Addr
 BA:FuncData
 AW:Addr
 BN:FuncData
 Ar:Addr
 AH:FuncData
 A9:Addr
 BS:FuncData
 AU:Addr
 BL:FuncData
 AK:Addr
 By:FuncData
 Bi:Addr
 BV:FuncData
 AT:Addr
 BK:FuncData
 Bj:Addr
 BW:FuncData
 AJ:Addr
 Bx:FuncData
 Au:Addr
 AR:FuncData
 Ag:Addr
 An:FuncData
 Ao:Addr
 AE:FuncData
 AA:Addr
 Bg:FuncData
 Aj:Addr
 Av:FuncData
 Af:Addr
 Am:FuncData
 AS:Addr
 BJ:FuncData
 AB:Addr
 Bh:FuncData
 Ap:Addr
 AF:FuncData
 B3:Addr
 Cz:FuncData
 Ak:Addr
 AC:FuncData
 AI:Addr
 Bw:FuncData
 AX:Addr
 BO:FuncData
 AL:Addr
 Bz:FuncData
 AZ:Addr
 BQ:FuncData
 Bk:Addr
 BX:FuncData
 Aq:Addr
 AG:FuncData
 AY:Addr
 BP:FuncData
 A8:Addr
 BR:FuncData
 Ee:Addr
 Fv:FuncData
structure Tx (K:PySem.W.Frag) (mg:Str->Option Value) (a:Ad):Prop where
 Bf:Fun K "_law_purse" "_law_purse" CF a.AN a.BB
 Cd:Binds K a.BB ["_law_script", "_law_k"] []
 Cb:mg "_law_purse" = some (.ref a.AN)
 Cc:zN K (.ref a.AN)=true
 Bp:Fun K "_law_take" "_law_take" C6 a.AV a.BM
 Ae:Binds K a.BM ["_law_purse_here", "_law_many"] []
 Ab:mg "_law_take" = some (.ref a.AV)
 Ac:zN K (.ref a.AV)=true
 BI:Fun K "_law_far" "_law_far" DH a.Bl a.BY
 GE:Binds K a.BY ["_law_purse_here"] []
 GA:mg "_law_far" = some (.ref a.Bl)
 GC:zN K (.ref a.Bl)=true
 Be:Fun K "_law_rooms" "_law_rooms" CD a.AM a.BA
 FH:Binds K a.BA ["_law_purse_here", "_law_walkers"] []
 FF:mg "_law_rooms" = some (.ref a.AM)
 FG:zN K (.ref a.AM)=true
 Bq:Fun K "_law_step" "_law_step" C7 a.AW a.BN
 Ga:Binds K a.BN ["_law_purse_here"] []
 FT:mg "_law_step" = some (.ref a.AW)
 F1:zN K (.ref a.AW)=true
 Az:Fun K "_law_meetings" "_law_meetings" wT a.Ar a.AH
 ER:Binds K a.AH ["_law_purse_here", "_law_walkers", "_law_most"] []
 EK:mg "_law_meetings" = some (.ref a.Ar)
 EN:zN K (.ref a.Ar)=true
 Bv:Fun K "_law_book" "_law_book" C9 a.A9 a.BS
 Ge:Binds K a.BS ["_law_purse_here", "_law_most_walkers", "_law_most_meetings"] []
 FX:mg "_law_book" = some (.ref a.A9)
 F6:zN K (.ref a.A9)=true
 Bo:Fun K "_law_time" "_law_time" C5 a.AU a.BL
 F9:Binds K a.BL ["_law_purse_here", "_law_book_here", "_law_later"] []
 FS:mg "_law_time" = some (.ref a.AU)
 FZ:zN K (.ref a.AU)=true
 Bc:Fun K "_law_whole" "_law_whole" CC a.AK a.By
 Eb:Binds K a.By ["_law_thing"] []
 D3:mg "_law_whole" = some (.ref a.AK)
 D7:zN K (.ref a.AK)=true
 BF:Fun K "is_whole" "is_whole" DE a.Bi a.BV
 E7:Binds K a.BV ["thing"] []
 E3:mg "is_whole" = some (.ref a.Bi)
 E5:zN K (.ref a.Bi)=true
 Bn:Fun K "is_within" "is_within" C4 a.AT a.BK
 EB:Binds K a.BK ["thing", "least", "most"] []
 Ev:mg "is_within" = some (.ref a.AT)
 Ey:zN K (.ref a.AT)=true
 BG:Fun K "is_count" "is_count" DF a.Bj a.BW
 CM:Binds K a.BW ["thing"] []
 CI:mg "is_count" = some (.ref a.Bj)
 CK:zN K (.ref a.Bj)=true
 Bb:Fun K "are_counts" "are_counts" B9 a.AJ a.Bx
 Ea:Binds K a.Bx ["thing", "size"] []
 D2:mg "are_counts" = some (.ref a.AJ)
 D6:zN K (.ref a.AJ)=true
 AD:Fun K "has_row_form" "has_row_form" Cf a.Au a.AR
 E8:Binds K a.AR ["loads", "wants", "thing"] []
 E4:mg "has_row_form" = some (.ref a.Au)
 E6:zN K (.ref a.Au)=true
 Ai:Fun K "has_straight_form" "has_straight_form" wQ a.Ag a.An
 Dt:Binds K a.An ["loads", "wants", "thing"] []
 Dp:mg "has_straight_form" = some (.ref a.Ag)
 Dr:zN K (.ref a.Ag)=true
 Aw:Fun K "has_plan_form" "has_plan_form" wI a.Ao a.AE
 EO:Binds K a.AE ["book", "loads", "wants", "thing"] []
 EI:mg "has_plan_form" = some (.ref a.Ao)
 EL:zN K (.ref a.Ao)=true
 AO:Fun K "is_straight" "is_straight" Cm a.AA a.Bg
 Fl:Binds K a.Bg ["load", "want"] []
 Fh:mg "is_straight" = some (.ref a.AA)
 Fj:zN K (.ref a.AA)=true
 Al:Fun K "may_be_straight" "may_be_straight" xw a.Aj a.Av
 D9:Binds K a.Av ["loads", "wants", "straight"] []
 D1:mg "may_be_straight" = some (.ref a.Aj)
 D5:zN K (.ref a.Aj)=true
 Ah:Fun K "is_within_meeting" "is_within_meeting" wR a.Af a.Am
 Ds:Binds K a.Am ["meeting", "loads", "wants", "row"] []
 Do:mg "is_within_meeting" = some (.ref a.Af)
 Dq:zN K (.ref a.Af)=true
 Bm:Fun K "of_walker" "of_walker" Cj a.AS a.BJ
 EA:Binds K a.BJ ["parts", "numbers", "walker"] []
 Eu:mg "of_walker" = some (.ref a.AS)
 Ex:zN K (.ref a.AS)=true
 AQ:Fun K "bags_behind" "bags_behind" Cn a.AB a.Bh
 Fm:Binds K a.Bh ["bags", "meeting", "loads", "wants", "row"] []
 Fi:mg "bags_behind" = some (.ref a.AB)
 Fk:zN K (.ref a.AB)=true
 Ax:Fun K "are_rows_kept" "are_rows_kept" wJ a.Ap a.AF
 EQ:Binds K a.AF ["book", "loads", "wants", "rows"] []
 EJ:mg "are_rows_kept" = some (.ref a.Ap)
 EM:zN K (.ref a.Ap)=true
 Ch:Fun K "totals" "totals" DY a.B3 a.Cz
 F8:Binds K a.Cz ["size", "rows", "straight"] []
 FR:mg "totals" = some (.ref a.B3)
 FY:zN K (.ref a.B3)=true
 As:Fun K "are_upto_manys" "are_upto_manys" wN a.Ak a.AC
 Cy:Binds K a.AC ["sums", "parts"] []
 Cv:mg "are_upto_manys" = some (.ref a.Ak)
 Cw:zN K (.ref a.Ak)=true
 Ba:Fun K "plan_worth" "plan_worth" wG a.AI a.Bw
 CL:Binds K a.Bw ["book", "loads", "wants", "thing"] []
 CG:mg "plan_worth" = some (.ref a.AI)
 CJ:zN K (.ref a.AI)=true
 Br:Fun K "_law_sack" "_law_sack" Ck a.AX a.BO
 Gb:Binds K a.BO ["_law_purse_here", "_law_book_here", "_law_walkers", "_law_later"] []
 FU:mg "_law_sack" = some (.ref a.AX)
 F3:zN K (.ref a.AX)=true
 Bd:Fun K "_law_sacks" "_law_sacks" Ca a.AL a.Bz
 Ec:Binds K a.Bz ["_law_script", "_law_book_here", "_law_head", "_law_first", "_law_later"] []
 D4:mg "_law_sacks" = some (.ref a.AL)
 D8:zN K (.ref a.AL)=true
 Bt:Fun K "_law_goes" "_law_goes" C8 a.AZ a.BQ
 EC:Binds K a.BQ ["_law_sacks_here", "_law_rests", "_law_walker", "_law_when", "_law_later"] []
 Ew:mg "_law_goes" = some (.ref a.AZ)
 Ez:zN K (.ref a.AZ)=true
 BH:Fun K "_law_row" "_law_row" DG a.Bk a.BX
 GD:Binds K a.BX ["_law_purse_here", "_law_rooms_here", "_law_meeting", "_law_loads", "_law_wants", "_law_state"] []
 Gz:mg "_law_row" = some (.ref a.Bk)
 GB:zN K (.ref a.Bk)=true
 Ay:Fun K "_law_straight" "_law_straight" B4 a.Aq a.AG
 CZ:Binds K a.AG ["_law_purse_here", "_law_loads", "_law_wants", "_law_state"] []
 CW:mg "_law_straight" = some (.ref a.Aq)
 CY:zN K (.ref a.Aq)=true
 Bs:Fun K "_law_plan" "_law_plan" B2 a.AY a.BP
 Gc:Binds K a.BP ["_law_script", "_law_head", "_law_book_here", "_law_loads", "_law_wants", "_law_first"] []
 FV:mg "_law_plan" = some (.ref a.AY)
 F4:zN K (.ref a.AY)=true
 Bu:Fun K "_law_copy" "_law_copy" Cl a.A8 a.BR
 Gd:Binds K a.BR ["_law_plan_here"] []
 FW:mg "_law_copy" = some (.ref a.A8)
 F5:zN K (.ref a.A8)=true
 EG:Fun K "law" "law" Fu a.Ee a.Fv
 GS:Binds K a.Fv ["_law_script"] []
 GR:mg "law" = some (.ref a.Ee)
 k_law:zN K (.ref a.Ee)=true
 b_all:mg "all" = none
 b_bool:mg "bool" = none
 b_int:mg "int" = none
 b_isinstance:mg "isinstance" = none
 b_len:mg "len" = none
 b_list:mg "list" = none
 b_max:mg "max" = none
 b_min:mg "min" = none
 b_range:mg "range" = none
 b_set:mg "set" = none
 b_sorted:mg "sorted" = none
 b_sum:mg "sum" = none
 b_tuple:mg "tuple" = none
 b_zip:mg "zip" = none
section
variable {P:Program}{w:World}{K:PySem.W.Frag}{mg:Str->Option Value}{base:Heap}{a:Ad}
theorem DD:FnScope ["_law_script", "_law_k", "_law_cell", "_law_left"] ["_law_script", "_law_k"] (defScope CF):=⟨rfl,rfl,rfl,by decide +kernel,rfl,by decide +kernel,by decide +kernel⟩
theorem Co (T:Tx K mg a):FnOk P w K mg base CX0 1 a.AN a.BB ["_law_script", "_law_k"] (spPurse K):=by
 refine T.Bf.ok DD (λvs H Q E h=>?_) (λcdv A outer s H vs Q E hr h=>?_)
 ·obtain ⟨a,ns,k,rfl,_⟩:=h;rfl
 ·have nd:=DD.nd
  have hu:=hr.units
  obtain ⟨sa,ns,k,rfl,hS,hk,q⟩:=h
  refine ⟨_,(@xI _ _ _ (@xO _ _ _ _ _ _ (xK (i:=2) nd rfl (by first | exact Or.inl rfl | exact Or.inr rfl) yz) (@xO _ _ _ _ _ _ (@xZ _ _ _ _ _ _ _ _ (@xP _ _ _ _ _ _ _ _ op_lt (pv 1) (xH (xJ rfl) (by rfl) T.b_len PySem.boot_len (@yw _ _ _ (@yx _ _ _ _ _ (pv 0) xE rfl))) (nomark _)) (@xI _ _ _ (@xT _ _ _ (xK (i:=2) nd rfl (by first | exact Or.inl rfl | exact Or.inr rfl) (@xM _ _ _ _ _ _ _ (xL rfl) (pv 0) (pv 1) (λ_ _=>rfl))))) xS) (@xO _ _ _ _ _ _ (xK (i:=3) nd rfl (by first | exact Or.inl rfl | exact Or.inr rfl) yz) (@xO _ _ _ _ _ _ (@xZ _ _ _ _ _ _ _ _ (@xP _ _ _ _ _ _ _ _ op_lt (pv 2) yz (nomark _)) (@xI _ _ _ (@xT _ _ _ (xK (i:=3) nd rfl (by first | exact Or.inl rfl | exact Or.inr rfl) (@xN _ _ _ _ _ _ _ _ wD (@pe_un _ _ _ _ _ _ un_neg yz) (pv 2))))) xS) (@xO _ _ _ _ _ _ (@xZ _ _ _ _ _ _ _ _ (@xP _ _ _ _ _ _ _ _ op_ge (pv 2) (@xN _ _ _ _ _ _ _ _ op_pow yz yz) (nomark _)) (@xI _ _ _ (@xT _ _ _ (xK (i:=3) nd rfl (by first | exact Or.inl rfl | exact Or.inr rfl) (pv 2)))) xS) (@xT _ _ _ (@xR _ _ _ _ (@xV _ _ _ _ (@yw _ _ _ (@yx _ _ _ _ _ (pv 3) (@yx _ _ _ _ _ (@xN _ _ _ _ _ _ _ _ op_mod (@xN _ _ _ _ _ _ _ _ xf (@xN _ _ _ _ _ _ _ _ xf (@xN _ _ _ _ _ _ _ _ op_mul (pv 2) yz) (@xN _ _ _ _ _ _ _ _ op_mul (pv 1) yz)) yz) yz) (@yx _ _ _ _ _ yz xE rfl) rfl) rfl))))))))))),?_⟩
  have c18:CPow 10 18:=⟨by decide,by decide,by decide⟩
  have s3:3<=sizeLine:=by rw [sizeLine_eq];decide
  have fin:∀ (x y:Int) p,H p=none->Q (.ref p) (upd H p (.lst [.int x,.int y,.int 0])):=λx y p hp=>q p _ hp ⟨x,y,0,yy⟩ (xB hp)
  have c69:∀ x:Int,CMul x 69:=λx=>.inr ⟨by decide,by decide⟩
  have c405:∀ x:Int,CMul x 40503:=λx=>.inr ⟨by decide,by decide⟩
  refine (zr rfl (zr rfl ⟨sa,zr rfl ⟨.inl hS,zr2 rfl rfl (zr rfl (iteN (fun σ H1=>∃ c:Int,σ=[some (.ref sa),some (.int k),some (.int c),none]/\H=H1) ?_ (λc k0=>?_) (λc=>⟨0,rfl,rfl⟩)))⟩⟩))
  ·rintro σ H1 ⟨c,rfl,rfl⟩
   refine (zr rfl (zr2 rfl rfl (zr rfl (iteN (fun σ H1=>∃ d:Int,σ=[some (.ref sa),some (.int k),some (.int c),some (.int d)]/\H=H1) ?_ (λz k0=>?_) (λz=>⟨0,rfl,rfl⟩)))))
   ·rintro σ H1 ⟨d,rfl,rfl⟩
    refine (zr rfl (zr2 rfl rfl ⟨c18,zr2 rfl rfl (zr rfl (iteN (fun σ H1=>∃ d:Int,σ=[some (.ref sa),some (.int k),some (.int c),some (.int d)]/\H=H1) ?_ (λz k0=>(zr rfl (k0 _ _ ⟨c,rfl,rfl⟩))) (λz=>⟨d,rfl,rfl⟩)))⟩))
    rintro σ H1 ⟨d,rfl,rfl⟩
    exact (zr rfl (zr rfl (zr2 rfl rfl ⟨c69 _,zr rfl (zr2 rfl rfl ⟨c405 _,zr2 rfl rfl (zr2 rfl rfl (zr2 rfl rfl ⟨(by show (0:Int) < 2147483647;decide),s3,fin _ _⟩))⟩)⟩)))
   ·exact (zr rfl (zr rfl (zr2 rfl rfl (k0 _ _ (zr rfl rfl)))))
  ·have hk2:k < ns.length:=by
    have:=of_decide_eq_true c
    rw [zA] at this;omega
   exact (zr rfl (zr rfl ⟨sa,_,zr2 rfl rfl ⟨hS,xh (v:=V.int ns[k]) (by simp [hk2]),k0 _ _ (zr rfl rfl)⟩⟩))
theorem DR:FnScope ["_law_purse_here", "_law_many", "_law_digit", "_law_mixed"] ["_law_purse_here", "_law_many"] (defScope C6):=⟨rfl,rfl,rfl,by decide +kernel,rfl,by decide +kernel,by decide +kernel⟩
theorem xi (T:Tx K mg a):FnOk P w K mg base CX0 1 a.AV a.BM ["_law_purse_here", "_law_many"] (spTake):=by
 refine T.Bp.ok DR (λvs H Q E h=>?_) (λcdv A outer s H vs Q E hr h=>?_)
 ·obtain ⟨p,n,rfl,_⟩:=h;rfl
 ·have nd:=DR.nd
  have hu:=hr.units
  obtain ⟨p,n,rfl,n0,n1,⟨x,y,z,hp⟩,q⟩:=h
  refine ⟨_,(@xI _ _ _ (@xO _ _ _ _ _ _ (@xZ _ _ _ _ _ _ _ _ (@xP _ _ _ _ _ _ _ _ op_gt (@xM _ _ _ _ _ _ _ (xL rfl) (pv 0) yz (λ_ _=>rfl)) yz (nomark _)) (@xI _ _ _ (@xO _ _ _ _ _ _ (xK (i:=2) nd rfl (by first | exact Or.inl rfl | exact Or.inr rfl) (@xN _ _ _ _ _ _ _ _ op_mod (@xM _ _ _ _ _ _ _ (xL rfl) (pv 0) yz (λ_ _=>rfl)) (pv 1))) (@xO _ _ _ _ _ _ (xo (@xN _ _ _ _ _ _ _ _ op_fdivB (@xM _ _ _ _ _ _ _ (xL rfl) (pv 0) yz (λ_ _=>rfl)) (pv 1)) (pg_sub (pv 0) yz xr)) (@xT _ _ _ (@xR _ _ _ _ (pv 2)))))) xS) (@xO _ _ _ _ _ _ (ps_augS (pv 0) yz (get_list rfl) yz ip_add xr) (@xO _ _ _ _ _ _ (xK (i:=3) nd rfl (by first | exact Or.inl rfl | exact Or.inr rfl) (@xN _ _ _ _ _ _ _ _ op_mod (@xN _ _ _ _ _ _ _ _ op_mul (@xN _ _ _ _ _ _ _ _ xf (@xM _ _ _ _ _ _ _ (xL rfl) (pv 0) yz (λ_ _=>rfl)) (@xN _ _ _ _ _ _ _ _ op_mul (@xM _ _ _ _ _ _ _ (xL rfl) (pv 0) yz (λ_ _=>rfl)) yz)) yz) yz)) (@xO _ _ _ _ _ _ (xK (i:=3) nd rfl (by first | exact Or.inl rfl | exact Or.inr rfl) (@xN _ _ _ _ _ _ _ _ op_mod (@xN _ _ _ _ _ _ _ _ xf (@xN _ _ _ _ _ _ _ _ xf (@xN _ _ _ _ _ _ _ _ op_mul (pv 3) (pv 3)) (@xN _ _ _ _ _ _ _ _ op_mul (@xM _ _ _ _ _ _ _ (xL rfl) (pv 0) yz (λ_ _=>rfl)) yz)) (@xM _ _ _ _ _ _ _ (xL rfl) (pv 0) yz (λ_ _=>rfl))) yz)) (@xT _ _ _ (@xR _ _ _ _ (@xN _ _ _ _ _ _ _ _ op_mod (@xN _ _ _ _ _ _ _ _ op_fdivB (@xN _ _ _ _ _ _ _ _ op_mod (@xN _ _ _ _ _ _ _ _ op_mul (pv 3) yz) yz) yz) (pv 1))))))))),?_⟩
  have hS:SqL K H p _:=SqL.of hp
  have cm:∀ x c:Int,-(2 ^ 64) < c->c < 2 ^ 64->CMul x c:=λx c h h'=>.inr ⟨h,h'⟩
  refine (zr rfl ⟨p,_,zr2 rfl rfl ⟨hS,rfl,zr2 rfl rfl (zr rfl (iteD (λh1=>?_) λh1=>?_))⟩⟩)
  ·refine (zr rfl ⟨p,_,zr2 rfl rfl ⟨hS,rfl,zr rfl (zr2 rfl rfl ⟨n0,?_⟩)⟩⟩)
   refine (zr rfl ⟨p,_,zr2 rfl rfl ⟨hS,rfl,zr rfl (zr2 rfl rfl ⟨⟨n0,n1⟩,zr rfl ⟨p,_,_,0,rfl,rfl,hp,rfl,?_⟩⟩)⟩⟩)
   exact (zr rfl (q _ _ (yk _ (by omega)) (yY _ n0) ⟨But.set,_,_,_,yy⟩))
  ·refine (zr rfl ⟨p,_,zr2 rfl rfl ⟨hS,rfl,zr2 rfl rfl ⟨p,_,_,2,rfl,rfl,hp,rfl,?_⟩⟩⟩)
   have h2:(upd H p (HO.lst ([V.int x,V.int y,V.int z].set 2 (.int (z + 1))))) p=some (.lst [V.int x,V.int y,V.int (z + 1)]):=yy
   have b2:But p H (upd H p (HO.lst ([V.int x,V.int y,V.int z].set 2 (.int (z + 1))))):=But.set
   generalize upd H p (HO.lst ([V.int x,V.int y,V.int z].set 2 (.int (z + 1))))=H2 at h2 b2 ⊢
   have hS2:SqL K H2 p _:=SqL.of h2
   have big:(2147483647:Int) < 2 ^ 64:=by decide
   have low:-(2:Int) ^ 64 < 0:=by decide
   have pos:(0:Int) < 2147483647:=by decide
   refine (zr rfl ⟨p,_,zr2 rfl rfl ⟨hS2,rfl,zr rfl ⟨p,_,zr2 rfl rfl ⟨hS2,rfl,zr2 rfl rfl ⟨cm _ _ (by decide) (by decide),zr2 rfl rfl (zr2 rfl rfl ⟨cm _ _ (by decide) (by decide),zr2 rfl rfl ⟨(by show (0:Int) < 2147483647;decide),?_⟩⟩)⟩⟩⟩⟩⟩)
   have m0:=yk ((y + (z + 1) * 362437) * 48271) (show (2147483647:Int)≠0 by decide)
   have m1:=yY ((y + (z + 1) * 362437) * 48271) pos
   refine (zr rfl (zr rfl (zr2 rfl rfl ⟨.inl ⟨Int.lt_of_lt_of_le low m0,Int.lt_trans m1 big⟩,zr rfl ⟨p,_,zr2 rfl rfl ⟨hS2,rfl,zr2 rfl rfl ⟨cm _ _ (by decide) (by decide),zr2 rfl rfl (zr rfl ⟨p,_,zr2 rfl rfl ⟨hS2,rfl,zr2 rfl rfl (zr2 rfl rfl ⟨(by show (0:Int) < 2147483629;decide),?_⟩)⟩⟩)⟩⟩⟩⟩)))
   refine (zr rfl (zr2 rfl rfl ⟨cm _ _ (by decide) (by decide),zr2 rfl rfl ⟨(by show (0:Int) < 2147483563;decide),zr2 rfl rfl ⟨⟨by decide,by decide⟩,zr rfl (zr2 rfl rfl ⟨n0,?_⟩)⟩⟩⟩))
   exact q _ _ (yk _ (by omega)) (yY _ n0) ⟨b2,_,_,_,h2⟩
theorem Es:FnScope ["_law_purse_here", "_law_high"] ["_law_purse_here"] (defScope DH):=⟨rfl,rfl,rfl,by decide +kernel,rfl,by decide +kernel,by decide +kernel⟩
theorem FQ (T:Tx K mg a):FnOk P w K mg base CX0 2 a.Bl a.BY ["_law_purse_here"] (spFar):=by
 have Aa:=@xi P w _ _ base _ T
 refine T.BI.ok Es (λvs H Q E h=>?_) (λcdv A outer s H vs Q E hr h=>?_)
 ·obtain ⟨p,rfl,_⟩:=h;rfl
 ·have nd:=Es.nd
  have hu:=hr.units
  obtain ⟨p,rfl,hp,q⟩:=h
  refine ⟨_,(@xI _ _ _ (@xO _ _ _ _ _ _ (xK (i:=1) nd rfl (by first | exact Or.inl rfl | exact Or.inr rfl) (xF Aa (hr.mono (by decide)) rfl T.Ab T.Ac T.Ae .nil pass0 (@yw _ _ _ (@yx _ _ _ _ _ (pv 0) (@yx _ _ _ _ _ yz xE rfl) rfl)))) (@xT _ _ _ (@xR _ _ _ _ (@xN _ _ _ _ _ _ _ _ op_mod (@xN _ _ _ _ _ _ _ _ xf (@xN _ _ _ _ _ _ _ _ op_mul (pv 1) yz) (xF Aa (hr.mono (by decide)) rfl T.Ab T.Ac T.Ae .nil pass0 (@yw _ _ _ (@yx _ _ _ _ _ (pv 0) (@yx _ _ _ _ _ yz xE rfl) rfl)))) (@xN _ _ _ _ _ _ _ _ xf (@xN _ _ _ _ _ _ _ _ op_pow yz yz) yz)))))),?_⟩
  refine (zr rfl ⟨p,zr rfl ⟨by decide,by decide,hp,λd H1 d0 d1 g1=>(zr rfl (zr2 rfl rfl ⟨.inr ⟨by decide,by decide⟩,zr rfl ⟨p,zr rfl ⟨by decide,by decide,g1.2,λe H2 e0 e1 g2=>(zr2 rfl rfl (zr2 rfl rfl ⟨⟨by decide,by decide,by decide⟩,zr2 rfl rfl (zr2 rfl rfl ⟨(by show (0:Int) < 10 ^ Int.toNat 9 + 1;decide),?_⟩)⟩))⟩⟩⟩))⟩⟩)
  have e9:(10:Int) ^ Int.toNat 9 + 1=1000000001:=by decide
  rw [e9]
  exact q _ _ (yk _ (by decide)) (Int.lt_add_one_iff.mp (yY _ (by decide))) (g1.trans g2)
theorem DC:FnScope ["_law_purse_here", "_law_walkers", "_law_rooms_here", "_law_walker", "_law_room"] ["_law_purse_here", "_law_walkers"] (defScope CD):=⟨rfl,rfl,rfl,by decide +kernel,rfl,by decide +kernel,by decide +kernel⟩
theorem Fg (T:Tx K mg a):FnOk P w K mg base CX0 2 a.AM a.BA ["_law_purse_here", "_law_walkers"] (spRooms):=by
 have Aa:=@xi P w _ _ base _ T
 refine T.Be.ok DC (λvs H Q E h=>?_) (λcdv A outer s H vs Q E hr h=>?_)
 ·obtain ⟨p,n,rfl,_⟩:=h;rfl
 ·have nd:=DC.nd
  have hu:=hr.units
  obtain ⟨p,n,rfl,hn,hp,q⟩:=h
  refine ⟨_,(@xI _ _ _ (@xO _ _ _ _ _ _ (xK (i:=2) nd rfl (by first | exact Or.inl rfl | exact Or.inr rfl) (@xV _ _ _ _ wP)) (@xO _ _ _ _ _ _ (ps_for PassesOwn.never rfl (wM rfl T.b_range (@yw _ _ _ (@yx _ _ _ _ _ (pv 1) xE rfl))) (xC (i:=3) nd rfl (by first | exact Or.inl rfl | exact Or.inr rfl)) (@xI _ _ _ (@xO _ _ _ _ _ _ (xK (i:=4) nd rfl (by first | exact Or.inl rfl | exact Or.inr rfl) (@xN _ _ _ _ _ _ _ _ op_fdivB (xF Aa (hr.mono (by decide)) rfl T.Ab T.Ac T.Ae .nil pass0 (@yw _ _ _ (@yx _ _ _ _ _ (pv 0) (@yx _ _ _ _ _ yz xE rfl) rfl))) yz)) (@xO _ _ _ _ _ _ (@xZ _ _ _ _ _ _ _ _ (@xP _ _ _ _ _ _ _ _ wU (pv 4) yz (nomark _)) (@xI _ _ _ (@xT _ _ _ (xK (i:=4) nd rfl (by first | exact Or.inl rfl | exact Or.inr rfl) (xF Aa (hr.mono (by decide)) rfl T.Ab T.Ac T.Ae .nil pass0 (@yw _ _ _ (@yx _ _ _ _ _ (pv 0) (@yx _ _ _ _ _ yz xE rfl) rfl)))))) xS) (@xT _ _ _ (ps_expr (pe_bm PySem.F.plainAttrs_list PySem.F.slot_list_append PySem.F.type_list_append mt_append (pv 2) (@yw _ _ _ (@yx _ _ _ _ _ (pv 4) xE rfl))))))))) (@xT _ _ _ (@xR _ _ _ _ (xu (call_tuple_of) (by rfl) T.b_tuple yU (@yw _ _ _ (@yx _ _ _ _ _ (pv 2) xE rfl)))))))),?_⟩
  have line:1001<=sizeLine:=by rw [sizeLine_eq];decide
  refine ⟨zg _,λl hl=>?_⟩
  have npl:=hp.ne hl
  refine (zr rfl (zr rfl ⟨by omega,by omega,?_⟩))
  refine for_range (lo:=0) (n:=n) (λi σ H2=>∃ v3 v4 rs,σ=[some (.ref p),some (.int n),some (.ref l),v3,v4]/\H2 l=some (.lst (List.map V.int rs))/\rs.length=i/\(∀ r∈rs,(0:Int)<=r/\r<=99)/\Go p H H2)
   ⟨_,_,[],rfl,yy,rfl,(λ_ z=>nomatch z),(Go.refl hp).new hl⟩ ?_ ?_
  ·rintro i σ H2 hi ⟨v3,v4,rs,rfl,h2,hlen,hr,go⟩
   refine (zr rfl ⟨p,zr rfl ⟨by decide,by decide,go.2,λd H3 d0 d1 g3=>(zr2 rfl rfl ⟨⟨by decide,by decide⟩,?_⟩)⟩⟩)
   refine (zr rfl ⟨rfl,zr rfl (iteN (fun σ H4=>∃ x:Int,σ=[some (.ref p),some (.int n),some (.ref l),some (.int (0 + (i:Int))),some (.int x)]/\0<=x/\x<=99/\Go p H2 H4) ?_ (λc k0=>(zr rfl ⟨p,zr rfl ⟨by decide,by decide,g3.2,λe H4 e0 e1 g4=>k0 _ _ ⟨e,rfl,e0,by omega,g3.trans g4⟩⟩⟩)) (λc=>(zr rfl ⟨by omega,by omega,g3⟩)))⟩)
   rintro σ H4 ⟨x,rfl,x0,x1,g4⟩
   have h4:=g4.1 l _ npl h2
   refine (zr rfl ⟨.inl ⟨rfl,_,SqL.of h4⟩,zr rfl ⟨l,zr2 rfl rfl ⟨h4,by rw [zA];omega,_,_,rs++[x],rfl,by rw [yy,zB];rfl,by simp [hlen],λr hr'=>?_,?_⟩⟩⟩)
   ·rcases zV.mp hr' with h | h
    ·exact hr r h
    ·cases zE.mp h;exact ⟨x0,x1⟩
   ·have g2:=go.trans g4
    refine ⟨λb u nb e=>?_,?_⟩
    ·rw [xG (xA e hl)];exact g2.1 b u nb e
    ·obtain ⟨a,b,c,e⟩:=g2.2
     exact ⟨a,b,c,by rw [xG npl.symm];exact e⟩
  ·rintro σ H2 ⟨v3,v4,rs,rfl,h2,hlen,hr,go⟩
   exact (zr rfl ⟨l,zr rfl (.inl ⟨SqL.of h2,λt ht=>q t rs _ (go.new ht) yy hlen hr⟩)⟩)
theorem DS:FnScope ["_law_purse_here", "_law_way"] ["_law_purse_here"] (defScope C7):=⟨rfl,rfl,rfl,by decide +kernel,rfl,by decide +kernel,by decide +kernel⟩
theorem Fz (T:Tx K mg a):FnOk P w K mg base CX0 2 a.AW a.BN ["_law_purse_here"] (spStep):=by
 have Aa:=@xi P w _ _ base _ T
 refine T.Bq.ok DS (λvs H Q E h=>?_) (λcdv A outer s H vs Q E hr h=>?_)
 ·obtain ⟨p,rfl,_⟩:=h;rfl
 ·have nd:=DS.nd
  have hu:=hr.units
  obtain ⟨p,rfl,hp,q⟩:=h
  refine ⟨_,(@xI _ _ _ (@xO _ _ _ _ _ _ (xK (i:=1) nd rfl (by first | exact Or.inl rfl | exact Or.inr rfl) (xF Aa (hr.mono (by decide)) rfl T.Ab T.Ac T.Ae .nil pass0 (@yw _ _ _ (@yx _ _ _ _ _ (pv 0) (@yx _ _ _ _ _ yz xE rfl) rfl)))) (@xO _ _ _ _ _ _ (@xZ _ _ _ _ _ _ _ _ (@xP _ _ _ _ _ _ _ _ op_lt (pv 1) yz (nomark _)) (@xI _ _ _ (@xT _ _ _ (@xR _ _ _ _ (@xM _ _ _ _ _ _ _ (xL rfl) (@xV _ _ _ _ (@yw _ _ _ (@yx _ _ _ _ _ yz (@yx _ _ _ _ _ yz (@yx _ _ _ _ _ yz xE rfl) rfl) rfl))) (pv 1) (λ_ _=>rfl))))) xS) (@xO _ _ _ _ _ _ (@xZ _ _ _ _ _ _ _ _ (@xP _ _ _ _ _ _ _ _ wU (pv 1) yz (nomark _)) (@xI _ _ _ (@xT _ _ _ (@xR _ _ _ _ (@xN _ _ _ _ _ _ _ _ xf yz (xF Aa (hr.mono (by decide)) rfl T.Ab T.Ac T.Ae .nil pass0 (@yw _ _ _ (@yx _ _ _ _ _ (pv 0) (@yx _ _ _ _ _ yz xE rfl) rfl))))))) xS) (@xT _ _ _ (@xR _ _ _ _ (@xN _ _ _ _ _ _ _ _ xf yz (xF Aa (hr.mono (by decide)) rfl T.Ab T.Ac T.Ae .nil pass0 (@yw _ _ _ (@yx _ _ _ _ _ (pv 0) (@yx _ _ _ _ _ (@xN _ _ _ _ _ _ _ _ op_mul yz (@xN _ _ _ _ _ _ _ _ op_pow yz yz)) xE rfl) rfl)))))))))),?_⟩
  have s3:3<=sizeLine:=by rw [sizeLine_eq];decide
  refine (zr rfl ⟨p,zr rfl ⟨by decide,by decide,hp,λd H1 d0 d1 g1=>(zr rfl (zr2 rfl rfl (zr rfl (iteD (λh1=>?_) λh1=>?_))))⟩⟩)
  ·obtain ⟨v,hv,v0,v1⟩:∃ v:Int,atI [V.int 0,V.int 1,V.int 1] d=some (V.int v)/\0<=v/\v<=1:=by
    obtain rfl | rfl | rfl:d=0\/d=1\/d=2:=by omega
    ·exact ⟨0,rfl,by decide,by decide⟩
    ·exact ⟨1,rfl,by decide,by decide⟩
    ·exact ⟨1,rfl,by decide,by decide⟩
   exact ⟨s3,λl hl=>(zr rfl (ixl yy hv (q _ _ v0 (by omega) (g1.new hl))))⟩
  ·refine (zr rfl ⟨rfl,zr rfl (iteD (λh2=>?_) λh2=>?_)⟩)
   ·exact (zr rfl ⟨p,zr rfl ⟨by decide,by decide,g1.2,λe H2 e0 e1 g2=>(zr2 rfl rfl (q _ _ (by omega) (by omega) (g1.trans g2)))⟩⟩)
   ·have e16:(16:Int) * 10 ^ Int.toNat 6=16000000:=by decide
    refine (zr rfl (zr2 rfl rfl ⟨⟨by decide,by decide,by decide⟩,zr2 rfl rfl ⟨.inl ⟨by decide,by decide⟩,p,zr rfl ⟨by decide,by decide,g1.2,λe H2 e0 e1 g2=>(zr2 rfl rfl (q _ _ (by omega) (by rw [e16] at e1;omega) (g1.trans g2)))⟩⟩⟩))
theorem Cu:FnScope ["_law_purse_here", "_law_walkers", "_law_most", "_law_found", "_law_when", "_law_busy", "_law_k", "_law_one", "_law_other", "_law_gap", "_law_passed", "_law_late"] ["_law_purse_here", "_law_walkers", "_law_most"] (defScope wT):=⟨rfl,rfl,rfl,by decide +kernel,rfl,by decide +kernel,by decide +kernel⟩
theorem Em (T:Tx K mg a):FnOk P w K mg base CX0 3 a.Ar a.AH ["_law_purse_here", "_law_walkers", "_law_most"] (spMeetings):=by
 have Aa:=@xi P w _ _ base _ T
 have Gu:=@Fz P w _ _ base _ T
 refine T.Az.ok Cu (λvs H Q E h=>?_) (λcdv A outer s H vs Q E hr h=>?_)
 ·obtain ⟨p,w,n,rfl,_⟩:=h;rfl
 ·have nd:=Cu.nd
  have hu:=hr.units
  obtain ⟨p,w,n,rfl,hn,w9,hw,hp,q⟩:=h
  refine ⟨_,(@xI _ _ _ (@xO _ _ _ _ _ _ (xK (i:=3) nd rfl (by first | exact Or.inl rfl | exact Or.inr rfl) (@xV _ _ _ _ wP)) (@xO _ _ _ _ _ _ (xK (i:=4) nd rfl (by first | exact Or.inl rfl | exact Or.inr rfl) (@xN _ _ _ _ _ _ _ _ xf yz (@xN _ _ _ _ _ _ _ _ op_mul (@xN _ _ _ _ _ _ _ _ op_fdivB (xF Aa (hr.mono (by decide)) rfl T.Ab T.Ac T.Ae .nil pass0 (@yw _ _ _ (@yx _ _ _ _ _ (pv 0) (@yx _ _ _ _ _ yz xE rfl) rfl))) yz) (xF Aa (hr.mono (by decide)) rfl T.Ab T.Ac T.Ae .nil pass0 (@yw _ _ _ (@yx _ _ _ _ _ (pv 0) (@yx _ _ _ _ _ (@xN _ _ _ _ _ _ _ _ op_pow yz yz) xE rfl) rfl)))))) (@xO _ _ _ _ _ _ (xK (i:=5) nd rfl (by first | exact Or.inl rfl | exact Or.inr rfl) (@xV _ _ _ _ wP)) (@xO _ _ _ _ _ _ (ps_for PassesOwn.never rfl (wM rfl T.b_range (@yw _ _ _ (@yx _ _ _ _ _ (pv 2) xE rfl))) (xC (i:=6) nd rfl (by first | exact Or.inl rfl | exact Or.inr rfl)) (@xI _ _ _ (@xO _ _ _ _ _ _ (xK (i:=7) nd rfl (by first | exact Or.inl rfl | exact Or.inr rfl) (xF Aa (hr.mono (by decide)) rfl T.Ab T.Ac T.Ae .nil pass0 (@yw _ _ _ (@yx _ _ _ _ _ (pv 0) (@yx _ _ _ _ _ (pv 1) xE rfl) rfl)))) (@xO _ _ _ _ _ _ (xK (i:=8) nd rfl (by first | exact Or.inl rfl | exact Or.inr rfl) (@xN _ _ _ _ _ _ _ _ op_mod (@xN _ _ _ _ _ _ _ _ xf (@xN _ _ _ _ _ _ _ _ xf (pv 7) yz) (xF Aa (hr.mono (by decide)) rfl T.Ab T.Ac T.Ae .nil pass0 (@yw _ _ _ (@yx _ _ _ _ _ (pv 0) (@yx _ _ _ _ _ (@xN _ _ _ _ _ _ _ _ wD (pv 1) yz) xE rfl) rfl)))) (pv 1))) (@xO _ _ _ _ _ _ (xK (i:=9) nd rfl (by first | exact Or.inl rfl | exact Or.inr rfl) (xF Gu (hr.mono (by decide)) rfl T.FT T.F1 T.Ga .nil pass0 (@yw _ _ _ (@yx _ _ _ _ _ (pv 0) xE rfl)))) (@xO _ _ _ _ _ _ (@xZ _ _ _ _ _ _ _ _ (@PW.pt _ _ _ (@pw_or _ _ _ _ _ _ _ (@xP _ _ _ _ _ _ _ _ (op_in_seq' rfl) (pv 7) (pv 5) rfl) (@wO _ _ _ _ (@xP _ _ _ _ _ _ _ _ (op_in_seq' rfl) (pv 8) (pv 5) rfl)))) (@xI _ _ _ (@xT _ _ _ (xK (i:=9) nd rfl (by first | exact Or.inl rfl | exact Or.inr rfl) (xH (call_max2 rfl) (by rfl) T.b_max PyProof.Rows.boot_max (@yw _ _ _ (@yx _ _ _ _ _ yz (@yx _ _ _ _ _ (pv 9) xE rfl) rfl)))))) xS) (@xO _ _ _ _ _ _ (@xZ _ _ _ _ _ _ _ _ (@xP _ _ _ _ _ _ _ _ op_gt (pv 9) yz (nomark _)) (@xI _ _ _ (@xT _ _ _ (xK (i:=5) nd rfl (by first | exact Or.inl rfl | exact Or.inr rfl) (@xV _ _ _ _ wP)))) xS) (@xO _ _ _ _ _ _ (xK (i:=4) nd rfl (by first | exact Or.inl rfl | exact Or.inr rfl) (@xN _ _ _ _ _ _ _ _ xf (pv 4) (pv 9))) (@xO _ _ _ _ _ _ (xK (i:=5) nd rfl (by first | exact Or.inl rfl | exact Or.inr rfl) (@xN _ _ _ _ _ _ _ _ op_cat (pv 5) (@xV _ _ _ _ (@yw _ _ _ (@yx _ _ _ _ _ (pv 7) (@yx _ _ _ _ _ (pv 8) xE rfl) rfl))))) (@xO _ _ _ _ _ _ (xK (i:=10) nd rfl (by first | exact Or.inl rfl | exact Or.inr rfl) (@xN _ _ _ _ _ _ _ _ xf yz (@xN _ _ _ _ _ _ _ _ op_fdivB (xF Aa (hr.mono (by decide)) rfl T.Ab T.Ac T.Ae .nil pass0 (@yw _ _ _ (@yx _ _ _ _ _ (pv 0) (@yx _ _ _ _ _ yz xE rfl) rfl))) yz))) (@xO _ _ _ _ _ _ (@xZ _ _ _ _ _ _ _ _ (@xP _ _ _ _ _ _ _ _ wU (xF Aa (hr.mono (by decide)) rfl T.Ab T.Ac T.Ae .nil pass0 (@yw _ _ _ (@yx _ _ _ _ _ (pv 0) (@yx _ _ _ _ _ yz xE rfl) rfl))) yz (nomark _)) (@xI _ _ _ (@xT _ _ _ (xK (i:=10) nd rfl (by first | exact Or.inl rfl | exact Or.inr rfl) (@xN _ _ _ _ _ _ _ _ xf yz (xF Aa (hr.mono (by decide)) rfl T.Ab T.Ac T.Ae .nil pass0 (@yw _ _ _ (@yx _ _ _ _ _ (pv 0) (@yx _ _ _ _ _ yz xE rfl) rfl))))))) xS) (@xT _ _ _ (ps_expr (pe_bm PySem.F.plainAttrs_list PySem.F.slot_list_append PySem.F.type_list_append mt_append (pv 3) (@yw _ _ _ (@yx _ _ _ _ _ (@xp _ _ _ _ _ (@yw _ _ _ (@yx _ _ _ _ _ (pv 4) (@yx _ _ _ _ _ (xH (call_min2 rfl) (by rfl) T.b_min yQ (@yw _ _ _ (@yx _ _ _ _ _ (pv 7) (@yx _ _ _ _ _ (pv 8) xE rfl) rfl))) (@yx _ _ _ _ _ (xH (call_max2 rfl) (by rfl) T.b_max PyProof.Rows.boot_max (@yw _ _ _ (@yx _ _ _ _ _ (pv 7) (@yx _ _ _ _ _ (pv 8) xE rfl) rfl))) (@yx _ _ _ _ _ (pv 10) xE rfl) rfl) rfl) rfl))) xE rfl)))))))))))))))) (@xO _ _ _ _ _ _ (xK (i:=11) nd rfl (by first | exact Or.inl rfl | exact Or.inr rfl) yz) (@xO _ _ _ _ _ _ (@xZ _ _ _ _ _ _ _ _ (@PW.pt _ _ _ (@pw_and _ _ _ _ _ _ _ (@xP _ _ _ _ _ _ _ _ wU (xF Aa (hr.mono (by decide)) rfl T.Ab T.Ac T.Ae .nil pass0 (@yw _ _ _ (@yx _ _ _ _ _ (pv 0) (@yx _ _ _ _ _ yz xE rfl) rfl))) yz (nomark _)) (@pw_and1 _ _ _ _ (@xP _ _ _ _ _ _ _ _ (op_neNil hu) (pv 3) (@xV _ _ _ _ wP) (nomark _))))) (@xI _ _ _ (@xT _ _ _ (xK (i:=11) nd rfl (by first | exact Or.inl rfl | exact Or.inr rfl) (@xN _ _ _ _ _ _ _ _ wD (@xN _ _ _ _ _ _ _ _ op_pow yz yz) (pv 4))))) xS) (@xT _ _ _ (@xR _ _ _ _ (xu (call_tuple_of) (by rfl) T.b_tuple yU (@yw _ _ _ (@yx _ _ _ _ _ (xt (own:=["_law_then", "_law_low", "_law_high", "_law_room"]) (caps:=[11]) rfl (show CompScope ["_law_then", "_law_low", "_law_high", "_law_room"] [11] ["_law_purse_here", "_law_walkers", "_law_most", "_law_found", "_law_when", "_law_busy", "_law_k", "_law_one", "_law_other", "_law_gap", "_law_passed", "_law_late"] (defScope wT) _ from ⟨rfl,by decide +kernel,by decide +kernel,by decide +kernel,by decide +kernel⟩) (@xm _ _ _ _ _ rfl (xH (call_sortT) (by rfl) T.b_sorted PyProof.Rows.boot_sorted (@yw _ _ _ (@yx _ _ _ _ _ (pv 3) xE rfl)))) (λ_ _ _ _=>(xX (n:=4) rfl rfl (xD (xC (i:=0) (show List.Nodup (["_law_then", "_law_low", "_law_high", "_law_room", "_law_late"]:List Str) from by decide +kernel) rfl (by first | exact Or.inl rfl | exact Or.inr rfl)) (xD (xC (i:=1) (show List.Nodup (["_law_then", "_law_low", "_law_high", "_law_room", "_law_late"]:List Str) from by decide +kernel) rfl (by first | exact Or.inl rfl | exact Or.inr rfl)) (xD (xC (i:=2) (show List.Nodup (["_law_then", "_law_low", "_law_high", "_law_room", "_law_late"]:List Str) from by decide +kernel) rfl (by first | exact Or.inl rfl | exact Or.inr rfl)) (xD (xC (i:=3) (show List.Nodup (["_law_then", "_law_low", "_law_high", "_law_room", "_law_late"]:List Str) from by decide +kernel) rfl (by first | exact Or.inl rfl | exact Or.inr rfl)) xW)))))) (λ_ _ _ _=>xk) (λ_ _ _ _=>(@xp _ _ _ _ _ (@yw _ _ _ (@yx _ _ _ _ _ (pv 1) (@yx _ _ _ _ _ (pv 2) (@yx _ _ _ _ _ (@xN _ _ _ _ _ _ _ _ xf (pv 0) (pv 4)) (@yx _ _ _ _ _ (pv 3) xE rfl) rfl) rfl) rfl))))) xE rfl)))))))))))),?_⟩
  have line:1001<=sizeLine:=by rw [sizeLine_eq];decide
  have c7:CPow 10 7:=⟨by decide,by decide,by decide⟩
  have e7:(10:Int) ^ Int.toNat 7=10000000:=by decide
  have e64:(2:Int) ^ 64 > 1000:=by decide
  have e200:(2:Int) ^ 200 > 1000:=by decide
  refine ⟨zg _,λlf hlf=>?_⟩
  have npf:=hp.ne hlf
  have hp1:Purse (upd H lf (.lst [])) p:=hp.new hlf
  refine (zr rfl ⟨p,zr rfl ⟨by decide,by decide,hp1,λd H1 d0 d1 g1=>(zr2 rfl rfl ⟨⟨by decide,by decide⟩,zr rfl (zr2 rfl rfl ⟨c7,?_⟩)⟩)⟩⟩)
  refine ⟨p,zr rfl ⟨by decide,by decide,g1.2,λd2 H2 d20 d21 g2=>(zr2 rfl rfl ⟨.inl ⟨by omega,by omega⟩,zr2 rfl rfl ?_⟩)⟩⟩
  rw [e7] at d21
  refine ⟨zg _,λlb hlb=>?_⟩
  have fr2:=g1.trans g2
  have hlf2:H2 lf=some (.lst []):=fr2.1 lf _ npf yy
  have go0:Go p H H2:=((Go.refl hp).new hlf).trans fr2
  refine (zr rfl (zr rfl ⟨by omega,by omega,?_⟩))
  have wh0:1<=1 + d / 2 * d2/\1 + d / 2 * d2<=10000000:=by
   obtain h | h:d / 2=0\/d / 2=1:=by omega
   ·rw [h];omega
   ·rw [h];omega
  refine for_range (lo:=0) (n:=n) (PvM p lf w n H)
   ⟨_,_,_,_,_,_,lb,[],[],rfl,by rw [xG (xA hlf2 hlb)];exact hlf2,yy,(xA hlf2 hlb).symm,go0.2.ne hlb,(λ_ z=>nomatch z),⟨(λ_ z=>nomatch z),.nil,(λ_ z=>nomatch z)⟩,rfl,by simp,wh0.1,(by have:=wh0.2;simpa using this),go0.new hlb⟩ ?_ ?_
  ·rintro i σ H3 hi ⟨v6,v7,v8,v9,v10,wh,lb,bs,fs,rfl,h3f,h3b,nbf,nbp,h3r,F,lenf,lenb,wh1,wh2,go⟩
   have w2:2<=w:=by omega
   refine (zr rfl (zr rfl ⟨p,w,rfl,by omega,by omega,go.2,λone H4 o0 o1 g4=>?_⟩))
   refine (zr rfl (zr2 rfl rfl (zr rfl (zr rfl (zr2 rfl rfl ⟨p,zr rfl ⟨by omega,by omega,g4.2,λx H5 x0 x1 g5=>(zr2 rfl rfl (zr rfl (zr2 rfl rfl ⟨by omega,?_⟩)))⟩⟩)))))
   have ot:=oth_ok o0 o1 x0 x1
   refine (zr rfl ⟨p,rfl,g5.2,λgap H6 gap0 gap1 g6=>?_⟩)
   have g46:=g4.trans (g5.trans g6)
   have hb6:=g46.1 lb _ nbp h3b
   have hf6:=g46.1 lf _ npf h3f
   refine (zr rfl (zr rfl ⟨lb,zr rfl ⟨.inl (SqL.of hb6),rfl,flat_ints bs,zr rfl (iteO (fun σ H7=>∃ gp:Int,σ=[some (.ref p),some (.int w),some (.int n),some (.ref lf),some (.int wh),some (.ref lb),some (.int (0 + (i:Int))),some (.int one),some (.int ((one + 1 + x) % w)),some (.int gp),v10,none]/\H6=H7/\0<=gp/\gp<=16000000/\(gp=0->one ∉ bs/\(one + 1 + x) % w ∉ bs)) ?_ (λc1 k0=>?_) (λc1 k0=>(zr rfl (zr rfl ⟨lb,zr rfl ⟨.inl (SqL.of hb6),rfl,flat_ints bs,zr rfl (iteB (λc2=>?_) (λc2=>?_))⟩⟩))))⟩⟩))
   rotate_left
   ·exact (zr rfl (zr1 rfl (k0 _ _ (zr rfl ⟨rfl,by split <;> omega,by split <;> omega,λz=>by split at z <;> omega⟩))))
   ·exact (zr rfl (zr1 rfl (k0 _ _ (zr rfl ⟨rfl,by split <;> omega,by split <;> omega,λz=>by split at z <;> omega⟩))))
   ·have c1':one ∉ bs:=of_decide_eq_false (inV_ints.symm.trans c1)
    have c2':(one + 1 + x) % w ∉ bs:=of_decide_eq_false (inV_ints.symm.trans c2)
    exact k0 _ _ ⟨gap,rfl,rfl,by omega,by omega,λ_=>⟨c1',c2'⟩⟩
   rintro σ H7 ⟨gp,rfl,rfl,gp0,gp1,hg⟩
   refine (zr rfl (zr2 rfl rfl (zr rfl (iteN (fun σ H7=>∃ ly bz,σ=[some (.ref p),some (.int w),some (.int n),some (.ref lf),some (.int wh),some (.ref ly),some (.int (0 + (i:Int))),some (.int one),some (.int ((one + 1 + x) % w)),some (.int gp),v10,none]/\Go p H3 H7/\H7 ly=some (.lst (List.map V.int bz))/\ly≠p/\bz.length<=2 * i/\∀ z∈bs,gp=0->z∈bz) ?_ (λc3 k0=>⟨zg _,λln hln=>k0 _ _ ⟨ln,[],rfl,g46.new hln,yy,g46.2.ne hln,zg _,λ_ _ z=>by have:=of_decide_eq_true c3;omega⟩⟩) (λc3=>⟨lb,bs,rfl,g46,hb6,nbp,lenb,λ_ z _=>z⟩)))))
   rintro σ H7 ⟨ly,bz,rfl,gy,hyb,nyp,leny,hb0⟩
   have h3f':=gy.1 lf _ npf h3f
   refine (zr rfl (zr rfl (zr2 rfl rfl ?_)))
   refine (zr rfl (zr rfl (zr rfl ⟨by show 2<=sizeLine;omega,λl2 hl2=>?_⟩)))
   have g2':=gy.new (o:=HO.lst [V.int one,V.int ((one + 1 + x) % w)]) hl2
   have hyb2:=xB (o:=HO.lst [V.int one,V.int ((one + 1 + x) % w)]) hl2 _ _ hyb
   have h22:(upd H7 l2 (HO.lst [V.int one,V.int ((one + 1 + x) % w)])) l2=some (.lst [V.int one,V.int ((one + 1 + x) % w)]):=yy
   generalize upd H7 l2 (HO.lst [V.int one,V.int ((one + 1 + x) % w)])=H8 at g2' hyb2 h22 ⊢
   refine ⟨ly,l2,zr2 rfl rfl ⟨hyb2,h22,(by simp only [zA,zn,yN];omega),λl3 hl3=>?_⟩⟩
   have n3p:l3≠p:=g2'.2.ne hl3
   have n3f:l3≠lf:=(xA (g2'.1 lf _ npf h3f) hl3).symm
   have g3':=g2'.new (o:=HO.lst (List.map V.int bz++[V.int one,V.int ((one + 1 + x) % w)])) hl3
   have h3b':(upd H8 l3 (HO.lst (List.map V.int bz++[V.int one,V.int ((one + 1 + x) % w)]))) l3=some (.lst (List.map V.int (bz++[one,(one + 1 + x) % w]))):=by rw [yy,zB];rfl
   generalize upd H8 l3 (HO.lst (List.map V.int bz++[V.int one,V.int ((one + 1 + x) % w)]))=H9 at g3' h3b' ⊢
   refine (zr rfl ⟨p,zr rfl ⟨by decide,by decide,g3'.2,λd4 H10 d40 d41 g10=>(zr2 rfl rfl ⟨⟨by decide,by decide⟩,zr2 rfl rfl ?_⟩)⟩⟩)
   refine (zr rfl ⟨p,zr rfl ⟨by decide,by decide,g10.2,λd5 H11 d50 d51 g11=>⟨rfl,zr rfl (iteN (fun σ H12=>∃ mm:Int,σ=[some (.ref p),some (.int w),some (.int n),some (.ref lf),some (.int (wh + gp)),some (.ref l3),some (.int (0 + (i:Int))),some (.int one),some (.int ((one + 1 + x) % w)),some (.int gp),some (.int mm),none]/\1<=mm/\mm<=99/\Go p H9 H12) ?_ (λc5 k0=>(zr rfl ⟨p,zr rfl ⟨by decide,by decide,g11.2,λd6 H12 d60 d61 g12=>(zr2 rfl rfl (k0 _ _ (zr rfl ⟨by omega,by omega,(g10.trans g11).trans g12⟩)))⟩⟩)) (λc5=>(zr rfl ⟨by omega,by omega,g10.trans g11⟩)))⟩⟩⟩)
   rintro σ H12 ⟨mm,rfl,mm0,mm1,g12⟩
   have gall:=g3'.trans g12
   have hz:=gall.1 lf _ npf h3f
   refine (zr rfl ⟨.inl ⟨rfl,_,SqL.of hz⟩,zr rfl (zr rfl (zr rfl (zr1 rfl (zr rfl (zr rfl (zr1 rfl (zr rfl ⟨by show 4<=sizeLine;omega,λt ht=>⟨lf,zr2 rfl rfl ⟨(by rw [xG (xA hz ht)];exact hz),(by rw [zA];omega),?_⟩⟩⟩)))))))⟩)
   exact PvM.step npf hlf F lenf (bs':=bz++[one,(one + 1 + x) % w]) (by simp only [zT,zn,yN];omega) wh1 wh2 hz (g12.1 l3 _ n3p h3b') n3f n3p (λa ha=>gall.tups go.2 _ _ (h3r a ha)) (go.trans gall) ht gp0 gp1 o0 o1 ot.1 ot.2.1 ot.2.2 mm0 mm1 hg (λz hz1 hz2=>yI _ (hb0 z hz1 hz2)) (by simp) (by simp)
  ·rintro σ H3 ⟨v6,v7,v8,v9,v10,wh,lb,bs,fs,rfl,h3f,h3b,nbf,nbp,h3r,F,lenf,lenb,wh1,wh2,go⟩
   have c9:CPow 10 9:=⟨by decide,by decide,by decide⟩
   have e9:(10:Int) ^ Int.toNat 9=1000000000:=by decide
   refine (zr rfl ⟨p,zr rfl ⟨by decide,by decide,go.2,λd8 H4 _ _ g4=>⟨rfl,zr rfl (iteA (fun σ H5=>∃ late:Int,(∃ v6 v7 v8 v9 v10,σ=[some (.ref p),some (.int w),some (.int n),some (.ref lf),some (.int wh),some (.ref lb),v6,v7,v8,v9,v10,some (.int late)])/\Go p H3 H5/\0<=late/\(fs≠[]->wh + late<=1000000000)) ?_ (λc k0=>?_) (λc=>⟨0,⟨_,_,_,_,_,rfl⟩,g4,zw _,λ_=>by omega⟩))⟩⟩⟩)
   rotate_left
   ·have h4f:=g4.1 lf _ npf h3f
    refine (zr rfl ⟨zg _,λl4 hl4=>⟨lf,l4,zr rfl ⟨rfl,SqL.of (by rw [xG (xA h4f hl4)];exact h4f),SqL.of yy,zr rfl (iteB (λc2=>?_) (λc2=>?_))⟩⟩⟩)
    ·exact (zr2 rfl rfl ⟨c9,zr rfl (zr2 rfl rfl (k0 _ _ ⟨_,⟨_,_,_,_,_,rfl⟩,g4.new hl4,by rw [e9];omega,λ_=>by rw [e9];omega⟩))⟩)
    ·exact k0 _ _ ⟨0,⟨_,_,_,_,_,rfl⟩,g4.new hl4,zw _,λ_=>by omega⟩
   rintro σ Hz ⟨late,⟨v6',v7',v8',v9',v10',rfl⟩,gz,L0,L1⟩
   have hz:=gz.1 lf _ npf h3f
   refine (zr rfl ⟨lf,fs.map (λa=>(a.1,a.2.row)),rfl,?_,(by rw [zA];omega),(λa ha=>?_),λD qs hD pq sq=>?_⟩)
   ·rw [zd];exact SqL.of hz
   ·obtain ⟨b,hb,rfl⟩:=zS.mp ha
    exact ⟨gz.tups go.2 _ _ (h3r b hb),by intro z;cases z⟩
   obtain ⟨rs,prs,srs,rfl⟩:=rows_back pq sq
   refine ⟨D,rfl,⟨_,SqL.of yy⟩,?_⟩
   have lrs:rs.length=n:=by rw [prs.length_eq,lenf]
   have hDl:(upd Hz D (HO.lst (List.map (λa=>V.ref a.1) (List.map (λa:Addr×M4=>(a.1,a.2.row)) rs)))) D=some (.lst (rs.map λa=>V.ref a.1)):=by rw [yy,zd];rfl
   have rD:=λa (ha:a∈rs)=>(Tups.new (o:=HO.lst (List.map (λa=>V.ref a.1) (List.map (λa:Addr×M4=>(a.1,a.2.row)) rs))) hD) _ _ (gz.tups go.2 _ _ (h3r a (prs.mem_iff.mp ha)))
   have gD:=(go.trans gz).new (o:=HO.lst (List.map (λa=>V.ref a.1) (List.map (λa:Addr×M4=>(a.1,a.2.row)) rs))) hD
   refine xj (K:=K) (a:=D) (xs:=rs.map λa=>V.ref a.1) (λi τ acc H5=>∃ ps:List (Addr×M4),(∃ t0 t1 t2 t3,τ=[t0,t1,t2,t3,some (.int late)])/\acc=(ps.map λa=>V.ref a.1)/\(ps.map (·.2))=((rs.take i).map λa=>a.2.late late)/\RowsAt H5 ps/\Same (upd Hz D (HO.lst (List.map (λa=>V.ref a.1) (List.map (λa:Addr×M4=>(a.1,a.2.row)) rs)))) H5)
    ?_ (by rw [zA];omega) ?_ ?_ ?_
   ·exact ⟨[],⟨_,_,_,_,rfl⟩,rfl,rfl,(λ_ z=>nomatch z),Same.refl _⟩
   ·rintro i τ acc H6 ⟨ps,⟨t0,t1,t2,t3,rfl⟩,rfl,eps,rws,sm⟩
    have:=congrArg List.length eps
    rw [zA,zA,zR] at this
    exact ⟨by rw [zA];omega,sm.seq (SqL.of hDl)⟩
   ·rintro i x τ acc H5 C hx ⟨ps,⟨t0,t1,t2,t3,rfl⟩,rfl,eps,rws,sm⟩ hC
    obtain ⟨r,hr,rfl⟩:=xU hx
    have hrow:=sm _ _ (rD r (zD hr))
    refine (un4 hrow (zr rfl (zr rfl (zr rfl (zr rfl (zr2 rfl rfl (zr rfl ⟨by show 4<=sizeLine;omega,λt ht=>hC _ _ _ ?_⟩)))))))
    refine ⟨ps++[(t,r.2.late late)],⟨_,_,_,_,rfl⟩,by rw [zB];rfl,by rw [zB,xY hr,zB,eps];rfl,λa ha=>?_,sm.trans (xB ht)⟩
    rcases zV.mp ha with h | h
    ·exact xB ht _ _ (rws a h)
    ·cases zE.mp h
     exact yy
   ·rintro τ acc H6 ⟨ps,⟨t0,t1,t2,t3,rfl⟩,rfl,eps,rws,sm⟩ lt hlt
    refine ⟨lt,zr rfl (.inl ⟨SqL.of yy,λt ht=>q t ps _ (((gD.same sm).new hlt).new ht) yy ((rws.tups (Tups.new hlt)).tups (Tups.new ht)) ?_ ?_⟩)⟩
    ·rw [eps,zA,zY]
     exact F.good (by omega) L0 L1 prs srs
    ·have:=congrArg List.length eps
     rw [zA,zA,zA,zY] at this
     omega
theorem DX:FnScope ["_law_purse_here", "_law_most_walkers", "_law_most_meetings", "_law_walkers", "_law_most"] ["_law_purse_here", "_law_most_walkers", "_law_most_meetings"] (defScope C9):=⟨rfl,rfl,rfl,by decide +kernel,rfl,by decide +kernel,by decide +kernel⟩
theorem FE (T:Tx K mg a):FnOk P w K mg base CX0 4 a.A9 a.BS ["_law_purse_here", "_law_most_walkers", "_law_most_meetings"] (spBook):=by
 have Aa:=@xi P w _ _ base _ T
 have FO:=@Fg P w _ _ base _ T
 have EY:=@Em P w _ _ base _ T
 refine T.Bv.ok DX (λvs H Q E h=>?_) (λcdv A outer s H vs Q E hr h=>?_)
 ·obtain ⟨p,a,n,rfl,_⟩:=h;rfl
 ·have nd:=DX.nd
  have hu:=hr.units
  obtain ⟨p,aw,n,rfl,a1,a2,hn,hp,q⟩:=h
  refine ⟨_,(@xI _ _ _ (@xO _ _ _ _ _ _ (xK (i:=3) nd rfl (by first | exact Or.inl rfl | exact Or.inr rfl) (@xN _ _ _ _ _ _ _ _ xf yz (xF Aa (hr.mono (by decide)) rfl T.Ab T.Ac T.Ae .nil pass0 (@yw _ _ _ (@yx _ _ _ _ _ (pv 0) (@yx _ _ _ _ _ (pv 1) xE rfl) rfl))))) (@xO _ _ _ _ _ _ (xK (i:=4) nd rfl (by first | exact Or.inl rfl | exact Or.inr rfl) (xH (call_min2 rfl) (by rfl) T.b_min yQ (@yw _ _ _ (@yx _ _ _ _ _ (pv 2) (@yx _ _ _ _ _ (xF Aa (hr.mono (by decide)) rfl T.Ab T.Ac T.Ae .nil pass0 (@yw _ _ _ (@yx _ _ _ _ _ (pv 0) (@yx _ _ _ _ _ (@xN _ _ _ _ _ _ _ _ xf (pv 2) yz) xE rfl) rfl))) xE rfl) rfl)))) (@xO _ _ _ _ _ _ (@xZ _ _ _ _ _ _ _ _ (@xP _ _ _ _ _ _ _ _ wU (pv 3) yz (nomark _)) (@xI _ _ _ (@xT _ _ _ (xK (i:=4) nd rfl (by first | exact Or.inl rfl | exact Or.inr rfl) yz))) xS) (@xT _ _ _ (@xR _ _ _ _ (@xp _ _ _ _ _ (@yw _ _ _ (@yx _ _ _ _ _ (xF FO (hr.mono (by decide)) rfl T.FF T.FG T.FH .nil pass0 (@yw _ _ _ (@yx _ _ _ _ _ (pv 0) (@yx _ _ _ _ _ (pv 3) xE rfl) rfl))) (@yx _ _ _ _ _ (xF EY (hr.mono (by decide)) rfl T.EK T.EN T.ER .nil pass0 (@yw _ _ _ (@yx _ _ _ _ _ (pv 0) (@yx _ _ _ _ _ (pv 3) (@yx _ _ _ _ _ (pv 4) xE rfl) rfl) rfl))) xE rfl) rfl))))))))),?_⟩
  have line:1001<=sizeLine:=by rw [sizeLine_eq];decide
  have e200:(2:Int) ^ 200 > 1000:=by decide
  refine (zr rfl (zr rfl ⟨p,aw,rfl,by omega,by omega,hp,λd H1 d0 d1 g1=>(zr2 rfl rfl ?_)⟩))
  obtain ⟨k,rfl⟩:=ze d0
  refine (zr rfl (zr rfl (zr rfl (zr2 rfl rfl ⟨p,zr rfl ⟨by omega,by omega,g1.2,λe H2 e0 e1 g2=>(zr1 rfl ?_)⟩⟩))))
  obtain ⟨m,em,hm⟩:∃ m:Nat,(if e < (n:Int) then e else (n:Int))=m/\m<=n:=by
   refine ⟨(if e < (n:Int) then e else (n:Int)).toNat,?_,?_⟩ <;> split <;> omega
  refine ⟨_,rfl,rfl,_,rfl,iteN (fun σ H3=>∃ m:Nat,σ=[some (.ref p),some (.int aw),some (.int n),some (.int (1 + (k:Int))),some (.int m)]/\m<=n/\(m=0\/1<=k)/\Go p H H3) ?_ (λc k0=>k0 _ _ ⟨0,rfl,zg _,.inl rfl,g1.trans g2⟩) (λc=>⟨m,by rw [<-em];rfl,hm,.inr (by
    by_cases hk:k=0
    ·subst hk;exact absurd c (by simp)
    ·omega),g1.trans g2⟩)⟩
  rintro σ H2 ⟨m,rfl,hm,hk,g2⟩
  refine (zr rfl (zr rfl ⟨p,1 + k,by simp,by omega,g2.2,λtr rooms H3 g3 h3 l3 r3=>(zr rfl (zr rfl (zr rfl ⟨p,_,m,rfl,by omega,by omega,by omega,g3.2,λtm ps H4 g4 h4 r4 gd l4=>⟨by show 2<=sizeLine;omega,λb hb=>?_⟩⟩)))⟩))
  have h3':=g4.tups g3.2 _ _ h3
  have tn:=Tups.new (o:=HO.tup [V.ref tr,V.ref tm]) hb
  refine q b rooms tr tm ps _ ((g2.trans (g3.trans g4)).new hb) ⟨yy,tn _ _ h3',tn _ _ h4,r4.tups tn⟩ (by omega) (by omega) r3 ?_ (by omega)
  rw [l3]
  simpa using gd
theorem DQ:FnScope ["_law_purse_here", "_law_book_here", "_law_later", "_law_way", "_law_at"] ["_law_purse_here", "_law_book_here", "_law_later"] (defScope C5):=⟨rfl,rfl,rfl,by decide +kernel,rfl,by decide +kernel,by decide +kernel⟩
theorem Fy (T:Tx K mg a):FnOk P w K mg base CX0 3 a.AU a.BL ["_law_purse_here", "_law_book_here", "_law_later"] (spTimeOf):=by
 have Aa:=@xi P w _ _ base _ T
 have GK:=@FQ P w _ _ base _ T
 refine T.Bo.ok DQ (λvs H Q E h=>?_) (λcdv A outer s H vs Q E hr h=>?_)
 ·obtain ⟨p,b,j,_,_,_,_,rfl,_⟩:=h;rfl
 ·have nd:=DQ.nd
  have hu:=hr.units
  obtain ⟨p,b,j,rooms,tr,tm,ps,rfl,hj,hb,gd,hp,q⟩:=h
  refine ⟨_,(@xI _ _ _ (@xO _ _ _ _ _ _ (xK (i:=3) nd rfl (by first | exact Or.inl rfl | exact Or.inr rfl) (xF Aa (hr.mono (by decide)) rfl T.Ab T.Ac T.Ae .nil pass0 (@yw _ _ _ (@yx _ _ _ _ _ (pv 0) (@yx _ _ _ _ _ yz xE rfl) rfl)))) (@xO _ _ _ _ _ _ (@xZ _ _ _ _ _ _ _ _ (@xP _ _ _ _ _ _ _ _ wU (pv 3) yz (nomark _)) (@xI _ _ _ (@xT _ _ _ (@xR _ _ _ _ (@xM _ _ _ _ _ _ _ (xL rfl) (@xV _ _ _ _ (@yw _ _ _ (@yx _ _ _ _ _ yz (@yx _ _ _ _ _ (@xN _ _ _ _ _ _ _ _ op_pow yz yz) xE rfl) rfl))) (pv 2) (λ_ _=>rfl))))) xS) (@xO _ _ _ _ _ _ (@xZ _ _ _ _ _ _ _ _ (@xP _ _ _ _ _ _ _ _ wU (pv 3) yz (nomark _)) (@xI _ _ _ (@xT _ _ _ (@xR _ _ _ _ (xF GK (hr.mono (by decide)) rfl T.GA T.GC T.GE .nil pass0 (@yw _ _ _ (@yx _ _ _ _ _ (pv 0) xE rfl)))))) xS) (@xO _ _ _ _ _ _ (@xZ _ _ _ _ _ _ _ _ (@xP _ _ _ _ _ _ _ _ (op_eqUnit hu) (@xM _ _ _ _ _ _ _ (xQ rfl) (pv 1) yz (λ_ _=>rfl)) (@xp _ _ _ _ _ wP) (nomark _)) (@xI _ _ _ (@xT _ _ _ (@xR _ _ _ _ (xF Aa (hr.mono (by decide)) rfl T.Ab T.Ac T.Ae .nil pass0 (@yw _ _ _ (@yx _ _ _ _ _ (pv 0) (@yx _ _ _ _ _ yz xE rfl) rfl)))))) xS) (@xO _ _ _ _ _ _ (xK (i:=4) nd rfl (by first | exact Or.inl rfl | exact Or.inr rfl) (xF Aa (hr.mono (by decide)) rfl T.Ab T.Ac T.Ae .nil pass0 (@yw _ _ _ (@yx _ _ _ _ _ (pv 0) (@yx _ _ _ _ _ (xH (xJ rfl) (by rfl) T.b_len PySem.boot_len (@yw _ _ _ (@yx _ _ _ _ _ (@xM _ _ _ _ _ _ _ (xQ rfl) (pv 1) yz (λ_ _=>rfl)) xE rfl))) xE rfl) rfl)))) (@xO _ _ _ _ _ _ (@xZ _ _ _ _ _ _ _ _ (@xP _ _ _ _ _ _ _ _ op_gt (pv 3) yz (nomark _)) (@xI _ _ _ (@xT _ _ _ (xK (i:=4) nd rfl (by first | exact Or.inl rfl | exact Or.inr rfl) (@xM _ _ _ _ _ _ _ (xL rfl) (@xV _ _ _ _ (@yw _ _ _ (@yx _ _ _ _ _ (@xN _ _ _ _ _ _ _ _ op_fdivB (pv 4) yz) (@yx _ _ _ _ _ (@xN _ _ _ _ _ _ _ _ op_fdivB (@xN _ _ _ _ _ _ _ _ xf (pv 4) (xH (xJ rfl) (by rfl) T.b_len PySem.boot_len (@yw _ _ _ (@yx _ _ _ _ _ (@xM _ _ _ _ _ _ _ (xQ rfl) (pv 1) yz (λ_ _=>rfl)) xE rfl)))) yz) xE rfl) rfl))) (pv 2) (λ_ _=>rfl))))) xS) (@xT _ _ _ (@xR _ _ _ _ (@xN _ _ _ _ _ _ _ _ wD (@xM _ _ _ _ _ _ _ (xQ rfl) (@xM _ _ _ _ _ _ _ (xQ rfl) (@xM _ _ _ _ _ _ _ (xQ rfl) (pv 1) yz (λ_ _=>rfl)) (pv 4) (λ_ _=>rfl)) yz (λ_ _=>rfl)) (@xM _ _ _ _ _ _ _ (xL rfl) (@xV _ _ _ _ (@yw _ _ _ (@yx _ _ _ _ _ yz (@yx _ _ _ _ _ yz xE rfl) rfl))) (@xN _ _ _ _ _ _ _ _ op_xor (@xN _ _ _ _ _ _ _ _ op_fdivB (xF Aa (hr.mono (by decide)) rfl T.Ab T.Ac T.Ae .nil pass0 (@yw _ _ _ (@yx _ _ _ _ _ (pv 0) (@yx _ _ _ _ _ yz xE rfl) rfl))) yz) (pv 2)) (λ_ _=>rfl)))))))))))),?_⟩
  have line:=line9
  have e200:(2:Int) ^ 200 > 10000:=by decide
  have c9:CPow 10 9:=⟨by decide,by decide,by decide⟩
  have e9:(10:Int) ^ Int.toNat 9=1000000000:=by decide
  have l60:=gd.len
  refine (zr rfl ⟨p,zr rfl ⟨by decide,by decide,hp,λway H1 w0 w1 g1=>?_⟩⟩)
  refine (zr rfl ⟨rfl,zr rfl (iteD (λc=>?_) (λc=>(zr rfl ⟨rfl,zr rfl (iteD (λc=>?_) (λc=>?_))⟩)))⟩)
  ·refine (zr2 rfl rfl ⟨c9,by show 2<=sizeLine;omega,λl hl=>(zr rfl ?_)⟩)
   rcases hj with rfl | rfl
   ·exact (ixl yy rfl (q _ _ (by omega) (by omega) (g1.new hl)))
   ·exact (ixl yy rfl (q _ _ (by rw [e9];decide) (by rw [e9];decide) (g1.new hl)))
  ·exact (zr rfl ⟨p,rfl,g1.2,λd H2 d0 d1 g2=>q _ _ d0 d1 (g1.trans g2)⟩)
  have hb1:=hb.tups (g1.tups hp)
  refine (zr rfl (ixt hb1.book rfl ⟨zg _,λu hu2=>?_⟩))
  have hb2:=hb1.tups (Tups.new (o:=HO.tup []) hu2)
  have g2:=g1.new (o:=HO.tup []) hu2
  refine ⟨tm,u,zr rfl ⟨rfl,SqT.of hb2.meets,SqT.of yy,zr rfl (iteB (λc2=>?_) (λc2=>?_))⟩⟩
  ·exact (zr rfl ⟨p,zr rfl ⟨by decide,by decide,g2.2,λd H3 d0 d1 g3=>q _ _ d0 (by omega) (g2.trans g3)⟩⟩)
  have lps:1<=ps.length:=by
   cases ps with
   | nil=>cases c2
   | cons _ _=>simp
  refine (zr rfl (zr rfl (ixt hb2.book rfl ⟨tm,zr rfl ⟨.inr (SqT.of hb2.meets),p,zr rfl ⟨by rw [zA];omega,by rw [zA];omega,g2.2,λd H3 d0 d1 g3=>?_⟩⟩⟩)))
  rw [zA] at d1
  have hb3:=hb2.tups (g3.tups g2.2)
  have gg3:=g2.trans g3
  refine (zr rfl (zr2 rfl rfl (zr rfl (iteD (λc3=>?_) (λc3=>?_)))))
  ·refine (zr rfl (zr2 rfl rfl ⟨⟨by decide,by decide⟩,zr rfl (zr rfl (ixt hb3.book rfl ⟨tm,zr rfl ⟨.inr (SqT.of hb3.meets),zr2 rfl rfl (zr2 rfl rfl ⟨⟨by decide,by decide⟩,by show 2<=sizeLine;omega,λl hl=>(zr rfl ?_)⟩)⟩⟩))⟩))
   have gx:=gg3.new (o:=HO.lst [V.int (d / 2),V.int ((d + ((ps.map λa=>V.ref a.1).length:Int)) / 2)]) hl
   have hx:=hb3.tups (Tups.new (o:=HO.lst [V.int (d / 2),V.int ((d + ((ps.map λa=>V.ref a.1).length:Int)) / 2)]) hl)
   obtain ⟨k,ek,hk⟩:∃ k:Nat,atI [V.int (d / 2),V.int ((d + ((ps.map λa=>V.ref a.1).length:Int)) / 2)] j=some (V.int (k:Int))/\k < ps.length:=by
    rcases hj with rfl | rfl
    ·obtain ⟨k,hk⟩:=ze (show 0<=d / 2 by omega)
     exact ⟨k,by rw [<-hk];rfl,by omega⟩
    ·obtain ⟨k,hk⟩:=ze (show 0<=(d + ((ps.map λa=>V.ref a.1).length:Int)) / 2 by omega)
     refine ⟨k,by rw [<-hk];rfl,?_⟩
     rw [zA] at hk
     omega
   refine (ixl yy ek ?_)
   refine (zr rfl (ixt hx.book rfl (zr rfl (ixt hx.meets (xh (v:=V.ref ps[k].1) (by simp [hk])) (ixt (hx.rows _ (zj hk)) rfl ⟨by show 2<=sizeLine;omega,λl9 hl9=>?_⟩)))))
   have g9:=gx.new (o:=HO.lst [V.int 1,V.int 0]) hl9
   refine (zr rfl ⟨p,zr rfl ⟨by decide,by decide,g9.2,λe H9 e0 e1 g10=>(zr2 rfl rfl ⟨⟨by decide,by decide⟩,zr rfl (zr2 rfl rfl ?_)⟩)⟩⟩)
   have h9:=g10.1 l9 _ (gx.2.ne hl9) yy
   have tb:=gd.at (zj hk)
   have bx:(e / 3=0\/e / 3=1):=by omega
   rcases hj with rfl | rfl <;> rcases bx with bx | bx <;> rw [bx]
   ·exact (ixl h9 (by decide:atI [V.int 1,V.int 0] (Builtin.bitXor 0 0)=some (V.int 1)) (zr2 rfl rfl (q _ _ (by omega) (by omega) (g9.trans g10))))
   ·exact (ixl h9 (by decide:atI [V.int 1,V.int 0] (Builtin.bitXor 1 0)=some (V.int 0)) (zr2 rfl rfl (q _ _ (by omega) (by omega) (g9.trans g10))))
   ·exact (ixl h9 (by decide:atI [V.int 1,V.int 0] (Builtin.bitXor 0 1)=some (V.int 0)) (zr2 rfl rfl (q _ _ (by omega) (by omega) (g9.trans g10))))
   ·exact (ixl h9 (by decide:atI [V.int 1,V.int 0] (Builtin.bitXor 1 1)=some (V.int 1)) (zr2 rfl rfl (q _ _ (by omega) (by omega) (g9.trans g10))))
  ·have gx:=gg3
   have hx:=hb3
   obtain ⟨k,rfl⟩:=ze d0
   have hk:k < ps.length:=by omega
   refine (zr rfl (ixt hx.book rfl (zr rfl (ixt hx.meets (xh (v:=V.ref ps[k].1) (by simp [hk])) (ixt (hx.rows _ (zj hk)) rfl ⟨by show 2<=sizeLine;omega,λl9 hl9=>?_⟩)))))
   have g9:=gx.new (o:=HO.lst [V.int 1,V.int 0]) hl9
   refine (zr rfl ⟨p,zr rfl ⟨by decide,by decide,g9.2,λe H9 e0 e1 g10=>(zr2 rfl rfl ⟨⟨by decide,by decide⟩,zr rfl (zr2 rfl rfl ?_)⟩)⟩⟩)
   have h9:=g10.1 l9 _ (gx.2.ne hl9) yy
   have tb:=gd.at (zj hk)
   have bx:(e / 3=0\/e / 3=1):=by omega
   rcases hj with rfl | rfl <;> rcases bx with bx | bx <;> rw [bx]
   ·exact (ixl h9 (by decide:atI [V.int 1,V.int 0] (Builtin.bitXor 0 0)=some (V.int 1)) (zr2 rfl rfl (q _ _ (by omega) (by omega) (g9.trans g10))))
   ·exact (ixl h9 (by decide:atI [V.int 1,V.int 0] (Builtin.bitXor 1 0)=some (V.int 0)) (zr2 rfl rfl (q _ _ (by omega) (by omega) (g9.trans g10))))
   ·exact (ixl h9 (by decide:atI [V.int 1,V.int 0] (Builtin.bitXor 0 1)=some (V.int 0)) (zr2 rfl rfl (q _ _ (by omega) (by omega) (g9.trans g10))))
   ·exact (ixl h9 (by decide:atI [V.int 1,V.int 0] (Builtin.bitXor 1 1)=some (V.int 1)) (zr2 rfl rfl (q _ _ (by omega) (by omega) (g9.trans g10))))
theorem DA:FnScope ["_law_thing"] ["_law_thing"] (defScope CC):=⟨rfl,rfl,rfl,by decide +kernel,rfl,by decide +kernel,by decide +kernel⟩
theorem Fe (T:Tx K mg a):FnOk P w K mg base CX0 1 a.AK a.By ["_law_thing"] (spWhole):=by
 refine T.Bc.ok DA (λvs H Q E h=>?_) (λcdv A outer s H vs Q E hr h=>?_)
 ·obtain ⟨x,t,rfl,_⟩:=h;rfl
 ·have nd:=DA.nd
  have hu:=hr.units
  obtain ⟨x,t,rfl,ht,k⟩:=h
  refine ⟨_,(@xI _ _ _ (@xT _ _ _ (@xR _ _ _ _ (@pe_and _ _ _ _ _ _ _ (xH (xq) (by rfl) T.b_isinstance zh (@yw _ _ _ (@yx _ _ _ _ _ (pv 0) (@yx _ _ _ _ _ (pe_bltn (v:=V.ty "int") rfl T.b_int ya rfl) xE rfl) rfl))) (@pe_one _ _ _ _ _ (@pe_not _ _ _ _ (xH (xq) (by rfl) T.b_isinstance zh (@yw _ _ _ (@yx _ _ _ _ _ (pv 0) (@yx _ _ _ _ _ (pe_bltn (v:=V.ty "bool") rfl T.b_bool PyProof.Rows.boot_bool rfl) xE rfl) rfl))))))))),?_⟩
  refine (zr rfl ⟨x,t, "int", rfl,ht,.inl rfl,zr rfl ?_⟩)
  rcases tyS_six ht with rfl | rfl | rfl | rfl | rfl | rfl | rfl <;> first | exact iteB0 rfl k | exact iteB1 rfl ⟨_,rfl,x,_, "bool", rfl,ht,.inr (.inl rfl),_,rfl,k⟩
theorem Eo:FnScope ["thing"] ["thing"] (defScope DE):=⟨rfl,rfl,rfl,by decide +kernel,rfl,by decide +kernel,by decide +kernel⟩
theorem Et (T:Tx K mg a):FnOk P w K mg base CX0 1 a.Bi a.BV ["thing"] (spWhole):=by
 refine T.BF.ok Eo (λvs H Q E h=>?_) (λcdv A outer s H vs Q E hr h=>?_)
 ·obtain ⟨x,t,rfl,_⟩:=h;rfl
 ·have nd:=Eo.nd
  have hu:=hr.units
  obtain ⟨x,t,rfl,ht,k⟩:=h
  refine ⟨_,(@xI _ _ _ (@xT _ _ _ (@xR _ _ _ _ (@pe_and _ _ _ _ _ _ _ (xH (xq) (by rfl) T.b_isinstance zh (@yw _ _ _ (@yx _ _ _ _ _ (pv 0) (@yx _ _ _ _ _ (pe_bltn (v:=V.ty "int") rfl T.b_int ya rfl) xE rfl) rfl))) (@pe_one _ _ _ _ _ (@pe_not _ _ _ _ (xH (xq) (by rfl) T.b_isinstance zh (@yw _ _ _ (@yx _ _ _ _ _ (pv 0) (@yx _ _ _ _ _ (pe_bltn (v:=V.ty "bool") rfl T.b_bool PyProof.Rows.boot_bool rfl) xE rfl) rfl))))))))),?_⟩
  simp only [gTup,gCons,gNil,tYes,tBM,rAppend,gSub,tAugS,ipI,rU,rIxL,rIxT,rSetL,tSeq,tAsg,tIfS,tRet,tOp,tUn,rI0,rI,tVar,tC,gName,tCall,tCB,tCons,tNil,tAndV,tOrV,tNotV,tNext,tTest,tB,tNot,tAnd,tOr,tDrop,rEq,rNe,scal,tChain,tTup,tLst,tSl,tNoPart,tPart,cxOf,L2.start,zz,yq,zn,yN,Nat.reduceAdd,Nat.reduceSub,List.replicate,yW,List.nil_append,yF,List.getElem?_cons_zero,List.getElem?_cons_succ,Option.some.injEq,exists_eq_left',exists_eq_left,exists_and_left,and_assoc,V.int.injEq,V.ty.injEq,V.str.injEq,V.bl.injEq,V.ref.injEq,List.cons.injEq,and_true,true_and,List.set_cons_zero,List.set_cons_succ]
  simp only [V.ty.injEq,ht,Option.some.injEq,exists_eq_left',exists_and_left,true_or,or_true,true_and]
  rcases tyS_six ht with rfl | rfl | rfl | rfl | rfl | rfl | rfl <;> simpa [isSub] using k
theorem DP:FnScope ["thing", "least", "most"] ["thing", "least", "most"] (defScope C4):=⟨rfl,rfl,rfl,by decide +kernel,rfl,by decide +kernel,by decide +kernel⟩
theorem Fx (T:Tx K mg a):FnOk P w K mg base CX0 2 a.AT a.BK ["thing", "least", "most"] (spWithin):=by
 have DN:=@Et P w _ _ base _ T
 refine T.Bn.ok DP (λvs H Q E h=>?_) (λcdv A outer s H vs Q E hr h=>?_)
 ·obtain ⟨x,t,lo,hi,rfl,_⟩:=h;rfl
 ·have nd:=DP.nd
  have hu:=hr.units
  obtain ⟨x,t,lo,hi,rfl,ht,k⟩:=h
  refine ⟨_,(@xI _ _ _ (@xT _ _ _ (@xR _ _ _ _ (@pe_and _ _ _ _ _ _ _ (xF DN (hr.mono (by decide)) rfl T.E3 T.E5 T.E7 .nil pass0 (@yw _ _ _ (@yx _ _ _ _ _ (pv 0) xE rfl))) (@pe_one _ _ _ _ _ (pe_chain op_le op_le (pv 1) (pv 0) (pv 2))))))),?_⟩
  simp only [gTup,gCons,gNil,tYes,tBM,rAppend,gSub,tAugS,ipI,rU,rIxL,rIxT,rSetL,tSeq,tAsg,tIfS,tRet,tOp,tUn,rI0,rI,tVar,tC,gName,tCall,tCB,tCons,tNil,tAndV,tOrV,tNotV,tNext,tTest,tB,tNot,tAnd,tOr,tDrop,rEq,rNe,scal,tChain,tTup,tLst,tSl,tNoPart,tPart,cxOf,L2.start,zz,yq,zn,yN,Nat.reduceAdd,Nat.reduceSub,List.replicate,yW,List.nil_append,yF,List.getElem?_cons_zero,List.getElem?_cons_succ,Option.some.injEq,exists_eq_left',exists_eq_left,exists_and_left,and_assoc,V.int.injEq,V.ty.injEq,V.str.injEq,V.bl.injEq,V.ref.injEq,List.cons.injEq,and_true,true_and,List.set_cons_zero,List.set_cons_succ]
  refine ⟨x,t,rfl,ht,zr rfl ?_⟩
  by_cases h:t = "int"
  ·subst h
   obtain ⟨i,rfl⟩:=tyS_int ht
   simp only [gTup,gCons,gNil,tYes,tBM,rAppend,gSub,tAugS,ipI,rU,rIxL,rIxT,rSetL,tSeq,tAsg,tIfS,tRet,tOp,tUn,rI0,rI,tVar,tC,gName,tCall,tCB,tCons,tNil,tAndV,tOrV,tNotV,tNext,tTest,tB,tNot,tAnd,tOr,tDrop,rEq,rNe,scal,tChain,tTup,tLst,tSl,tNoPart,tPart,cxOf,L2.start,zz,yq,zn,yN,Nat.reduceAdd,Nat.reduceSub,List.replicate,yW,List.nil_append,yF,List.getElem?_cons_zero,List.getElem?_cons_succ,Option.some.injEq,exists_eq_left',exists_eq_left,exists_and_left,and_assoc,V.int.injEq,V.ty.injEq,V.str.injEq,V.bl.injEq,V.ref.injEq,List.cons.injEq,and_true,true_and,List.set_cons_zero,List.set_cons_succ]
   by_cases h1:lo<=i
   ·simpa [h1,inB] using k
   ·simpa [h1,inB] using k
  ·rw [inB_no ht h] at k
   simpa [h] using k
theorem Ep:FnScope ["thing"] ["thing"] (defScope DF):=⟨rfl,rfl,rfl,by decide +kernel,rfl,by decide +kernel,by decide +kernel⟩
theorem Db (T:Tx K mg a):FnOk P w K mg base CX0 2 a.Bj a.BW ["thing"] (spCount):=by
 have DN:=@Et P w _ _ base _ T
 refine T.BG.ok Ep (λvs H Q E h=>?_) (λcdv A outer s H vs Q E hr h=>?_)
 ·obtain ⟨x,t,rfl,_⟩:=h;rfl
 ·have nd:=Ep.nd
  have hu:=hr.units
  obtain ⟨x,t,rfl,ht,k⟩:=h
  refine ⟨_,(@xI _ _ _ (@xT _ _ _ (@xR _ _ _ _ (@pe_and _ _ _ _ _ _ _ (xF DN (hr.mono (by decide)) rfl T.E3 T.E5 T.E7 .nil pass0 (@yw _ _ _ (@yx _ _ _ _ _ (pv 0) xE rfl))) (@pe_one _ _ _ _ _ (@wE _ _ _ _ _ _ _ _ op_ge (pv 0) yz (nomark _))))))),?_⟩
  refine (zr rfl ⟨x,t,rfl,ht,zr rfl ?_⟩)
  by_cases h:t = "int"
  ·subst h
   obtain ⟨i,rfl⟩:=tyS_int ht
   exact iteB1 rfl (zr rfl (zr2 rfl rfl k))
  ·refine iteB0 (by simpa using h) ?_
   have e:cntB x=false:=by
    cases x <;> first | rfl | exact absurd (Option.some.inj ht).symm h
   rwa [e] at k
theorem Dz:FnScope ["thing", "size"] ["thing", "size"] (defScope B9):=⟨rfl,rfl,rfl,by decide +kernel,rfl,by decide +kernel,by decide +kernel⟩
theorem Fd (T:Tx K mg a):FnOk P w K mg base CX0 3 a.AJ a.Bx ["thing", "size"] (spCounts):=by
 have BZ:=@Db P w _ _ base _ T
 refine T.Bb.ok Dz (λvs H Q E h=>?_) (λcdv A outer s H vs Q E hr h=>?_)
 ·obtain ⟨_,_,_,rfl,_⟩:=h;rfl
 ·have nd:=Dz.nd
  have hu:=hr.units
  obtain ⟨l,ns,n,rfl,hl,hn,n100,pos,q⟩:=h
  refine ⟨_,(@xI _ _ _ (@xT _ _ _ (@xR _ _ _ _ (@pe_and _ _ _ _ _ _ _ (xH (xq) (by rfl) T.b_isinstance zh (@yw _ _ _ (@yx _ _ _ _ _ (pv 0) (@yx _ _ _ _ _ (pe_bltn (v:=V.ty "list") rfl T.b_list zx rfl) xE rfl) rfl))) (@pe_and _ _ _ _ _ _ _ (@wE _ _ _ _ _ _ _ _ wU (xH (xJ rfl) (by rfl) T.b_len PySem.boot_len (@yw _ _ _ (@yx _ _ _ _ _ (pv 0) xE rfl))) (pv 1) (nomark _)) (@pe_one _ _ _ _ _ (xH (call_all rfl rfl) (by rfl) T.b_all yR (@yw _ _ _ (@yx _ _ _ _ _ (xt (own:=["number"]) (caps:=[]) rfl (show CompScope ["number"] [] ["thing", "size"] (defScope B9) _ from ⟨rfl,by decide +kernel,by decide +kernel,by decide +kernel,by decide +kernel⟩) (@xm _ _ _ _ _ rfl (pv 0)) (λ_ _ _ _=>(xC (i:=0) (show List.Nodup (["number"]:List Str) from by decide +kernel) rfl (by first | exact Or.inl rfl | exact Or.inr rfl))) (λ_ _ _ _=>xk) (λ_ _ _ _=>(xF BZ (hr.mono (by decide)) rfl T.CI T.CK T.CM .nil pass0 (@yw _ _ _ (@yx _ _ _ _ _ (pv 0) xE rfl))))) xE rfl))))))))),?_⟩
  have line:=line9
  refine (zr rfl ⟨_, "list", "list", rfl,tyS_lst hl,.inr (.inr (.inl rfl)),zr rfl (iteB1 rfl (zr rfl ⟨l,zr rfl ⟨.inl (SqL.of hl),zr rfl ⟨rfl,zr rfl (iteB1 (decide_eq_true (by rw [zA,hn])) ?_)⟩⟩⟩))⟩)
  refine (zr rfl ⟨l,rfl,⟨_,SqL.of hl⟩,?_⟩)
  refine xj (K:=K) (a:=l) (xs:=List.map V.int ns) (λi τ acc H5=>(∃ t0,τ=[t0])/\acc=(List.replicate i true).map V.bl/\Same H H5) ⟨⟨_,rfl⟩,rfl,Same.refl _⟩ (by rw [zA];omega) ?_ ?_ ?_
  ·rintro i τ acc H5 ⟨_,rfl,sm⟩
   exact ⟨by simp,SqL.of (sm _ _ hl)⟩
  ·rintro i v τ acc H5 C hv ⟨⟨t0,rfl⟩,rfl,sm⟩ hC
   obtain ⟨x,hx,rfl⟩:=xU hv
   refine (zr rfl ⟨_, "int", rfl,rfl,hC _ _ _ ⟨⟨_,rfl⟩,?_,sm⟩⟩)
   rw [show cntB (.int x)=true from decide_eq_true (pos x (zD hx)),ye,zB];rfl
  ·rintro τ acc H5 ⟨⟨t0,rfl⟩,rfl,sm⟩ lc hlc
   refine ⟨lc,zr rfl ⟨SqL.of yy,?_⟩⟩
   rw [show ((List.replicate (List.map V.int ns).length true).all id)=true by rw [yS];intro x hx;exact (zy.mp hx).2]
   exact q _ (sm.trans (xB hlc))
theorem CV:FnScope ["loads", "wants", "thing", "there", "back", "begun", "come"] ["loads", "wants", "thing"] (defScope Cf):=⟨rfl,rfl,rfl,by decide +kernel,rfl,by decide +kernel,by decide +kernel⟩
theorem EH (T:Tx K mg a):FnOk P w K mg base CX0 4 a.Au a.AR ["loads", "wants", "thing"] (spRowForm):=by
 have BZ:=@Db P w _ _ base _ T
 have Eg:=@Fd P w _ _ base _ T
 refine T.AD.ok CV (λvs H Q E h=>?_) (λcdv A outer s H vs Q E hr h=>?_)
 ·obtain ⟨_,_,_,_,_,rfl,_⟩:=h;rfl
 ·have nd:=CV.nd
  have hu:=hr.units
  obtain ⟨ll,lw,ls,ws,x,rfl,hl,hw,l100,w100,hx,ok,q⟩:=h
  refine ⟨_,(@xI _ _ _ (@xO _ _ _ _ _ _ (@xZ _ _ _ _ _ _ _ _ (@PW.pt _ _ _ (@pw_or _ _ _ _ _ _ _ (@wC _ _ _ _ (xx (xH (xq) (by rfl) T.b_isinstance zh (@yw _ _ _ (@yx _ _ _ _ _ (pv 2) (@yx _ _ _ _ _ (pe_bltn (v:=V.ty "tuple") rfl T.b_tuple yU rfl) xE rfl) rfl))))) (@wO _ _ _ _ (@xP _ _ _ _ _ _ _ _ op_ne (xH (xJ rfl) (by rfl) T.b_len PySem.boot_len (@yw _ _ _ (@yx _ _ _ _ _ (pv 2) xE rfl))) yz (nomark _))))) (@xI _ _ _ (@xT _ _ _ (@xR _ _ _ _ pe_bl))) xS) (@xO _ _ _ _ _ _ (xo (pv 2) (xX (n:=4) rfl rfl (xD (xC (i:=3) nd rfl (by first | exact Or.inl rfl | exact Or.inr rfl)) (xD (xC (i:=4) nd rfl (by first | exact Or.inl rfl | exact Or.inr rfl)) (xD (xC (i:=5) nd rfl (by first | exact Or.inl rfl | exact Or.inr rfl)) (xD (xC (i:=6) nd rfl (by first | exact Or.inl rfl | exact Or.inr rfl)) xW)))))) (@xO _ _ _ _ _ _ (@xZ _ _ _ _ _ _ _ _ (@PW.pt _ _ _ (@pw_or _ _ _ _ _ _ _ (@wC _ _ _ _ (xx (xF BZ (hr.mono (by decide)) rfl T.CI T.CK T.CM .nil pass0 (@yw _ _ _ (@yx _ _ _ _ _ (pv 3) xE rfl))))) (@wO _ _ _ _ (@wC _ _ _ _ (xx (xF BZ (hr.mono (by decide)) rfl T.CI T.CK T.CM .nil pass0 (@yw _ _ _ (@yx _ _ _ _ _ (pv 4) xE rfl)))))))) (@xI _ _ _ (@xT _ _ _ (@xR _ _ _ _ pe_bl))) xS) (@xT _ _ _ (@xR _ _ _ _ (@pe_and _ _ _ _ _ _ _ (xF Eg (hr.mono (by decide)) rfl T.D2 T.D6 T.Ea .nil pass0 (@yw _ _ _ (@yx _ _ _ _ _ (pv 5) (@yx _ _ _ _ _ (xH (xJ rfl) (by rfl) T.b_len PySem.boot_len (@yw _ _ _ (@yx _ _ _ _ _ (pv 0) xE rfl))) xE rfl) rfl))) (@pe_one _ _ _ _ _ (xF Eg (hr.mono (by decide)) rfl T.D2 T.D6 T.Ea .nil pass0 (@yw _ _ _ (@yx _ _ _ _ _ (pv 6) (@yx _ _ _ _ _ (xH (xJ rfl) (by rfl) T.b_len PySem.boot_len (@yw _ _ _ (@yx _ _ _ _ _ (pv 1) xE rfl))) xE rfl) rfl))))))))))),?_⟩
  have line:=line9
  refine (zr rfl ⟨_, "tuple", "tuple", rfl,tyS_tup hx.a,.inr (.inr (.inr rfl)),zr rfl (iteB0 rfl (zr rfl ⟨x.a,zr rfl ⟨.inr (SqT.of hx.a),rfl,zr rfl (iteB0 rfl ?_)⟩⟩))⟩)
  refine (zr rfl (un4 hx.a ?_))
  have e1:cntB (.int x.r.th)=true:=decide_eq_true ok.th
  have e2:cntB (.int x.r.bk)=true:=decide_eq_true ok.bk
  refine (zr rfl ⟨_, "int", rfl,rfl,zr rfl (iteB0 (by rw [e1];rfl) (zr rfl ⟨_, "int", rfl,rfl,zr rfl (iteB0 (by rw [e2];rfl) ?_)⟩))⟩)
  refine (zr rfl (zr rfl ⟨ll,zr rfl ⟨.inl (SqL.of hl.l),x.b,x.r.bg,zr rfl ⟨hx.b,by rw [ok.bl,zA],by rw [zA];exact l100,ok.b0,λH1 s1=>(zr rfl (iteB1 rfl ?_))⟩⟩⟩))
  exact (zr rfl (zr rfl ⟨lw,zr rfl ⟨.inl (SqL.of (s1 _ _ hw.l)),x.c,x.r.cm,zr rfl ⟨s1 _ _ hx.c,by rw [ok.cl,zA],by rw [zA];exact w100,ok.c0,λH2 s2=>q _ (s1.trans s2)⟩⟩⟩))
theorem B1:FnScope ["loads", "wants", "thing", "load", "want", "many"] ["loads", "wants", "thing"] (defScope wQ):=⟨rfl,rfl,rfl,by decide +kernel,rfl,by decide +kernel,by decide +kernel⟩
theorem Dc (T:Tx K mg a):FnOk P w K mg base CX0 3 a.Ag a.An ["loads", "wants", "thing"] (spStrForm):=by
 have EE:=@Fx P w _ _ base _ T
 have BZ:=@Db P w _ _ base _ T
 refine T.Ai.ok B1 (λvs H Q E h=>?_) (λcdv A outer s H vs Q E hr h=>?_)
 ·obtain ⟨_,_,_,_,_,_,rfl,_⟩:=h;rfl
 ·have nd:=B1.nd
  have hu:=hr.units
  obtain ⟨ll,lw,ls,ws,a,t,rfl,hl,hw,ha,ok,q⟩:=h
  refine ⟨_,(@xI _ _ _ (@xO _ _ _ _ _ _ (@xZ _ _ _ _ _ _ _ _ (@PW.pt _ _ _ (@pw_or _ _ _ _ _ _ _ (@wC _ _ _ _ (xx (xH (xq) (by rfl) T.b_isinstance zh (@yw _ _ _ (@yx _ _ _ _ _ (pv 2) (@yx _ _ _ _ _ (pe_bltn (v:=V.ty "tuple") rfl T.b_tuple yU rfl) xE rfl) rfl))))) (@wO _ _ _ _ (@xP _ _ _ _ _ _ _ _ op_ne (xH (xJ rfl) (by rfl) T.b_len PySem.boot_len (@yw _ _ _ (@yx _ _ _ _ _ (pv 2) xE rfl))) yz (nomark _))))) (@xI _ _ _ (@xT _ _ _ (@xR _ _ _ _ pe_bl))) xS) (@xO _ _ _ _ _ _ (xo (pv 2) (xX (n:=3) rfl rfl (xD (xC (i:=3) nd rfl (by first | exact Or.inl rfl | exact Or.inr rfl)) (xD (xC (i:=4) nd rfl (by first | exact Or.inl rfl | exact Or.inr rfl)) (xD (xC (i:=5) nd rfl (by first | exact Or.inl rfl | exact Or.inr rfl)) xW))))) (@xO _ _ _ _ _ _ (@xZ _ _ _ _ _ _ _ _ (@PW.pt _ _ _ (@pw_or _ _ _ _ _ _ _ (@wC _ _ _ _ (xx (xF EE (hr.mono (by decide)) rfl T.Ev T.Ey T.EB .nil pass0 (@yw _ _ _ (@yx _ _ _ _ _ (pv 3) (@yx _ _ _ _ _ yz (@yx _ _ _ _ _ (@xN _ _ _ _ _ _ _ _ wD (xH (xJ rfl) (by rfl) T.b_len PySem.boot_len (@yw _ _ _ (@yx _ _ _ _ _ (pv 0) xE rfl))) yz) xE rfl) rfl) rfl))))) (@wO _ _ _ _ (@wC _ _ _ _ (xx (xF EE (hr.mono (by decide)) rfl T.Ev T.Ey T.EB .nil pass0 (@yw _ _ _ (@yx _ _ _ _ _ (pv 4) (@yx _ _ _ _ _ yz (@yx _ _ _ _ _ (@xN _ _ _ _ _ _ _ _ wD (xH (xJ rfl) (by rfl) T.b_len PySem.boot_len (@yw _ _ _ (@yx _ _ _ _ _ (pv 1) xE rfl))) yz) xE rfl) rfl) rfl)))))))) (@xI _ _ _ (@xT _ _ _ (@xR _ _ _ _ pe_bl))) xS) (@xT _ _ _ (@xR _ _ _ _ (@pe_and _ _ _ _ _ _ _ (xF BZ (hr.mono (by decide)) rfl T.CI T.CK T.CM .nil pass0 (@yw _ _ _ (@yx _ _ _ _ _ (pv 5) xE rfl))) (@pe_one _ _ _ _ _ (@wE _ _ _ _ _ _ _ _ op_gt (pv 5) yz (nomark _)))))))))),?_⟩
  have line:=line9
  refine (zr rfl ⟨_, "tuple", "tuple", rfl,tyS_tup ha,.inr (.inr (.inr rfl)),zr rfl (iteB0 rfl (zr rfl ⟨a,zr rfl ⟨.inr (SqT.of ha),rfl,zr rfl (iteB0 rfl ?_)⟩⟩))⟩)
  refine (zr rfl (un3 ha ?_))
  have ek:=ok.k
  have ej:=ok.j
  refine (zr rfl (zr rfl ⟨ll,zr rfl ⟨.inl (SqL.of hl.l),zr2 rfl rfl ⟨_, "int", zr2 rfl rfl (zr rfl (iteB0 (by rw [zA];simp [inB];omega) ?_))⟩⟩⟩))
  refine (zr rfl (zr rfl ⟨lw,zr rfl ⟨.inl (SqL.of hw.l),zr2 rfl rfl ⟨_, "int", zr2 rfl rfl (zr rfl (iteB0 (by rw [zA];simp [inB];omega) ?_))⟩⟩⟩))
  have e1:cntB (.int t.m)=true:=decide_eq_true (by have:=ok.m;omega)
  refine (zr rfl ⟨_, "int", rfl,rfl,zr rfl (iteB1 e1 (zr rfl (zr2 rfl rfl ?_)))⟩)
  show Q (V.bl (decide (0 < t.m))) H
  rw [decide_eq_true ok.m]
  exact q _ (Same.refl _)
theorem Cr:FnScope ["book", "loads", "wants", "thing", "rows", "straight"] ["book", "loads", "wants", "thing"] (defScope wI):=⟨rfl,rfl,rfl,by decide +kernel,rfl,by decide +kernel,by decide +kernel⟩
theorem Ej (T:Tx K mg a):FnOk P w K mg base CX0 5 a.Ao a.AE ["book", "loads", "wants", "thing"] (spPlanForm):=by
 have Fb:=@EH P w _ _ base _ T
 have Dx:=@Dc P w _ _ base _ T
 refine T.Aw.ok Cr (λvs H Q E h=>?_) (λcdv A outer s H vs Q E hr h=>?_)
 ·obtain ⟨_,_,_,_,_,_,_,_,_,_,_,_,_,_,rfl,_⟩:=h;rfl
 ·have nd:=Cr.nd
  have hu:=hr.units
  obtain ⟨b,ll,lw,p,rooms,tr,tm,ps,ls,ws,lr,lt,xs,ts,rfl,hb,hl,hw,hp,ok,q⟩:=h
  refine ⟨_,(@xI _ _ _ (@xO _ _ _ _ _ _ (@xZ _ _ _ _ _ _ _ _ (@PW.pt _ _ _ (@pw_or _ _ _ _ _ _ _ (@wC _ _ _ _ (xx (xH (xq) (by rfl) T.b_isinstance zh (@yw _ _ _ (@yx _ _ _ _ _ (pv 3) (@yx _ _ _ _ _ (pe_bltn (v:=V.ty "tuple") rfl T.b_tuple yU rfl) xE rfl) rfl))))) (@wO _ _ _ _ (@xP _ _ _ _ _ _ _ _ op_ne (xH (xJ rfl) (by rfl) T.b_len PySem.boot_len (@yw _ _ _ (@yx _ _ _ _ _ (pv 3) xE rfl))) yz (nomark _))))) (@xI _ _ _ (@xT _ _ _ (@xR _ _ _ _ pe_bl))) xS) (@xO _ _ _ _ _ _ (xo (pv 3) (xX (n:=2) rfl rfl (xD (xC (i:=4) nd rfl (by first | exact Or.inl rfl | exact Or.inr rfl)) (xD (xC (i:=5) nd rfl (by first | exact Or.inl rfl | exact Or.inr rfl)) xW)))) (@xO _ _ _ _ _ _ (@xZ _ _ _ _ _ _ _ _ (@PW.pt _ _ _ (@pw_or _ _ _ _ _ _ _ (@wC _ _ _ _ (xx (xH (xq) (by rfl) T.b_isinstance zh (@yw _ _ _ (@yx _ _ _ _ _ (pv 4) (@yx _ _ _ _ _ (pe_bltn (v:=V.ty "list") rfl T.b_list zx rfl) xE rfl) rfl))))) (@pw_or _ _ _ _ _ _ _ (@xP _ _ _ _ _ _ _ _ op_ne (xH (xJ rfl) (by rfl) T.b_len PySem.boot_len (@yw _ _ _ (@yx _ _ _ _ _ (pv 4) xE rfl))) (xH (xJ rfl) (by rfl) T.b_len PySem.boot_len (@yw _ _ _ (@yx _ _ _ _ _ (@xM _ _ _ _ _ _ _ (xQ rfl) (pv 0) yz (λ_ _=>rfl)) xE rfl))) (nomark _)) (@wO _ _ _ _ (@wC _ _ _ _ (xx (xH (xq) (by rfl) T.b_isinstance zh (@yw _ _ _ (@yx _ _ _ _ _ (pv 5) (@yx _ _ _ _ _ (pe_bltn (v:=V.ty "list") rfl T.b_list zx rfl) xE rfl) rfl))))))))) (@xI _ _ _ (@xT _ _ _ (@xR _ _ _ _ pe_bl))) xS) (@xO _ _ _ _ _ _ (@xZ _ _ _ _ _ _ _ _ (@wC _ _ _ _ (xx (xH (call_all rfl rfl) (by rfl) T.b_all yR (@yw _ _ _ (@yx _ _ _ _ _ (xt (own:=["row"]) (caps:=[1,2]) rfl (show CompScope ["row"] [1,2] ["book", "loads", "wants", "thing", "rows", "straight"] (defScope wI) _ from ⟨rfl,by decide +kernel,by decide +kernel,by decide +kernel,by decide +kernel⟩) (@xm _ _ _ _ _ rfl (pv 4)) (λ_ _ _ _=>(xC (i:=0) (show List.Nodup (["row", "loads", "wants"]:List Str) from by decide +kernel) rfl (by first | exact Or.inl rfl | exact Or.inr rfl))) (λ_ _ _ _=>xk) (λ_ _ _ _=>(xF Fb (hr.mono (by decide)) rfl T.E4 T.E6 T.E8 .nil pass0 (@yw _ _ _ (@yx _ _ _ _ _ (pv 1) (@yx _ _ _ _ _ (pv 2) (@yx _ _ _ _ _ (pv 0) xE rfl) rfl) rfl))))) xE rfl))))) (@xI _ _ _ (@xT _ _ _ (@xR _ _ _ _ pe_bl))) xS) (@xT _ _ _ (@xR _ _ _ _ (xH (call_all rfl rfl) (by rfl) T.b_all yR (@yw _ _ _ (@yx _ _ _ _ _ (xt (own:=["part"]) (caps:=[1,2]) rfl (show CompScope ["part"] [1,2] ["book", "loads", "wants", "thing", "rows", "straight"] (defScope wI) _ from ⟨rfl,by decide +kernel,by decide +kernel,by decide +kernel,by decide +kernel⟩) (@xm _ _ _ _ _ rfl (pv 5)) (λ_ _ _ _=>(xC (i:=0) (show List.Nodup (["part", "loads", "wants"]:List Str) from by decide +kernel) rfl (by first | exact Or.inl rfl | exact Or.inr rfl))) (λ_ _ _ _=>xk) (λ_ _ _ _=>(xF Dx (hr.mono (by decide)) rfl T.Dp T.Dr T.Dt .nil pass0 (@yw _ _ _ (@yx _ _ _ _ _ (pv 1) (@yx _ _ _ _ _ (pv 2) (@yx _ _ _ _ _ (pv 0) xE rfl) rfl) rfl))))) xE rfl)))))))))),?_⟩
  have line:=line9
  have m60:=ok.m60
  have t100:=ok.t
  have ln:=ok.n
  refine (zr rfl ⟨_, "tuple", "tuple", rfl,tyS_tup hp.p,.inr (.inr (.inr rfl)),zr rfl (iteB0 rfl (zr rfl ⟨p,zr rfl ⟨.inr (SqT.of hp.p),rfl,zr rfl (iteB0 rfl ?_)⟩⟩))⟩)
  refine (zr rfl (un2 hp.p ?_))
  refine (zr rfl ⟨_, "list", "list", rfl,tyS_lst hp.lr,.inr (.inr (.inl rfl)),zr rfl (iteB0 rfl (zr rfl ⟨lr,zr rfl ⟨.inl (SqL.of hp.lr),zr rfl (ixt hb.book rfl ⟨tm,zr rfl ⟨.inr (SqT.of hb.meets),rfl,zr rfl (iteB0 (by rw [zA,zA,ln];simp) (zr rfl ⟨_, "list", "list", rfl,tyS_lst hp.ls,.inr (.inr (.inl rfl)),zr rfl (iteB0 rfl ?_)⟩))⟩⟩)⟩⟩))⟩)
  refine (zr rfl ⟨lr,rfl,⟨_,SqL.of hp.lr⟩,?_⟩)
  refine xj (K:=K) (a:=lr) (xs:=xs.map λx=>V.ref x.a) (λi τ acc H5=>(∃ t0,τ=[t0,some (.ref ll),some (.ref lw)])/\acc=(List.replicate i true).map V.bl/\Same H H5) ⟨⟨_,rfl⟩,rfl,Same.refl _⟩ (by rw [zA];omega) ?_ ?_ ?_
  ·rintro i τ acc H5 ⟨_,rfl,sm⟩
   exact ⟨by simp,SqL.of (sm _ _ hp.lr)⟩
  ·rintro i v τ acc H5 C hv ⟨⟨t0,rfl⟩,rfl,sm⟩ hC
   obtain ⟨x,hx,rfl⟩:=xU hv
   have mx:=zD hx
   refine (zr rfl (zr rfl (zr rfl ⟨ll,lw,ls,ws,x,rfl,hl.same sm,hw.same sm,ok.l,ok.w,(hp.rows x mx).same sm,ok.rows x mx,λH6 s6=>hC _ _ _ ⟨⟨_,rfl⟩,?_,sm.trans s6⟩⟩)))
   rw [ye,zB];rfl
  ·rintro τ acc H5 ⟨⟨t0,rfl⟩,rfl,sm⟩ lc hlc
   refine ⟨lc,zr rfl ⟨SqL.of yy,zr rfl (iteB0 ?_ ?_)⟩⟩
   ·rw [show ((List.replicate (List.map (λx:RA=>V.ref x.a) xs).length true).all id)=true by rw [yS];intro x hx;exact (zy.mp hx).2];rfl
   have s1:=sm.trans (xB (o:=HO.lst ((List.replicate (List.map (λx:RA=>V.ref x.a) xs).length true).map V.bl)) hlc)
   generalize upd H5 lc _=H6 at s1 ⊢
   refine (zr rfl ⟨lt,rfl,⟨_,SqL.of (s1 _ _ hp.ls)⟩,?_⟩)
   refine xj (K:=K) (a:=lt) (xs:=ts.map λx=>V.ref x.1) (λi τ acc H5=>(∃ t0,τ=[t0,some (.ref ll),some (.ref lw)])/\acc=(List.replicate i true).map V.bl/\Same H H5) ⟨⟨_,rfl⟩,rfl,s1⟩ (by rw [zA];omega) ?_ ?_ ?_
   ·rintro i τ acc H5 ⟨_,rfl,sm⟩
    exact ⟨by simp,SqL.of (sm _ _ hp.ls)⟩
   ·rintro i v τ acc H5 C hv ⟨⟨t0,rfl⟩,rfl,sm⟩ hC
    obtain ⟨x,hx,rfl⟩:=xU hv
    have mx:=zD hx
    refine (zr rfl (zr rfl (zr rfl ⟨ll,lw,ls,ws,x.1,x.2,rfl,hl.same sm,hw.same sm,sm _ _ (hp.ones x mx),ok.ones x mx,λH6 s6=>hC _ _ _ ⟨⟨_,rfl⟩,?_,sm.trans s6⟩⟩)))
    rw [ye,zB];rfl
   ·rintro τ acc H5 ⟨⟨t0,rfl⟩,rfl,sm⟩ lc hlc
    refine ⟨lc,zr rfl ⟨SqL.of yy,?_⟩⟩
    rw [show ((List.replicate (List.map (λx:Addr×T3=>V.ref x.1) ts).length true).all id)=true by rw [yS];intro x hx;exact (zy.mp hx).2]
    exact q _ (sm.trans (xB hlc))
theorem C1:FnScope ["load", "want"] ["load", "want"] (defScope Cm):=⟨rfl,rfl,rfl,by decide +kernel,rfl,by decide +kernel,by decide +kernel⟩
theorem EZ (T:Tx K mg a):FnOk P w K mg base CX0 1 a.AA a.Bg ["load", "want"] (spStraight1):=by
 refine T.AO.ok C1 (λvs H Q E h=>?_) (λcdv A outer s H vs Q E hr h=>?_)
 ·obtain ⟨_,_,_,_,rfl,_⟩:=h;rfl
 ·have nd:=C1.nd
  have hu:=hr.units
  obtain ⟨a,b,l,w,rfl,ha,hb,q⟩:=h
  refine ⟨_,(@xI _ _ _ (@xT _ _ _ (@xR _ _ _ _ (@pe_and _ _ _ _ _ _ _ (@wE _ _ _ _ _ _ _ _ wU (@xM _ _ _ _ _ _ _ (xQ rfl) (pv 0) yz (λ_ _=>rfl)) (@xM _ _ _ _ _ _ _ (xQ rfl) (pv 1) yz (λ_ _=>rfl)) (nomark _)) (@pe_one _ _ _ _ _ (@wE _ _ _ _ _ _ _ _ op_le (@xM _ _ _ _ _ _ _ (xQ rfl) (pv 0) yz (λ_ _=>rfl)) (@xM _ _ _ _ _ _ _ (xQ rfl) (pv 1) yz (λ_ _=>rfl)) (nomark _))))))),?_⟩
  refine (zr rfl (ixt ha rfl (zr rfl (ixt hb rfl ⟨rfl,zr rfl ?_⟩))))
  by_cases c:l.w=w.w
  ·refine iteB1 (decide_eq_true (by rw [c])) (zr rfl (ixt ha rfl (zr rfl (ixt hb rfl (zr2 rfl rfl ?_)))))
   rwa [show strB l w=decide (l.t<=w.t) by unfold strB;rw [decide_eq_true c];rfl] at q
  ·refine iteB0 (decide_eq_false (λz=>c (V.int.inj z))) ?_
   rwa [show strB l w=false by unfold strB;rw [decide_eq_false c];rfl] at q
theorem Ce:FnScope ["loads", "wants", "straight", "pairs"] ["loads", "wants", "straight"] (defScope xw):=⟨rfl,rfl,rfl,by decide +kernel,rfl,by decide +kernel,by decide +kernel⟩
theorem DI (T:Tx K mg a):FnOk P w K mg base CX0 2 a.Aj a.Av ["loads", "wants", "straight"] (spMay):=by
 have Fq:=@EZ P w _ _ base _ T
 refine T.Al.ok Ce (λvs H Q E h=>?_) (λcdv A outer s H vs Q E hr h=>?_)
 ·obtain ⟨_,_,_,_,_,_,rfl,_⟩:=h;rfl
 ·have nd:=Ce.nd
  have hu:=hr.units
  obtain ⟨ll,lw,lt,ls,ws,ts,rfl,hl,hw,ht,he,t100,ok,nd2,q⟩:=h
  refine ⟨_,(@xI _ _ _ (@xO _ _ _ _ _ _ (ps_setComp (ix:=3) nd rfl (by first | exact Or.inl rfl | exact Or.inr rfl) (own:=["load", "want", "many"]) (caps:=[]) rfl (show CompScope ["load", "want", "many"] [] ["loads", "wants", "straight", "pairs"] (defScope xw) _ from ⟨rfl,by decide +kernel,by decide +kernel,by decide +kernel,by decide +kernel⟩) (@xm _ _ _ _ _ rfl (pv 2)) (λ_ _ _ _=>(xX (n:=3) rfl rfl (xD (xC (i:=0) (show List.Nodup (["load", "want", "many"]:List Str) from by decide +kernel) rfl (by first | exact Or.inl rfl | exact Or.inr rfl)) (xD (xC (i:=1) (show List.Nodup (["load", "want", "many"]:List Str) from by decide +kernel) rfl (by first | exact Or.inl rfl | exact Or.inr rfl)) (xD (xC (i:=2) (show List.Nodup (["load", "want", "many"]:List Str) from by decide +kernel) rfl (by first | exact Or.inl rfl | exact Or.inr rfl)) xW))))) (λ_ _ _ _=>xk) (λ_ _ _ _=>(@xp _ _ _ _ _ (@yw _ _ _ (@yx _ _ _ _ _ (pv 0) (@yx _ _ _ _ _ (pv 1) xE rfl) rfl))))) (@xO _ _ _ _ _ _ (@xZ _ _ _ _ _ _ _ _ (@xP _ _ _ _ _ _ _ _ op_ne (xH (call_lenS) (by rfl) T.b_len PySem.boot_len (@yw _ _ _ (@yx _ _ _ _ _ (xu (call_setOf rfl hu) (by rfl) T.b_set PyProof.Rows.boot_set (@yw _ _ _ (@yx _ _ _ _ _ (pv 3) xE rfl))) xE rfl))) (xH (xJ rfl) (by rfl) T.b_len PySem.boot_len (@yw _ _ _ (@yx _ _ _ _ _ (pv 3) xE rfl))) (nomark _)) (@xI _ _ _ (@xT _ _ _ (@xR _ _ _ _ pe_bl))) xS) (@xT _ _ _ (@xR _ _ _ _ (xH (call_all rfl rfl) (by rfl) T.b_all yR (@yw _ _ _ (@yx _ _ _ _ _ (xt (own:=["load", "want"]) (caps:=[0,1]) rfl (show CompScope ["load", "want"] [0,1] ["loads", "wants", "straight", "pairs"] (defScope xw) _ from ⟨rfl,by decide +kernel,by decide +kernel,by decide +kernel,by decide +kernel⟩) (@xm _ _ _ _ _ rfl (pv 3)) (λ_ _ _ _=>(xX (n:=2) rfl rfl (xD (xC (i:=0) (show List.Nodup (["load", "want", "loads", "wants"]:List Str) from by decide +kernel) rfl (by first | exact Or.inl rfl | exact Or.inr rfl)) (xD (xC (i:=1) (show List.Nodup (["load", "want", "loads", "wants"]:List Str) from by decide +kernel) rfl (by first | exact Or.inl rfl | exact Or.inr rfl)) xW)))) (λ_ _ _ _=>xk) (λ_ _ _ _=>(xF Fq (hr.mono (by decide)) rfl T.Fh T.Fj T.Fl .nil pass0 (@yw _ _ _ (@yx _ _ _ _ _ (@xM _ _ _ _ _ _ _ (xL rfl) (pv 2) (pv 0) (λ_ _=>rfl)) (@yx _ _ _ _ _ (@xM _ _ _ _ _ _ _ (xL rfl) (pv 3) (pv 1) (λ_ _=>rfl)) xE rfl) rfl))))) xE rfl)))))))),?_⟩
  have line:=line9
  refine (zr rfl ⟨lt,rfl,⟨_,SqL.of ht⟩,?_⟩)
  refine xj (K:=K) (a:=lt) (xs:=ts.map λx=>V.ref x.1) (λi τ acc H5=>∃ qs:List (Addr×List Int),(∃ t0 t1 t2,τ=[t0,t1,t2])/\acc=qs.map (λx=>V.ref x.1)/\(∀ x∈qs,H5 x.1=some (.tup (x.2.map V.int)))/\qs.map (·.2)=(ts.take i).map (λx=>[x.2.k,x.2.j])/\Same H H5) ⟨[],⟨_,_,_,rfl⟩,rfl,nofun,rfl,Same.refl _⟩ (by rw [zA];omega) ?_ ?_ ?_
  ·rintro i τ acc H5 ⟨qs,_,rfl,_,eq,sm⟩
   refine ⟨?_,SqL.of (sm _ _ ht)⟩
   have:=congrArg List.length eq
   rw [zA,zA,zR] at this
   rw [zA];omega
  ·rintro i v τ acc H5 C hv ⟨qs,⟨t0,t1,t2,rfl⟩,rfl,kq,eq,sm⟩ hC
   obtain ⟨x,hx,rfl⟩:=xU hv
   refine (un3 (sm _ _ (he x (zD hx))) ?_)
   refine (zr rfl (zr rfl ⟨by show 2<=_;omega,λu hu=>?_⟩))
   have su:=xB (o:=HO.tup [V.int x.2.k,V.int x.2.j]) hu
   refine hC _ _ _ ⟨qs++[(u,[x.2.k,x.2.j])],⟨_,_,_,rfl⟩,by rw [zB];rfl,λy hy=>?_,?_,sm.trans su⟩
   ·rcases zV.mp hy with h | h
    ·exact su _ _ (kq y h)
    ·rw [zE.mp h];exact yy
   ·rw [zB,eq,xY hx,zB];rfl
  ·rintro τ acc H5 ⟨qs,⟨t0,t1,t2,rfl⟩,rfl,kq,eq,sm⟩ lp hlp
   rw [zA,zY] at eq
   have s1:=xB (o:=HO.lst (qs.map λx=>V.ref x.1)) hlp
   have sm1:=sm.trans s1
   have kp:upd H5 lp (HO.lst (qs.map λx=>V.ref x.1)) lp=some (.lst (qs.map λx=>V.ref x.1)):=yy
   have kq1:∀ x∈qs,upd H5 lp (HO.lst (qs.map λx=>V.ref x.1)) x.1=some (.tup (x.2.map V.int)):=λx hx=>s1 _ _ (kq x hx)
   generalize upd H5 lp (HO.lst (qs.map λx=>V.ref x.1))=H6 at kp kq1 sm1 ⊢
   have lq:qs.length=ts.length:=by have:=congrArg List.length eq;rwa [zA,zA] at this
   refine (zr rfl ⟨lp,qs,rfl,kp,kq1,by omega,by rw [eq];exact nd2,λz hz=>?_⟩)
   have s2:∀ o,Same H6 (upd H6 z o):=λo=>xB hz
   refine ⟨z,qs,rfl,yy,zr rfl ⟨lp,zr rfl ⟨.inl (SqL.of (s2 _ _ _ kp)),rfl,zr rfl (iteB0 (by rw [zA];simp) ?_)⟩⟩⟩
   refine (zr rfl ⟨lp,rfl,⟨_,SqL.of (s2 _ _ _ kp)⟩,?_⟩)
   refine xj (K:=K) (a:=lp) (xs:=qs.map λx=>V.ref x.1) (λi τ acc H5=>(∃ t0 t1,τ=[t0,t1,some (.ref ll),some (.ref lw)])/\acc=(((ts.map (·.2)).take i).map (strT (ls.map (·.2)) (ws.map (·.2)))).map V.bl/\Same H6 H5) ⟨⟨_,_,rfl⟩,rfl,s2 _⟩ (by rw [zA];omega) ?_ ?_ ?_
   ·rintro i τ acc H5 ⟨_,rfl,sm⟩
    exact ⟨by rw [zA,zA,zR];omega,SqL.of (sm _ _ kp)⟩
   ·rintro i v τ acc H5 C hv ⟨⟨t0,t1,rfl⟩,rfl,sm⟩ hC
    obtain ⟨y,hy,rfl⟩:=xU hv
    have hy2:(qs.map (·.2))[i]?=some y.2:=map2_at hy
    rw [eq] at hy2
    obtain ⟨x,hx,ex⟩:∃ x,ts[i]?=some x/\[x.2.k,x.2.j]=y.2:=by
     rw [zG] at hy2
     cases z:ts[i]? with
     | none=>rw [z] at hy2;cases hy2
     | some x=>rw [z] at hy2;exact ⟨x,rfl,Option.some.inj hy2⟩
    have mx:=ok x (zD hx)
    have hk:=mx.k
    have hj:=mx.j
    have ky:=sm _ _ (kq1 y (zD hy))
    rw [<-ex] at ky
    obtain ⟨k,ek⟩:=ze hk.1
    obtain ⟨j,ej⟩:=ze hj.1
    have kl:k < ls.length:=by omega
    have jl:j < ws.length:=by omega
    have at1:atI (ls.map λa=>V.ref a.1) x.2.k=some (V.ref ls[k].1):=by rw [ek];exact xh (by rw [zG,zH kl];rfl)
    have at2:atI (ws.map λa=>V.ref a.1) x.2.j=some (V.ref ws[j].1):=by rw [ej];exact xh (by rw [zG,zH jl];rfl)
    have sm5:=sm1.trans sm
    refine (un2 ky ?_)
    refine (zr rfl (zr rfl (ixl (sm5 _ _ hl.l) at1 (zr rfl (zr rfl (ixl (sm5 _ _ hw.l) at2 ?_))))))
    refine ⟨ls[k].1,ws[j].1,ls[k].2,ws[j].2,rfl,sm5 _ _ (hl.each _ (zj kl)),sm5 _ _ (hw.each _ (zj jl)),hC _ _ _ ⟨⟨_,_,rfl⟩,?_,sm⟩⟩
    rw [xY (map2_at hx),zB,zB,<- strT_eq (t:=x.2) (ls:=ls.map (·.2)) (ws:=ws.map (·.2)) (l:=ls[k].2) (w:=ws[j].2) (by rw [ek,zc,zG,zH kl];rfl) (by rw [ej,zc,zG,zH jl];rfl)];rfl
   ·rintro τ acc H5 ⟨⟨t0,t1,rfl⟩,rfl,sm⟩ lc hlc
    refine ⟨lc,zr rfl ⟨SqL.of yy,?_⟩⟩
    rw [zA,lq,show ts.length=(ts.map (·.2)).length by rw [zA],zY,List.all_map]
    exact q _ (sm1.trans (sm.trans (xB hlc)))
theorem B0:FnScope ["meeting", "loads", "wants", "row", "one", "other", "when", "many", "there", "back", "begun", "come", "walker", "since", "most", "number", "last"] ["meeting", "loads", "wants", "row"] (defScope wR):=⟨rfl,rfl,rfl,by decide +kernel,rfl,by decide +kernel,by decide +kernel⟩
theorem Da (T:Tx K mg a):FnOk P w K mg base CX0 1 a.Af a.Am ["meeting", "loads", "wants", "row"] (spWithinP):=by
 refine T.Ah.ok B0 (λvs H Q E h=>?_) (λcdv A outer s H vs Q E hr h=>?_)
 ·obtain ⟨_,_,_,_,_,_,_,rfl,_⟩:=h;rfl
 ·have nd:=B0.nd
  have hu:=hr.units
  obtain ⟨m,r,ll,lw,ls,ws,x,rfl,hm,hl,hw,l100,w100,hx,eb,ec,q⟩:=h
  refine ⟨_,(@xI _ _ _ (@xO _ _ _ _ _ _ (xo (pv 0) (xX (n:=4) rfl rfl (xD (xC (i:=4) nd rfl (by first | exact Or.inl rfl | exact Or.inr rfl)) (xD (xC (i:=5) nd rfl (by first | exact Or.inl rfl | exact Or.inr rfl)) (xD (xC (i:=6) nd rfl (by first | exact Or.inl rfl | exact Or.inr rfl)) (xD (xC (i:=7) nd rfl (by first | exact Or.inl rfl | exact Or.inr rfl)) xW)))))) (@xO _ _ _ _ _ _ (xo (pv 3) (xX (n:=4) rfl rfl (xD (xC (i:=8) nd rfl (by first | exact Or.inl rfl | exact Or.inr rfl)) (xD (xC (i:=9) nd rfl (by first | exact Or.inl rfl | exact Or.inr rfl)) (xD (xC (i:=10) nd rfl (by first | exact Or.inl rfl | exact Or.inr rfl)) (xD (xC (i:=11) nd rfl (by first | exact Or.inl rfl | exact Or.inr rfl)) xW)))))) (@xO _ _ _ _ _ _ (ps_for PassesOwn.never rfl (pi_zipL rfl rfl T.b_zip (@yw _ _ _ (@yx _ _ _ _ _ (pv 1) (@yx _ _ _ _ _ (pv 10) xE rfl) rfl))) (xX (n:=2) rfl rfl (xD (xX (n:=3) rfl rfl (xD (xC (i:=12) nd rfl (by first | exact Or.inl rfl | exact Or.inr rfl)) (xD (xC (i:=13) nd rfl (by first | exact Or.inl rfl | exact Or.inr rfl)) (xD (xC (i:=14) nd rfl (by first | exact Or.inl rfl | exact Or.inr rfl)) xW)))) (xD (xC (i:=15) nd rfl (by first | exact Or.inl rfl | exact Or.inr rfl)) xW))) (@xI _ _ _ (@xT _ _ _ (@xZ _ _ _ _ _ _ _ _ (@PW.pt _ _ _ (@pw_and _ _ _ _ _ _ _ (@xP _ _ _ _ _ _ _ _ op_gt (pv 15) yz (nomark _)) (@pw_and1 _ _ _ _ (@PW.pt _ _ _ (@pw_or _ _ _ _ _ _ _ (@xP _ _ _ _ _ _ _ _ op_notIn_seq (pv 12) (@xp _ _ _ _ _ (@yw _ _ _ (@yx _ _ _ _ _ (pv 4) (@yx _ _ _ _ _ (pv 5) xE rfl) rfl))) rfl) (@wO _ _ _ _ (@xP _ _ _ _ _ _ _ _ op_ge (pv 13) (pv 6) (nomark _)))))))) (@xI _ _ _ (@xT _ _ _ (@xR _ _ _ _ pe_bl))) xS)))) (@xO _ _ _ _ _ _ (ps_for PassesOwn.never rfl (pi_zipL rfl rfl T.b_zip (@yw _ _ _ (@yx _ _ _ _ _ (pv 2) (@yx _ _ _ _ _ (pv 11) xE rfl) rfl))) (xX (n:=2) rfl rfl (xD (xX (n:=3) rfl rfl (xD (xC (i:=12) nd rfl (by first | exact Or.inl rfl | exact Or.inr rfl)) (xD (xC (i:=16) nd rfl (by first | exact Or.inl rfl | exact Or.inr rfl)) (xD (xC (i:=14) nd rfl (by first | exact Or.inl rfl | exact Or.inr rfl)) xW)))) (xD (xC (i:=15) nd rfl (by first | exact Or.inl rfl | exact Or.inr rfl)) xW))) (@xI _ _ _ (@xT _ _ _ (@xZ _ _ _ _ _ _ _ _ (@PW.pt _ _ _ (@pw_and _ _ _ _ _ _ _ (@xP _ _ _ _ _ _ _ _ op_gt (pv 15) yz (nomark _)) (@pw_and1 _ _ _ _ (@PW.pt _ _ _ (@pw_or _ _ _ _ _ _ _ (@xP _ _ _ _ _ _ _ _ op_notIn_seq (pv 12) (@xp _ _ _ _ _ (@yw _ _ _ (@yx _ _ _ _ _ (pv 4) (@yx _ _ _ _ _ (pv 5) xE rfl) rfl))) rfl) (@wO _ _ _ _ (@xP _ _ _ _ _ _ _ _ op_lt (pv 16) (pv 6) (nomark _)))))))) (@xI _ _ _ (@xT _ _ _ (@xR _ _ _ _ pe_bl))) xS)))) (@xT _ _ _ (@xR _ _ _ _ (@wE _ _ _ _ _ _ _ _ op_le (@xN _ _ _ _ _ _ _ _ xf (pv 8) (pv 9)) (pv 7) (nomark _))))))))),?_⟩
  have line:=line9
  have s0:=Same.refl H
  refine (zr rfl (un4 hm ?_))
  refine (zr rfl (un4 hx.a ?_))
  refine (zr rfl (zr rfl ⟨ll,x.b,rfl,⟨_,SqL.of (s0 _ _ hl.l)⟩,⟨_,SqL.of (s0 _ _ hx.b)⟩,?_⟩))
  refine for_zipL (K:=K) (a:=ll) (b:=x.b) (xs:=ls.map λa=>V.ref a.1) (ys:=x.r.bg.map V.int) (by rw [zA,zA,eb]) (λi σ H5=>(∃ v12 v13 v14 v15 v16,σ=[some (.ref m),some (.ref ll),some (.ref lw),some (.ref x.a),some (.int r.lo),some (.int r.hi),some (.int r.t),some (.int r.m),some (.int x.r.th),some (.int x.r.bk),some (.ref x.b),some (.ref x.c),v12,v13,v14,v15,v16])/\(((ls.map (·.2)).zip x.r.bg).take i).all (mayB r (λs=>decide (s.t ≥ r.t)))=true/\Same H H5) ⟨⟨_,_,_,_,_,rfl⟩,rfl,s0⟩ ?_ ?_ ?_
  ·rintro i σ H5 _ ⟨_,_,sm⟩
   exact ⟨SqL.of (sm _ _ hl.l),SqL.of (sm _ _ hx.b)⟩
  ·rintro i x1 y1 z σ H5 hx1 hy1 hz ⟨⟨v12,v13,v14,v15,v16,rfl⟩,al,sm⟩
   obtain ⟨s1,hs1,rfl⟩:=xU hx1
   obtain ⟨n,hn1,rfl⟩:=xU hy1
   have sm6:=sm.trans (xB (o:=HO.tup [V.ref s1.1,V.int n]) hz)
   have zi:=zip_at (map2_at hs1) hn1
   refine ⟨z,zr rfl ⟨SqT.of yy,rfl,zr1 rfl (un3 (sm6 _ _ (hl.each s1 (zD hs1))) (zr2 rfl rfl ?_))⟩⟩
   generalize upd H5 z (HO.tup [V.ref s1.1,V.int n])=H6 at sm6 ⊢
   refine (zr rfl (zr2 rfl rfl (zr rfl ?_)))
   have nxt:∀ H7,Same H6 H7->mayB r (λs=>decide (s.t ≥ r.t)) (s1.2,n)=true->((∃ y12 y13 y14 y15 y16,[some (.ref m),some (.ref ll),some (.ref lw),some (.ref x.a),some (.int r.lo),some (.int r.hi),some (.int r.t),some (.int r.m),some (.int x.r.th),some (.int x.r.bk),some (.ref x.b),some (.ref x.c),some (.int s1.2.w),some (.int s1.2.t),some (.int s1.2.m),some (.int n),v16]=[some (V.ref m),some (.ref ll),some (.ref lw),some (.ref x.a),some (.int r.lo),some (.int r.hi),some (.int r.t),some (.int r.m),some (.int x.r.th),some (.int x.r.bk),some (.ref x.b),some (.ref x.c),y12,y13,y14,y15,y16])/\(((ls.map (·.2)).zip x.r.bg).take (i + 1)).all (mayB r (λs=>decide (s.t ≥ r.t)))=true/\Same H H7):=λH7 s7 e=>⟨⟨_,_,_,_,_,rfl⟩,by rw [all_snoc zi,al,e];rfl,sm6.trans s7⟩
   have bad:∀ H7,Same H6 H7->mayB r (λs=>decide (s.t ≥ r.t)) (s1.2,n)=false->Q (.bl false) H7:=λH7 s7 e=>by
    have:=q _ (sm6.trans s7)
    rwa [show withinB r (ls.map (·.2)) (ws.map (·.2)) x.r=false by unfold withinB;rw [all_stop zi e];rfl] at this
   by_cases c1:n > 0
   ·refine iteB1 (decide_eq_true c1) (zr rfl (zr rfl (zr rfl ⟨by show 2<=_;omega,λu hu=>⟨u,zr rfl ⟨.inr (SqT.of yy),rfl,rfl,zr rfl ?_⟩⟩⟩)))
    have su:=xB (o:=HO.tup [V.int r.lo,V.int r.hi]) hu
    have ei:inV (V.int s1.2.w) [V.int r.lo,V.int r.hi]=(decide (s1.2.w=r.lo) || decide (s1.2.w=r.hi)):=inV_two36
    rw [ei]
    have em:mayB r (λs=>decide (s.t ≥ r.t)) (s1.2,n)=!(!(decide (s1.2.w=r.lo) || decide (s1.2.w=r.hi)) || decide (s1.2.t ≥ r.t)):=by unfold mayB;simp only [c1,decide_true,yT]
    cases c2:(decide (s1.2.w=r.lo) || decide (s1.2.w=r.hi)) with
    | false=>exact iteB1 rfl (iteB1 rfl (bad _ su (by rw [em,c2];rfl)))
    | true=>
     refine iteB0 rfl (zr rfl (zr rfl (zr2 rfl rfl (zr rfl ?_))))
     by_cases c3:s1.2.t ≥ r.t
     ·exact iteB1 (decide_eq_true c3) (bad _ su (by rw [em,c2,decide_eq_true c3];rfl))
     ·exact iteB0 (decide_eq_false c3) (nxt _ su (by rw [em,c2,decide_eq_false c3];rfl))
   ·exact iteB0 (decide_eq_false c1) (iteB0 rfl (nxt _ (Same.refl _) (by unfold mayB;rw [decide_eq_false c1];rfl)))
  rintro σ H5 ⟨⟨v12,v13,v14,v15,v16,rfl⟩,al1,s0⟩
  have e:(ls.map λa=>V.ref a.1).length=((ls.map (·.2)).zip x.r.bg).length:=by rw [zA,zip_len (by rw [eb,zA]),zA]
  rw [e,zY] at al1
  refine (zr rfl (zr rfl ⟨lw,x.c,rfl,⟨_,SqL.of (s0 _ _ hw.l)⟩,⟨_,SqL.of (s0 _ _ hx.c)⟩,?_⟩))
  refine for_zipL (K:=K) (a:=lw) (b:=x.c) (xs:=ws.map λa=>V.ref a.1) (ys:=x.r.cm.map V.int) (by rw [zA,zA,ec]) (λi σ H5=>(∃ v12 v13 v14 v15 v16,σ=[some (.ref m),some (.ref ll),some (.ref lw),some (.ref x.a),some (.int r.lo),some (.int r.hi),some (.int r.t),some (.int r.m),some (.int x.r.th),some (.int x.r.bk),some (.ref x.b),some (.ref x.c),v12,v13,v14,v15,v16])/\(((ws.map (·.2)).zip x.r.cm).take i).all (mayB r (λs=>decide (s.t < r.t)))=true/\Same H H5) ⟨⟨_,_,_,_,_,rfl⟩,rfl,s0⟩ ?_ ?_ ?_
  ·rintro i σ H5 _ ⟨_,_,sm⟩
   exact ⟨SqL.of (sm _ _ hw.l),SqL.of (sm _ _ hx.c)⟩
  ·rintro i x1 y1 z σ H5 hx1 hy1 hz ⟨⟨v12,v13,v14,v15,v16,rfl⟩,al,sm⟩
   obtain ⟨s1,hs1,rfl⟩:=xU hx1
   obtain ⟨n,hn1,rfl⟩:=xU hy1
   have sm6:=sm.trans (xB (o:=HO.tup [V.ref s1.1,V.int n]) hz)
   have zi:=zip_at (map2_at hs1) hn1
   refine ⟨z,zr rfl ⟨SqT.of yy,rfl,zr1 rfl (un3 (sm6 _ _ (hw.each s1 (zD hs1))) (zr2 rfl rfl ?_))⟩⟩
   generalize upd H5 z (HO.tup [V.ref s1.1,V.int n])=H6 at sm6 ⊢
   refine (zr rfl (zr2 rfl rfl (zr rfl ?_)))
   have nxt:∀ H7,Same H6 H7->mayB r (λs=>decide (s.t < r.t)) (s1.2,n)=true->((∃ y12 y13 y14 y15 y16,[some (.ref m),some (.ref ll),some (.ref lw),some (.ref x.a),some (.int r.lo),some (.int r.hi),some (.int r.t),some (.int r.m),some (.int x.r.th),some (.int x.r.bk),some (.ref x.b),some (.ref x.c),some (.int s1.2.w),v13,some (.int s1.2.m),some (.int n),some (.int s1.2.t)]=[some (V.ref m),some (.ref ll),some (.ref lw),some (.ref x.a),some (.int r.lo),some (.int r.hi),some (.int r.t),some (.int r.m),some (.int x.r.th),some (.int x.r.bk),some (.ref x.b),some (.ref x.c),y12,y13,y14,y15,y16])/\(((ws.map (·.2)).zip x.r.cm).take (i + 1)).all (mayB r (λs=>decide (s.t < r.t)))=true/\Same H H7):=λH7 s7 e=>⟨⟨_,_,_,_,_,rfl⟩,by rw [all_snoc zi,al,e];rfl,sm6.trans s7⟩
   have bad:∀ H7,Same H6 H7->mayB r (λs=>decide (s.t < r.t)) (s1.2,n)=false->Q (.bl false) H7:=λH7 s7 e=>by
    have:=q _ (sm6.trans s7)
    rwa [show withinB r (ls.map (·.2)) (ws.map (·.2)) x.r=false by unfold withinB;rw [all_stop zi e];simp] at this
   by_cases c1:n > 0
   ·refine iteB1 (decide_eq_true c1) (zr rfl (zr rfl (zr rfl ⟨by show 2<=_;omega,λu hu=>⟨u,zr rfl ⟨.inr (SqT.of yy),rfl,rfl,zr rfl ?_⟩⟩⟩)))
    have su:=xB (o:=HO.tup [V.int r.lo,V.int r.hi]) hu
    have ei:inV (V.int s1.2.w) [V.int r.lo,V.int r.hi]=(decide (s1.2.w=r.lo) || decide (s1.2.w=r.hi)):=inV_two36
    rw [ei]
    have em:mayB r (λs=>decide (s.t < r.t)) (s1.2,n)=!(!(decide (s1.2.w=r.lo) || decide (s1.2.w=r.hi)) || decide (s1.2.t < r.t)):=by unfold mayB;simp only [c1,decide_true,yT]
    cases c2:(decide (s1.2.w=r.lo) || decide (s1.2.w=r.hi)) with
    | false=>exact iteB1 rfl (iteB1 rfl (bad _ su (by rw [em,c2];rfl)))
    | true=>
     refine iteB0 rfl (zr rfl (zr rfl (zr2 rfl rfl (zr rfl ?_))))
     by_cases c3:s1.2.t < r.t
     ·exact iteB1 (decide_eq_true c3) (bad _ su (by rw [em,c2,decide_eq_true c3];rfl))
     ·exact iteB0 (decide_eq_false c3) (nxt _ su (by rw [em,c2,decide_eq_false c3];rfl))
   ·exact iteB0 (decide_eq_false c1) (iteB0 rfl (nxt _ (Same.refl _) (by unfold mayB;rw [decide_eq_false c1];rfl)))
  rintro σ H5 ⟨⟨v12,v13,v14,v15,v16,rfl⟩,al2,s0⟩
  have e:(ws.map λa=>V.ref a.1).length=((ws.map (·.2)).zip x.r.cm).length:=by rw [zA,zip_len (by rw [ec,zA]),zA]
  rw [e,zY] at al2
  refine (zr rfl (zr rfl (zr2 rfl rfl (zr rfl (zr2 rfl rfl ?_)))))
  have:=q _ s0
  rwa [show withinB r (ls.map (·.2)) (ws.map (·.2)) x.r=decide (x.r.th + x.r.bk<=r.m) by unfold withinB;rw [al1,al2];rfl] at this
theorem DO:FnScope ["parts", "numbers", "walker"] ["parts", "numbers", "walker"] (defScope Cj):=⟨rfl,rfl,rfl,by decide +kernel,rfl,by decide +kernel,by decide +kernel⟩
theorem Fw (T:Tx K mg a):FnOk P w K mg base CX0 1 a.AS a.BJ ["parts", "numbers", "walker"] (spOf):=by
 refine T.Bm.ok DO (λvs H Q E h=>?_) (λcdv A outer s H vs Q E hr h=>?_)
 ·obtain ⟨_,_,_,_,_,rfl,_⟩:=h;rfl
 ·have nd:=DO.nd
  have hu:=hr.units
  obtain ⟨l,n,ps,ns,w,rfl,hl,hn,en,l100,q⟩:=h
  refine ⟨_,(@xI _ _ _ (@xT _ _ _ (@xR _ _ _ _ (xH (call_sumL rfl) (by rfl) T.b_sum yD (@yw _ _ _ (@yx _ _ _ _ _ (xt (own:=["part", "number"]) (caps:=[2]) rfl (show CompScope ["part", "number"] [2] ["parts", "numbers", "walker"] (defScope Cj) _ from ⟨rfl,by decide +kernel,by decide +kernel,by decide +kernel,by decide +kernel⟩) (pi_zipL rfl rfl T.b_zip (@yw _ _ _ (@yx _ _ _ _ _ (pv 0) (@yx _ _ _ _ _ (pv 1) xE rfl) rfl))) (λ_ _ _ _=>(xX (n:=2) rfl rfl (xD (xC (i:=0) (show List.Nodup (["part", "number", "walker"]:List Str) from by decide +kernel) rfl (by first | exact Or.inl rfl | exact Or.inr rfl)) (xD (xC (i:=1) (show List.Nodup (["part", "number", "walker"]:List Str) from by decide +kernel) rfl (by first | exact Or.inl rfl | exact Or.inr rfl)) xW)))) (λ_ _ _ _=>pts_one (@xP _ _ _ _ _ _ _ _ wU (@xM _ _ _ _ _ _ _ (xQ rfl) (pv 0) yz (λ_ _=>rfl)) (pv 2) (nomark _))) (λ_ _ _ _=>(pv 1))) xE rfl)))))),?_⟩
  have line:=line9
  refine (zr rfl (zr rfl ⟨l,n,rfl,⟨_,SqL.of hl.l⟩,⟨_,SqL.of hn⟩,?_⟩))
  refine comp_zipL (K:=K) (a:=l) (b:=n) (xs:=ps.map λa=>V.ref a.1) (ys:=List.map V.int ns) (by rw [zA,zA,en]) (λi τ acc H5=>(∃ t0 t1,τ=[t0,t1,some (.int w)])/\acc=(((((ps.map (·.2)).zip ns).take i).filter λp=>decide (p.1.w=w)).map (·.2)).map V.int/\Same H H5) ⟨⟨_,_,rfl⟩,rfl,Same.refl _⟩ (by rw [zA];omega) ?_ ?_ ?_
  ·rintro i τ acc H5 ⟨_,rfl,sm⟩
   refine ⟨?_,SqL.of (sm _ _ hl.l),SqL.of (sm _ _ hn)⟩
   rw [zA,zA]
   exact zm (List.length_filter_le _ _) (by rw [zR];omega)
  ·rintro i x y z τ acc H5 C hx hy hz ⟨⟨t0,t1,rfl⟩,rfl,sm⟩ hC
   obtain ⟨r,hr,rfl⟩:=xU hx
   obtain ⟨y2,hy2,rfl⟩:=xU hy
   have sm6:=sm.trans (xB (o:=HO.tup [V.ref r.1,V.int y2]) hz)
   have st:=ofW_snoc (w:=w) (map2_at hr) hy2
   refine (un2 yy ?_)
   refine (zr rfl (ixt (sm6 _ _ (hl.each r (zD hr))) rfl (zr rfl ⟨rfl,zr rfl ?_⟩)))
   by_cases c:r.2.w=w
   ·rw [if_pos c] at st
    exact iteB1 (decide_eq_true (by rw [c])) (zr rfl (hC _ _ _ ⟨⟨_,_,rfl⟩,by rw [st,zB];rfl,sm6⟩))
   ·rw [if_neg c,yF] at st
    exact iteB0 (decide_eq_false (λz=>c (V.int.inj z))) (hC _ _ _ ⟨⟨_,_,rfl⟩,by rw [st],sm6⟩)
  ·rintro τ acc H5 ⟨⟨t0,t1,rfl⟩,rfl,sm⟩ lc hlc
   refine ⟨lc,zr rfl ⟨SqL.of yy,?_⟩⟩
   have e:(ps.map λa=>V.ref a.1).length=((ps.map (·.2)).zip ns).length:=by rw [zA,zip_len (by rw [en,zA]),zA]
   rw [e,zY]
   exact q _ (sm.trans (xB hlc))
theorem C3:FnScope ["bags", "meeting", "loads", "wants", "row", "one", "other", "when", "many", "there", "back", "begun", "come", "behind", "walker", "given", "taken", "out", "into"] ["bags", "meeting", "loads", "wants", "row"] (defScope Cn):=⟨rfl,rfl,rfl,by decide +kernel,rfl,by decide +kernel,by decide +kernel⟩
theorem E1 (T:Tx K mg a):FnOk P w K mg base CX0 2 a.AB a.Bh ["bags", "meeting", "loads", "wants", "row"] (spBehindP):=by
 have ED:=@Fw P w _ _ base _ T
 refine T.AQ.ok C3 (λvs H Q E h=>?_) (λcdv A outer s H vs Q E hr h=>?_)
 ·obtain ⟨_,_,_,_,_,_,_,_,_,rfl,_⟩:=h;rfl
 ·have nd:=C3.nd
  have hu:=hr.units
  obtain ⟨lb,bs,m,r,ll,lw,ls,ws,x,rfl,hlb,⟨b0,b1,b2⟩,b100,hm,hl,hw,l100,w100,hx,eb,ec,q0,q⟩:=h
  refine ⟨_,(@xI _ _ _ (@xO _ _ _ _ _ _ (xo (pv 1) (xX (n:=4) rfl rfl (xD (xC (i:=5) nd rfl (by first | exact Or.inl rfl | exact Or.inr rfl)) (xD (xC (i:=6) nd rfl (by first | exact Or.inl rfl | exact Or.inr rfl)) (xD (xC (i:=7) nd rfl (by first | exact Or.inl rfl | exact Or.inr rfl)) (xD (xC (i:=8) nd rfl (by first | exact Or.inl rfl | exact Or.inr rfl)) xW)))))) (@xO _ _ _ _ _ _ (xo (pv 4) (xX (n:=4) rfl rfl (xD (xC (i:=9) nd rfl (by first | exact Or.inl rfl | exact Or.inr rfl)) (xD (xC (i:=10) nd rfl (by first | exact Or.inl rfl | exact Or.inr rfl)) (xD (xC (i:=11) nd rfl (by first | exact Or.inl rfl | exact Or.inr rfl)) (xD (xC (i:=12) nd rfl (by first | exact Or.inl rfl | exact Or.inr rfl)) xW)))))) (@xO _ _ _ _ _ _ (xK (i:=13) nd rfl (by first | exact Or.inl rfl | exact Or.inr rfl) (xu (wK rfl) (by rfl) T.b_list zx (@yw _ _ _ (@yx _ _ _ _ _ (pv 0) xE rfl)))) (@xO _ _ _ _ _ _ (ps_for PassesOwn.never rfl (@pi_tup'' _ _ _ _ _ rfl (@xp _ _ _ _ _ (@yw _ _ _ (@yx _ _ _ _ _ (@xp _ _ _ _ _ (@yw _ _ _ (@yx _ _ _ _ _ (pv 5) (@yx _ _ _ _ _ (pv 9) (@yx _ _ _ _ _ (pv 10) xE rfl) rfl) rfl))) (@yx _ _ _ _ _ (@xp _ _ _ _ _ (@yw _ _ _ (@yx _ _ _ _ _ (pv 6) (@yx _ _ _ _ _ (pv 10) (@yx _ _ _ _ _ (pv 9) xE rfl) rfl) rfl))) xE rfl) rfl)))) (xX (n:=3) rfl rfl (xD (xC (i:=14) nd rfl (by first | exact Or.inl rfl | exact Or.inr rfl)) (xD (xC (i:=15) nd rfl (by first | exact Or.inl rfl | exact Or.inr rfl)) (xD (xC (i:=16) nd rfl (by first | exact Or.inl rfl | exact Or.inr rfl)) xW)))) (@xI _ _ _ (@xO _ _ _ _ _ _ (xK (i:=17) nd rfl (by first | exact Or.inl rfl | exact Or.inr rfl) (@xN _ _ _ _ _ _ _ _ wD (pv 15) (xF ED (hr.mono (by decide)) rfl T.Eu T.Ex T.EA .nil pass0 (@yw _ _ _ (@yx _ _ _ _ _ (pv 2) (@yx _ _ _ _ _ (pv 11) (@yx _ _ _ _ _ (pv 14) xE rfl) rfl) rfl))))) (@xO _ _ _ _ _ _ (xK (i:=18) nd rfl (by first | exact Or.inl rfl | exact Or.inr rfl) (@xN _ _ _ _ _ _ _ _ wD (pv 16) (xF ED (hr.mono (by decide)) rfl T.Eu T.Ex T.EA .nil pass0 (@yw _ _ _ (@yx _ _ _ _ _ (pv 3) (@yx _ _ _ _ _ (pv 12) (@yx _ _ _ _ _ (pv 14) xE rfl) rfl) rfl))))) (@xO _ _ _ _ _ _ (@xZ _ _ _ _ _ _ _ _ (@PW.pt _ _ _ (@pw_or _ _ _ _ _ _ _ (@wC _ _ _ _ (pt_chain op_le op_le yz (pv 17) (@xM _ _ _ _ _ _ _ (xL rfl) (pv 0) (pv 14) (λ_ _=>rfl)))) (@wO _ _ _ _ (@xP _ _ _ _ _ _ _ _ op_lt (pv 18) yz (nomark _))))) (@xI _ _ _ (@xT _ _ _ (@xR _ _ _ _ pe_non))) xS) (@xT _ _ _ (ps_augS (pv 13) (pv 14) (get_list rfl) (@xN _ _ _ _ _ _ _ _ wD (pv 18) (pv 17)) ip_add xr))))))) (@xT _ _ _ (@xR _ _ _ _ (pv 13)))))))),?_⟩
  have line:=line9
  refine ⟨_,rfl,m,_,rfl,SqT.of hm,rfl,_,_,rfl,_,_,rfl,_,_,rfl,_,_,rfl,rfl,?_⟩
  refine ⟨_,rfl,x.a,_,rfl,SqT.of hx.a,rfl,_,_,rfl,_,_,rfl,_,_,rfl,_,_,rfl,rfl,?_⟩
  refine ⟨_,rfl,lb,_,rfl,.inl (SqL.of hlb),λl hlf=>?_⟩
  have s1:=xB (o:=HO.lst (List.map V.int bs)) hlf
  have kl:upd H l (HO.lst (List.map V.int bs)) l=some (.lst (List.map V.int bs)):=yy
  generalize upd H l (HO.lst (List.map V.int bs))=H1 at s1 kl ⊢
  have en:∀ (a b c:V),[a,b,c].length<=sizeLine:=λ_ _ _=>by show 3<=_;omega
  refine ⟨_,rfl,_,rfl,_,rfl,en _ _ _,λu1 hu1=>?_⟩
  have k1:upd H1 u1 (HO.tup [V.int r.lo,V.int x.r.th,V.int x.r.bk]) u1=some (.tup [.int r.lo,.int x.r.th,.int x.r.bk]):=yy
  have s2:=xB (o:=HO.tup [V.int r.lo,V.int x.r.th,V.int x.r.bk]) hu1
  generalize upd H1 u1 (HO.tup [V.int r.lo,V.int x.r.th,V.int x.r.bk])=H2 at s2 k1 ⊢
  refine ⟨_,rfl,_,rfl,_,rfl,en _ _ _,λu2 hu2=>?_⟩
  have k2:upd H2 u2 (HO.tup [V.int r.hi,V.int x.r.bk,V.int x.r.th]) u2=some (.tup [.int r.hi,.int x.r.bk,.int x.r.th]):=yy
  have s3:=xB (o:=HO.tup [V.int r.hi,V.int x.r.bk,V.int x.r.th]) hu2
  generalize upd H2 u2 (HO.tup [V.int r.hi,V.int x.r.bk,V.int x.r.th])=H3 at s3 k2 ⊢
  refine ⟨by show 2<=_;omega,λu3 hu3=>?_⟩
  have k3:upd H3 u3 (HO.tup [V.ref u1,V.ref u2]) u3=some (.tup [.ref u1,.ref u2]):=yy
  have s4:=xB (o:=HO.tup [V.ref u1,V.ref u2]) hu3
  generalize upd H3 u3 (HO.tup [V.ref u1,V.ref u2])=H4 at s4 k3 ⊢
  have kl4:=s4 _ _ (s3 _ _ (s2 _ _ kl))
  have k1:=s4 _ _ (s3 _ _ k1)
  have k2:=s4 _ _ k2
  have sm4:=s1.trans (s2.trans (s3.trans s4))
  refine ⟨u3,rfl,⟨_,SqT.of k3⟩,?_⟩
  refine for_tup (K:=K) (a:=u3) (xs:=[V.ref u1,V.ref u2]) (λi σ H5=>∃ cs,(∃ v14 v15 v16 v17 v18,σ=[some (.ref lb),some (.ref m),some (.ref ll),some (.ref lw),some (.ref x.a),some (.int r.lo),some (.int r.hi),some (.int r.t),some (.int r.m),some (.int x.r.th),some (.int x.r.bk),some (.ref x.b),some (.ref x.c),some (.ref l),v14,v15,v16,v17,v18])/\turnI bs r (ls.map (·.2)) (ws.map (·.2)) x.r i cs/\cs.length=bs.length/\H5 l=some (.lst (cs.map V.int))/\Same H H5/\Tups H4 H5) ⟨bs,⟨_,_,_,_,_,rfl⟩,rfl,rfl,kl4,sm4,Tups.refl _⟩ ?_ ?_ ?_
  ·rintro i σ H5 _ ⟨cs,_,_,_,_,_,tp⟩
   exact SqT.of (tp _ _ k3)
  ·rintro i v σ H5 hv ⟨cs,⟨v14,v15,v16,v17,v18,rfl⟩,tI,lc,kl5,sm5,tp⟩
   match i,hv,tI with
   | 0,hv,tI=>
    obtain rfl:=Option.some.inj hv
    have tI:bs=cs:=(tI:_=_).symm
    subst tI
    refine ⟨u1,_,rfl,SqT.of (tp _ _ k1),rfl,_,_,rfl,_,_,rfl,_,_,rfl,rfl,?_⟩
    refine ⟨_,rfl,_,rfl,_,rfl,_,rfl,ll,x.b,ls,x.r.bg,r.lo,rfl,hl.same sm5,sm5 _ _ hx.b,eb,l100,λH6 s6=>⟨_,_,rfl,rfl,?_⟩⟩
    have sm6:=sm5.trans s6
    refine ⟨_,rfl,_,rfl,_,rfl,_,rfl,lw,x.c,ws,x.r.cm,r.lo,rfl,hw.same sm6,sm6 _ _ hx.c,ec,w100,λH7 s7=>⟨_,_,rfl,rfl,?_⟩⟩
    have sm7:=sm6.trans s7
    refine ⟨_,rfl,_,_,rfl,rfl,_,rfl,?_⟩
    have none:goesB bs r.lo (x.r.th - ofW (ls.map (·.2)) x.r.bg r.lo) (x.r.bk - ofW (ws.map (·.2)) x.r.cm r.lo)=false->Q .non H7:=λe=>q0 (by unfold behindF;rw [e,yK];rfl) _ sm7
    have bat:=bagA (bs:=bs) (w:=r.lo) (by omega) (by omega)
    by_cases c1:0<=x.r.th - ofW (ls.map (·.2)) x.r.bg r.lo
    ·refine iteB1 (decide_eq_true c1) ⟨_,rfl,_,rfl,lb,_,_,_,rfl,rfl,SqL.of (sm7 _ _ hlb),bat,_,_,rfl,rfl,_,rfl,?_⟩
     by_cases c2:x.r.th - ofW (ls.map (·.2)) x.r.bg r.lo<=bag bs r.lo
     ·refine iteB0 (by rw [decide_eq_true c2];rfl) ⟨_,rfl,_,_,rfl,rfl,_,rfl,?_⟩
      by_cases c3:x.r.bk - ofW (ws.map (·.2)) x.r.cm r.lo < 0
      ·exact iteB1 (decide_eq_true c3) (none (by unfold goesB;rw [decide_eq_false (show ¬ 0<=x.r.bk - ofW (ws.map (·.2)) x.r.cm r.lo by omega)];simp))
      ·refine iteB0 (decide_eq_false c3) ?_
       have ok:goesB bs r.lo (x.r.th - ofW (ls.map (·.2)) x.r.bg r.lo) (x.r.bk - ofW (ws.map (·.2)) x.r.cm r.lo)=true:=by unfold goesB;rw [decide_eq_true c1,decide_eq_true c2,decide_eq_true (show 0<=x.r.bk - ofW (ws.map (·.2)) x.r.cm r.lo by omega)];rfl
       have kl7:=s7 _ _ (s6 _ _ kl5)
       have cat:=bagN (bs:=bs) (w:=r.lo) (by omega) (by omega)
       refine ⟨_,rfl,_,rfl,l,_,_,_,rfl,congrArg V.int (Int.toNat_of_nonneg (by omega)).symm,SqL.of kl7,cat,_,rfl,_,rfl,_,_,rfl,rfl,_,_,rfl,rfl,l,_,_,r.lo.toNat,rfl,rfl,kl7,ixNI (by omega) (by rw [zA];omega),?_⟩
       exact ⟨_,⟨_,_,_,_,_,rfl⟩,⟨ok,rfl⟩,by rw [zq],by rw [yy,yL],Same.put hlf sm7,(tp.trans (Tups.same (s6.trans s7))).trans (Tups.set kl7)⟩
     ·refine iteB1 (by rw [decide_eq_false c2];rfl) (none (by unfold goesB;rw [decide_eq_false c2];simp))
    ·refine iteB0 (decide_eq_false c1) ⟨_,rfl,iteB1 rfl (none (by unfold goesB;rw [decide_eq_false c1];rfl))⟩
   | 1,hv,tI=>
    obtain rfl:=Option.some.inj hv
    obtain ⟨g1,ecs⟩:goesB bs r.lo _ _=true/\cs=_:=tI
    refine ⟨u2,_,rfl,SqT.of (tp _ _ k2),rfl,_,_,rfl,_,_,rfl,_,_,rfl,rfl,?_⟩
    refine ⟨_,rfl,_,rfl,_,rfl,_,rfl,ll,x.b,ls,x.r.bg,r.hi,rfl,hl.same sm5,sm5 _ _ hx.b,eb,l100,λH6 s6=>⟨_,_,rfl,rfl,?_⟩⟩
    have sm6:=sm5.trans s6
    refine ⟨_,rfl,_,rfl,_,rfl,_,rfl,lw,x.c,ws,x.r.cm,r.hi,rfl,hw.same sm6,sm6 _ _ hx.c,ec,w100,λH7 s7=>⟨_,_,rfl,rfl,?_⟩⟩
    have sm7:=sm6.trans s7
    refine ⟨_,rfl,_,_,rfl,rfl,_,rfl,?_⟩
    have none:goesB bs r.hi (x.r.bk - ofW (ls.map (·.2)) x.r.bg r.hi) (x.r.th - ofW (ws.map (·.2)) x.r.cm r.hi)=false->Q .non H7:=λe=>q0 (by unfold behindF;rw [e,yr];rfl) _ sm7
    have bat:=bagA (bs:=bs) (w:=r.hi) (by omega) (by omega)
    by_cases c1:0<=x.r.bk - ofW (ls.map (·.2)) x.r.bg r.hi
    ·refine iteB1 (decide_eq_true c1) ⟨_,rfl,_,rfl,lb,_,_,_,rfl,rfl,SqL.of (sm7 _ _ hlb),bat,_,_,rfl,rfl,_,rfl,?_⟩
     by_cases c2:x.r.bk - ofW (ls.map (·.2)) x.r.bg r.hi<=bag bs r.hi
     ·refine iteB0 (by rw [decide_eq_true c2];rfl) ⟨_,rfl,_,_,rfl,rfl,_,rfl,?_⟩
      by_cases c3:x.r.th - ofW (ws.map (·.2)) x.r.cm r.hi < 0
      ·exact iteB1 (decide_eq_true c3) (none (by unfold goesB;rw [decide_eq_false (show ¬ 0<=x.r.th - ofW (ws.map (·.2)) x.r.cm r.hi by omega)];simp))
      ·refine iteB0 (decide_eq_false c3) ?_
       have ok:goesB bs r.hi (x.r.bk - ofW (ls.map (·.2)) x.r.bg r.hi) (x.r.th - ofW (ws.map (·.2)) x.r.cm r.hi)=true:=by unfold goesB;rw [decide_eq_true c1,decide_eq_true c2,decide_eq_true (show 0<=x.r.th - ofW (ws.map (·.2)) x.r.cm r.hi by omega)];rfl
       have kl7:=s7 _ _ (s6 _ _ kl5)
       have cat:=bagN (bs:=cs) (w:=r.hi) (by omega) (by omega)
       refine ⟨_,rfl,_,rfl,l,_,_,_,rfl,congrArg V.int (Int.toNat_of_nonneg (by omega)).symm,SqL.of kl7,cat,_,rfl,_,rfl,_,_,rfl,rfl,_,_,rfl,rfl,l,_,_,r.hi.toNat,rfl,rfl,kl7,ixNI (by omega) (by rw [zA];omega),?_⟩
       exact ⟨cs.set r.hi.toNat (bag cs r.hi + ((x.r.th - ofW (ws.map (·.2)) x.r.cm r.hi) - (x.r.bk - ofW (ls.map (·.2)) x.r.bg r.hi))),⟨_,_,_,_,_,rfl⟩,⟨g1,ok,by rw [ecs,bagS b0 (by omega) (by omega)]⟩,by rw [zq];exact lc,by rw [yy,yL],Same.put hlf sm7,(tp.trans (Tups.same (s6.trans s7))).trans (Tups.set kl7)⟩
     ·refine iteB1 (by rw [decide_eq_false c2];rfl) (none (by unfold goesB;rw [decide_eq_false c2];simp))
    ·refine iteB0 (decide_eq_false c1) ⟨_,rfl,iteB1 rfl (none (by unfold goesB;rw [decide_eq_false c1];rfl))⟩
   | n + 2,hv,_=>exact absurd hv (by simp)
  ·rintro σ H5 ⟨cs,⟨v14,v15,v16,v17,v18,rfl⟩,⟨g1,g2,ecs⟩,lc,kl5,sm5,tp⟩
   exact ⟨_,rfl,q cs (by unfold behindF;rw [g1,g2,ecs];rfl) l _ hlf sm5 kl5⟩
theorem Cs:FnScope ["book", "loads", "wants", "rows", "bags", "meeting", "row"] ["book", "loads", "wants", "rows"] (defScope wJ):=⟨rfl,rfl,rfl,by decide +kernel,rfl,by decide +kernel,by decide +kernel⟩
theorem Ek (T:Tx K mg a):FnOk P w K mg base CX0 3 a.Ap a.AF ["book", "loads", "wants", "rows"] (spKept):=by
 have Dw:=@Da P w _ _ base _ T
 have Fs:=@E1 P w _ _ base _ T
 refine T.Ax.ok Cs (λvs H Q E h=>?_) (λcdv A outer s H vs Q E hr h=>?_)
 ·obtain ⟨_,_,_,_,_,_,_,_,_,_,_,rfl,_⟩:=h;rfl
 ·have nd:=Cs.nd
  have hu:=hr.units
  obtain ⟨b,ll,lw,lr,rooms,tr,tm,ps,ls,ws,xs,rfl,hb,gd,r100,hl,hw,l100,w100,hr1,hx,lx,fx,q⟩:=h
  refine ⟨_,(@xI _ _ _ (@xO _ _ _ _ _ _ (ps_setComp (ix:=4) nd rfl (by first | exact Or.inl rfl | exact Or.inr rfl) (own:=["room"]) (caps:=[]) rfl (show CompScope ["room"] [] ["book", "loads", "wants", "rows", "bags", "meeting", "row"] (defScope wJ) _ from ⟨rfl,by decide +kernel,by decide +kernel,by decide +kernel,by decide +kernel⟩) (@pi_tup'' _ _ _ _ _ rfl (@xM _ _ _ _ _ _ _ (xQ rfl) (pv 0) yz (λ_ _=>rfl))) (λ_ _ _ _=>(xC (i:=0) (show List.Nodup (["room"]:List Str) from by decide +kernel) rfl (by first | exact Or.inl rfl | exact Or.inr rfl))) (λ_ _ _ _=>xk) (λ_ _ _ _=>yz)) (@xO _ _ _ _ _ _ (ps_for PassesOwn.never rfl (pi_zipN rfl rfl T.b_zip (@yw _ _ _ (@yx _ _ _ _ _ (@xM _ _ _ _ _ _ _ (xQ rfl) (pv 0) yz (λ_ _=>rfl)) (@yx _ _ _ _ _ (pv 3) xE rfl) rfl))) (xX (n:=2) rfl rfl (xD (xC (i:=5) nd rfl (by first | exact Or.inl rfl | exact Or.inr rfl)) (xD (xC (i:=6) nd rfl (by first | exact Or.inl rfl | exact Or.inr rfl)) xW))) (@xI _ _ _ (@xO _ _ _ _ _ _ (@xZ _ _ _ _ _ _ _ _ (@wC _ _ _ _ (xx (xF Dw (hr.mono (by decide)) rfl T.Do T.Dq T.Ds .nil pass0 (@yw _ _ _ (@yx _ _ _ _ _ (pv 5) (@yx _ _ _ _ _ (pv 1) (@yx _ _ _ _ _ (pv 2) (@yx _ _ _ _ _ (pv 6) xE rfl) rfl) rfl) rfl))))) (@xI _ _ _ (@xT _ _ _ (@xR _ _ _ _ pe_bl))) xS) (@xO _ _ _ _ _ _ (xK (i:=4) nd rfl (by first | exact Or.inl rfl | exact Or.inr rfl) (xF Fs (hr.mono (by decide)) rfl T.Fi T.Fk T.Fm .nil pass0 (@yw _ _ _ (@yx _ _ _ _ _ (pv 4) (@yx _ _ _ _ _ (pv 5) (@yx _ _ _ _ _ (pv 1) (@yx _ _ _ _ _ (pv 2) (@yx _ _ _ _ _ (pv 6) xE rfl) rfl) rfl) rfl) rfl)))) (@xT _ _ _ (@xZ _ _ _ _ _ _ _ _ (@PW.pt _ _ _ (@pw_or _ _ _ _ _ _ _ (pt_cmp (@pc_isN _ _ _ _ _ (pv 4))) (@wO _ _ _ _ (@wC _ _ _ _ (xx (xH (call_all rfl rfl) (by rfl) T.b_all yR (@yw _ _ _ (@yx _ _ _ _ _ (xt (own:=["bag", "room"]) (caps:=[]) rfl (show CompScope ["bag", "room"] [] ["book", "loads", "wants", "rows", "bags", "meeting", "row"] (defScope wJ) _ from ⟨rfl,by decide +kernel,by decide +kernel,by decide +kernel,by decide +kernel⟩) (pi_zipM rfl rfl T.b_zip (@yw _ _ _ (@yx _ _ _ _ _ (pv 4) (@yx _ _ _ _ _ (@xM _ _ _ _ _ _ _ (xQ rfl) (pv 0) yz (λ_ _=>rfl)) xE rfl) rfl))) (λ_ _ _ _=>(xX (n:=2) rfl rfl (xD (xC (i:=0) (show List.Nodup (["bag", "room"]:List Str) from by decide +kernel) rfl (by first | exact Or.inl rfl | exact Or.inr rfl)) (xD (xC (i:=1) (show List.Nodup (["bag", "room"]:List Str) from by decide +kernel) rfl (by first | exact Or.inl rfl | exact Or.inr rfl)) xW)))) (λ_ _ _ _=>xk) (λ_ _ _ _=>(@wE _ _ _ _ _ _ _ _ op_le (pv 0) (pv 1) (nomark _)))) xE rfl)))))))) (@xI _ _ _ (@xT _ _ _ (@xR _ _ _ _ pe_bl))) xS)))))) (@xT _ _ _ (@xR _ _ _ _ pe_bl))))),?_⟩
  have line:=line9
  have m60:=gd.len
  refine (zr rfl (ixt hb.book rfl ⟨tr,rfl,⟨_,SqT.of hb.rooms⟩,?_⟩))
  refine comp_tup (K:=K) (a:=tr) (xs:=rooms.map V.int) (λi τ acc H5=>(∃ t0,τ=[t0])/\acc=(List.replicate i (0:Int)).map V.int/\H5=H) ⟨⟨_,rfl⟩,rfl,rfl⟩ (by rw [zA];omega) ?_ ?_ ?_
  ·rintro i τ acc H5 ⟨_,rfl,rfl⟩
   exact ⟨by simp,SqT.of hb.rooms⟩
  ·rintro i v τ acc H5 C hv ⟨⟨t0,rfl⟩,rfl,rfl⟩ hC
   refine hC _ _ _ ⟨⟨_,rfl⟩,?_,rfl⟩
   rw [ye,zB];rfl
  rintro τ acc H5 ⟨⟨t0,rfl⟩,rfl,rfl⟩ l0 hl0
  rw [zA]
  have s1:=xB (o:=HO.lst ((List.replicate rooms.length (0:Int)).map V.int)) hl0
  have k0:upd H5 l0 (HO.lst ((List.replicate rooms.length (0:Int)).map V.int)) l0=some (.lst ((List.replicate rooms.length (0:Int)).map V.int)):=yy
  generalize upd H5 l0 (HO.lst ((List.replicate rooms.length (0:Int)).map V.int))=H1 at s1 k0 ⊢
  have hb1:=hb.same s1
  refine (zr rfl (ixt hb1.book rfl (zr rfl ⟨tm,lr,rfl,⟨_,SqT.of hb1.meets⟩,⟨_,SqL.of (s1 _ _ hr1)⟩,?_⟩)))
  refine for_zipN (K:=K) (a:=tm) (b:=lr) (xs:=ps.map λa=>V.ref a.1) (ys:=xs.map λx=>V.ref x.a) (by rw [zA,zA,lx]) (λi σ H6=>∃ lb cs,(∃ v5 v6,σ=[some (.ref b),some (.ref ll),some (.ref lw),some (.ref lr),some (.ref lb),v5,v6])/\H6 lb=some (.lst (cs.map V.int))/\cs.length=rooms.length/\keptF rooms (ls.map (·.2)) (ws.map (·.2)) ((ps.map (·.2)).zip (xs.map (·.r))) (List.replicate rooms.length 0)=keptF rooms (ls.map (·.2)) (ws.map (·.2)) (((ps.map (·.2)).zip (xs.map (·.r))).drop i) cs/\Same H5 H6) ⟨l0,_,⟨_,_,rfl⟩,k0,by rw [zX],rfl,s1⟩ ?_ ?_ ?_
  ·rintro i σ H6 _ ⟨lb,cs,_,_,_,_,sm⟩
   exact ⟨SqT.of (sm _ _ hb.meets),SqL.of (sm _ _ hr1)⟩
  ·rintro i x1 y1 z σ H6 hx1 hy1 hz ⟨lb,cs,⟨v5,v6,rfl⟩,kb,lcs,eqk,sm⟩
   obtain ⟨r,hr,rfl⟩:=xU hx1
   obtain ⟨x,hxx,rfl⟩:=xU hy1
   have mr:=zD hr
   have mx:=zD hxx
   have zi:((ps.map (·.2)).zip (xs.map (·.r)))[i]?=some (r.2,x.r):=zip_at (map2_at hr) (by rw [zG,hxx];rfl)
   rw [drop_at zi,keptF_cons] at eqk
   have s6:=xB (o:=HO.tup [V.ref r.1,V.ref x.a]) hz
   refine (un2 yy ?_)
   have kb:=s6 _ _ kb
   have sm:=sm.trans s6
   generalize upd H6 z (HO.tup [V.ref r.1,V.ref x.a])=H7 at sm kb ⊢
   obtain ⟨f1,f2⟩:=fx x mx
   refine (zr rfl (zr rfl (zr rfl (zr rfl ⟨r.1,r.2,ll,lw,ls,ws,x,rfl,sm _ _ (hb.rows r mr),hl.same sm,hw.same sm,l100,w100,(hx x mx).same sm,f1,f2,λH8 s8=>(zr rfl ?_)⟩))))
   have sm8:=sm.trans s8
   cases cw:withinB r.2 (ls.map (·.2)) (ws.map (·.2)) x.r with
   | false=>
    rw [cw,yK] at eqk
    rw [eqk] at q
    exact iteB1 rfl (q _ sm8)
   | true=>
    rw [cw,yT] at eqk
    obtain ⟨a1,a2,a3,_⟩:=gd.at mr
    refine iteB0 rfl (zr rfl (zr rfl (zr rfl (zr rfl (zr rfl ⟨lb,cs,r.1,r.2,ll,lw,ls,ws,x,rfl,s8 _ _ kb,⟨a1,a2,by omega⟩,by omega,sm8 _ _ (hb.rows r mr),hl.same sm8,hw.same sm8,l100,w100,(hx x mx).same sm8,f1,f2,λe H9 s9=>?_,λds e pl H9 hpl s9 kpl=>?_⟩)))))
    ·rw [e] at eqk
     rw [eqk] at q
     exact (zr rfl (zr rfl (iteB1 rfl (iteB1 rfl (q _ (sm8.trans s9))))))
    ·rw [e] at eqk
     have lds:=behindF_len e
     have sm9:=sm8.trans s9
     have hb9:=hb.same sm9
     refine (zr rfl (zr rfl (iteB0 rfl (zr rfl (zr rfl (ixt hb9.book rfl ⟨pl,tr,rfl,⟨_,SqL.of kpl⟩,⟨_,SqT.of hb9.rooms⟩,?_⟩))))))
     refine comp_zipM (K:=K) (a:=pl) (b:=tr) (xs:=ds.map V.int) (ys:=rooms.map V.int) (by rw [zA,zA];omega) (λi τ acc H5=>(∃ t0 t1,τ=[t0,t1])/\acc=((((ds.zip rooms).take i).map λp=>decide (p.1<=p.2))).map V.bl/\Same H9 H5) ⟨⟨_,_,rfl⟩,rfl,Same.refl _⟩ (by rw [zA];omega) ?_ ?_ ?_
     ·rintro i τ acc H5 ⟨_,rfl,sm⟩
      refine ⟨?_,SqL.of (sm _ _ kpl),SqT.of (sm _ _ hb9.rooms)⟩
      rw [zA,zA,zR];omega
     ·rintro i x y z τ acc H5 C hx hy hz ⟨⟨t0,t1,rfl⟩,rfl,sm⟩ hC
      obtain ⟨x2,hx2,rfl⟩:=xU hx
      obtain ⟨y2,hy2,rfl⟩:=xU hy
      refine (un2 yy ?_)
      refine (zr rfl (zr rfl (zr2 rfl rfl (hC _ _ _ ⟨⟨_,_,rfl⟩,?_,sm.trans (xB hz)⟩))))
      rw [xY (zip_at hx2 hy2),zB,zB];rfl
     ·rintro τ acc H10 ⟨⟨t0,t1,rfl⟩,rfl,sm10⟩ lc hlc
      have e2:(ds.map V.int).length=(ds.zip rooms).length:=by rw [zA,zip_len (by omega)]
      rw [e2,zY]
      have s11:=xB (o:=HO.lst (((ds.zip rooms).map λp=>decide (p.1<=p.2)).map V.bl)) hlc
      refine ⟨lc,zr rfl ⟨SqL.of yy,zr rfl ?_⟩⟩
      rw [List.all_map]
      have kpl:=s11 _ _ (sm10 _ _ kpl)
      have sm11:=sm9.trans (sm10.trans s11)
      generalize upd H10 lc _=H11 at kpl sm11 ⊢
      cases ca:(ds.zip rooms).all λp=>decide (p.1<=p.2) with
      | false=>
       have eqk:_=(((ds.zip rooms).all λp=>decide (p.1<=p.2)) && _):=eqk
       rw [ca,yK] at eqk
       rw [eqk] at q
       exact iteB1 (by show (!((ds.zip rooms).all λp=>decide (p.1<=p.2)))=true;rw [ca];rfl) (q _ sm11)
      | true=>
       have eqk:_=(((ds.zip rooms).all λp=>decide (p.1<=p.2)) && _):=eqk
       rw [ca,yT] at eqk
       exact iteB0 (by show (!((ds.zip rooms).all λp=>decide (p.1<=p.2)))=false;rw [ca];rfl) ⟨pl,ds,⟨_,_,rfl⟩,kpl,by omega,eqk,sm11⟩
  ·rintro σ H6 ⟨lb,cs,⟨v5,v6,rfl⟩,kb,lcs,eqk,sm⟩
   have e2:(ps.map λa=>V.ref a.1).length=((ps.map (·.2)).zip (xs.map (·.r))).length:=by rw [zA,zip_len (by rw [zA,zA,lx]),zA]
   rw [e2,List.drop_length] at eqk
   rw [eqk] at q
   exact q _ sm
theorem Ft:FnScope ["size", "rows", "straight", "sums", "place", "many"] ["size", "rows", "straight"] (defScope DY):=⟨rfl,rfl,rfl,by decide +kernel,rfl,by decide +kernel,by decide +kernel⟩
theorem GL (T:Tx K mg a):FnOk P w K mg base CX0 1 a.B3 a.Cz ["size", "rows", "straight"] (spTotals):=by
 refine T.Ch.ok Ft (λvs H Q E h=>?_) (λcdv A outer s H vs Q E hr h=>?_)
 ·obtain ⟨_,_,_,_,_,rfl,_⟩:=h;rfl
 ·have nd:=Ft.nd
  have hu:=hr.units
  obtain ⟨n,lr,ls,rs,ts,rfl,n100,hr1,hx,x60,hs1,ht,t100,q⟩:=h
  refine ⟨_,(@xI _ _ _ (@xO _ _ _ _ _ _ (ps_setCompC (ix:=3) nd rfl (by first | exact Or.inl rfl | exact Or.inr rfl) (own:=["place"]) (caps:=[1]) rfl (show CompScopeC ["place"] [1] ["size", "rows", "straight", "sums", "place", "many"] (defScope DY) _ from ⟨rfl,by decide +kernel,by decide +kernel,by decide +kernel,by decide +kernel⟩) (wM rfl T.b_range (@yw _ _ _ (@yx _ _ _ _ _ (pv 0) xE rfl))) (λ_ _ _ _=>(xC (i:=0) (show List.Nodup (["place", "rows"]:List Str) from by decide +kernel) rfl (by first | exact Or.inl rfl | exact Or.inr rfl))) (λ_ _ _ _=>xk) (λ_ _ _ _=>(xH (call_sumLK rfl rfl) (by rfl) T.b_sum yD (@yw _ _ _ (@yx _ _ _ _ _ (xt (own:=["row"]) (caps:=[0]) rfl (show CompScope ["row"] [0] ["place", "rows"] (relabel _ _) _ from CompScope.inn rfl (by decide +kernel) (by decide +kernel) (by decide +kernel) (by decide +kernel)) (@xm _ _ _ _ _ rfl (pv 1)) (λ_ _ _ _=>(xC (i:=0) (show List.Nodup (["row", "place"]:List Str) from by decide +kernel) rfl (by first | exact Or.inl rfl | exact Or.inr rfl))) (λ_ _ _ _=>xk) (λ_ _ _ _=>(@xM _ _ _ _ _ _ _ (xL rfl) (pv 0) (pv 1) (λ_ _=>rfl)))) xE rfl))))) (@xO _ _ _ _ _ _ (ps_for PassesOwn.never rfl (@xm _ _ _ _ _ rfl (pv 2)) (xX (n:=2) rfl rfl (xD (xC (i:=4) nd rfl (by first | exact Or.inl rfl | exact Or.inr rfl)) (xD (xC (i:=5) nd rfl (by first | exact Or.inl rfl | exact Or.inr rfl)) xW))) (@xI _ _ _ (@xT _ _ _ (ps_augS (pv 3) (pv 4) (get_list rfl) (pv 5) ip_add xr)))) (@xT _ _ _ (@xR _ _ _ _ (pv 3)))))),?_⟩
  have line:=line9
  refine (zr rfl (zr rfl ⟨by omega,by omega,?_⟩))
  refine comp_range (lo:=0) (m:=n) (λi τ acc H5=>(∃ t0,τ=[t0,some (.ref lr)])/\acc=((totF n (rs.map (·.2)) []).take i).map V.int/\Same H H5) ⟨⟨_,rfl⟩,rfl,Same.refl _⟩ (by omega) ?_ ?_ ?_
  ·rintro i τ acc H5 ⟨_,rfl,sm⟩
   rw [zA,zR];omega
  ·rintro i τ acc H5 C hi ⟨⟨t0,rfl⟩,rfl,sm⟩ hC
   refine (zr rfl ⟨lr,rfl,⟨_,SqL.of (sm _ _ hr1)⟩,?_⟩)
   refine xj (K:=K) (a:=lr) (xs:=rs.map λx=>V.ref x.1) (λj τ acc H6=>(∃ t0,τ=[t0,some (.int (0 + (i:Int)))])/\acc=(((rs.map (·.2)).take j).map λr=>r.getD i 0).map V.int/\Same H5 H6) ⟨⟨_,rfl⟩,rfl,Same.refl _⟩ (by rw [zA];omega) ?_ ?_ ?_
   ·rintro j τ acc H6 ⟨_,rfl,s6⟩
    exact ⟨by rw [zA,zA,zR];omega,SqL.of (s6 _ _ (sm _ _ hr1))⟩
   ·rintro j v τ acc H6 C2 hv ⟨⟨t1,rfl⟩,rfl,s6⟩ hC2
    obtain ⟨x,hxx,rfl⟩:=xU hv
    obtain ⟨kx,lx⟩:=hx x (zD hxx)
    refine (zr rfl (zr rfl (ixl (s6 _ _ (sm _ _ kx)) (by rw [yH];exact xh (v:=V.int (x.2.getD i 0)) (by rw [zG,zP,zH (by omega)];rfl)) (hC2 _ _ _ ⟨⟨_,rfl⟩,?_,s6⟩))))
    rw [xY (map2_at hxx),zB,zB];rfl
   ·rintro τ2 acc2 H6 ⟨⟨t1,rfl⟩,rfl,s6⟩ lc hlc
    have e:(rs.map λx=>V.ref x.1).length=(rs.map (·.2)).length:=by rw [zA,zA]
    rw [e,zY]
    refine ⟨lc,zr rfl ⟨SqL.of yy,hC _ _ _ ⟨⟨_,rfl⟩,?_,sm.trans (s6.trans (xB hlc))⟩⟩⟩
    rw [xY (totF_at hi),zB]
    simp
  rintro τ acc H5 ⟨⟨t0,rfl⟩,rfl,sm⟩ l hl
  rw [show List.take n (totF n (rs.map (·.2)) [])=totF n (rs.map (·.2)) [] from List.take_of_length_le (by rw [wH];exact zF _)]
  have sm1:=sm.trans (xB (o:=HO.lst ((totF n (rs.map (·.2)) []).map V.int)) hl)
  have kl:upd H5 l (HO.lst ((totF n (rs.map (·.2)) []).map V.int)) l=some (.lst ((totF n (rs.map (·.2)) []).map V.int)):=yy
  have nl:H l=none:=by
   cases z:H l with
   | none=>rfl
   | some u=>rw [sm _ _ z] at hl;cases hl
  generalize upd H5 l (HO.lst ((totF n (rs.map (·.2)) []).map V.int))=H1 at sm1 kl ⊢
  refine (zr rfl ⟨ls,rfl,⟨_,SqL.of (sm1 _ _ hs1)⟩,?_⟩)
  refine for_list (K:=K) (a:=ls) (xs:=ts.map λx=>V.ref x.1) (λi σ H6=>(∃ v4 v5,σ=[some (.int n),some (.ref lr),some (.ref ls),some (.ref l),v4,v5])/\H6 l=some (.lst ((totF n (rs.map (·.2)) ((ts.map (·.2)).take i)).map V.int))/\Same H H6) ⟨⟨_,_,rfl⟩,kl,sm1⟩ ?_ ?_ ?_
  ·rintro i σ H6 _ ⟨_,_,s6⟩
   exact SqL.of (s6 _ _ hs1)
  ·rintro i v σ H6 hv ⟨⟨v4,v5,rfl⟩,k6,s6⟩
   obtain ⟨x,hxx,rfl⟩:=xU hv
   obtain ⟨kx,x0,x1⟩:=ht x (zD hxx)
   obtain ⟨k,ek⟩:=ze x0
   have hk:k < n:=by omega
   have hat:=totF_at (rows:=rs.map (·.2)) (ps:=(ts.map (·.2)).take i) hk
   refine (un2 (s6 _ _ kx) ?_)
   refine (zr rfl (zr rfl ⟨l,_,_,k,rfl,congrArg V.int ek,SqL.of k6,by rw [zG,hat];rfl,zr rfl (zr2 rfl rfl ⟨l,_,_,k,rfl,rfl,k6,by rw [ek];exact ixN_nat (by rw [zA,wH];exact hk),⟨_,_,rfl⟩,?_,Same.put nl s6⟩)⟩))
   rw [yy,xY (map2_at hxx),show x.2=((k:Int),x.2.2) by rw [<-ek],totF_snoc hk hat,yL]
  ·rintro σ H6 ⟨⟨v4,v5,rfl⟩,k6,s6⟩
   have e:(ts.map λx=>V.ref x.1).length=(ts.map (·.2)).length:=by rw [zA,zA]
   rw [e,zY] at k6
   exact (zr rfl (q l H6 nl s6 k6))
theorem Ci:FnScope ["sums", "parts"] ["sums", "parts"] (defScope wN):=⟨rfl,rfl,rfl,by decide +kernel,rfl,by decide +kernel,by decide +kernel⟩
theorem DZ (T:Tx K mg a):FnOk P w K mg base CX0 1 a.Ak a.AC ["sums", "parts"] (spUptoM):=by
 refine T.As.ok Ci (λvs H Q E h=>?_) (λcdv A outer s H vs Q E hr h=>?_)
 ·obtain ⟨_,_,_,_,rfl,_⟩:=h;rfl
 ·have nd:=Ci.nd
  have hu:=hr.units
  obtain ⟨l,a,ns,ps,rfl,hl,ha,en,l100,q⟩:=h
  refine ⟨_,(@xI _ _ _ (@xT _ _ _ (@xR _ _ _ _ (xH (call_all rfl rfl) (by rfl) T.b_all yR (@yw _ _ _ (@yx _ _ _ _ _ (xt (own:=["total", "part"]) (caps:=[]) rfl (show CompScope ["total", "part"] [] ["sums", "parts"] (defScope wN) _ from ⟨rfl,by decide +kernel,by decide +kernel,by decide +kernel,by decide +kernel⟩) (pi_zipL rfl rfl T.b_zip (@yw _ _ _ (@yx _ _ _ _ _ (pv 0) (@yx _ _ _ _ _ (pv 1) xE rfl) rfl))) (λ_ _ _ _=>(xX (n:=2) rfl rfl (xD (xC (i:=0) (show List.Nodup (["total", "part"]:List Str) from by decide +kernel) rfl (by first | exact Or.inl rfl | exact Or.inr rfl)) (xD (xC (i:=1) (show List.Nodup (["total", "part"]:List Str) from by decide +kernel) rfl (by first | exact Or.inl rfl | exact Or.inr rfl)) xW)))) (λ_ _ _ _=>xk) (λ_ _ _ _=>(@wE _ _ _ _ _ _ _ _ op_le (pv 0) (@xM _ _ _ _ _ _ _ (xQ rfl) (pv 1) yz (λ_ _=>rfl)) (nomark _)))) xE rfl)))))),?_⟩
  have line:=line9
  refine (zr rfl (zr rfl ⟨l,a,rfl,⟨_,SqL.of hl⟩,⟨_,SqL.of ha.l⟩,?_⟩))
  refine comp_zipL (K:=K) (a:=l) (b:=a) (xs:=List.map V.int ns) (ys:=ps.map λa=>V.ref a.1) (by rw [zA,zA,en]) (λi τ acc H5=>(∃ t0 t1,τ=[t0,t1])/\acc=((((ns.zip (ps.map (·.2))).take i).map λp=>decide (p.1<=p.2.m))).map V.bl/\Same H H5) ⟨⟨_,_,rfl⟩,rfl,Same.refl _⟩ (by rw [zA];omega) ?_ ?_ ?_
  ·rintro i τ acc H5 ⟨_,rfl,sm⟩
   refine ⟨?_,SqL.of (sm _ _ hl),SqL.of (sm _ _ ha.l)⟩
   rw [zA,zA,zR];omega
  ·rintro i x y z τ acc H5 C hx hy hz ⟨⟨t0,t1,rfl⟩,rfl,sm⟩ hC
   obtain ⟨x2,hx2,rfl⟩:=xU hx
   obtain ⟨r,hr,rfl⟩:=xU hy
   have sm6:=sm.trans (xB (o:=HO.tup [V.int x2,V.ref r.1]) hz)
   refine (un2 yy ?_)
   refine (zr rfl (zr rfl (ixt (sm6 _ _ (ha.each r (zD hr))) rfl (zr2 rfl rfl (hC _ _ _ ⟨⟨_,_,rfl⟩,?_,sm6⟩)))))
   rw [xY (zip_at hx2 (map2_at hr)),zB,zB];rfl
  ·rintro τ acc H5 ⟨⟨t0,t1,rfl⟩,rfl,sm⟩ lc hlc
   refine ⟨lc,zr rfl ⟨SqL.of yy,?_⟩⟩
   have e:(List.map V.int ns).length=(ns.zip (ps.map (·.2))).length:=by rw [zA,zip_len (by rw [zA,en])]
   rw [e,zY,List.all_map]
   exact q _ (sm.trans (xB hlc))
theorem Dy:FnScope ["book", "loads", "wants", "thing", "rows", "straight", "left", "came"] ["book", "loads", "wants", "thing"] (defScope wG):=⟨rfl,rfl,rfl,by decide +kernel,rfl,by decide +kernel,by decide +kernel⟩
theorem Fc (T:Tx K mg a):FnOk P w K mg base CX0 6 a.AI a.Bw ["book", "loads", "wants", "thing"] (spWorth):=by
 have EW:=@Ej P w _ _ base _ T
 have Ef:=@DI P w _ _ base _ T
 have EX:=@Ek P w _ _ base _ T
 have Gr:=@GL P w _ _ base _ T
 have CB:=@DZ P w _ _ base _ T
 refine T.Ba.ok Dy (λvs H Q E h=>?_) (λcdv A outer s H vs Q E hr h=>?_)
 ·obtain ⟨_,_,_,_,_,_,_,_,_,_,_,_,_,_,rfl,_⟩:=h;rfl
 ·have nd:=Dy.nd
  have hu:=hr.units
  obtain ⟨b,ll,lw,p,rooms,tr,tm,ps,ls,ws,lr,lt,xs,ts,rfl,hb,gd,r100,hl,hw,hp,ok,nd2,q⟩:=h
  refine ⟨_,(@xI _ _ _ (@xO _ _ _ _ _ _ (@xZ _ _ _ _ _ _ _ _ (@wC _ _ _ _ (xx (xF EW (hr.mono (by decide)) rfl T.EI T.EL T.EO .nil pass0 (@yw _ _ _ (@yx _ _ _ _ _ (pv 0) (@yx _ _ _ _ _ (pv 1) (@yx _ _ _ _ _ (pv 2) (@yx _ _ _ _ _ (pv 3) xE rfl) rfl) rfl) rfl))))) (@xI _ _ _ (@xT _ _ _ (@xR _ _ _ _ pe_non))) xS) (@xO _ _ _ _ _ _ (xo (pv 3) (xX (n:=2) rfl rfl (xD (xC (i:=4) nd rfl (by first | exact Or.inl rfl | exact Or.inr rfl)) (xD (xC (i:=5) nd rfl (by first | exact Or.inl rfl | exact Or.inr rfl)) xW)))) (@xO _ _ _ _ _ _ (@xZ _ _ _ _ _ _ _ _ (@PW.pt _ _ _ (@pw_or _ _ _ _ _ _ _ (@wC _ _ _ _ (xx (xF Ef (hr.mono (by decide)) rfl T.D1 T.D5 T.D9 .nil pass0 (@yw _ _ _ (@yx _ _ _ _ _ (pv 1) (@yx _ _ _ _ _ (pv 2) (@yx _ _ _ _ _ (pv 5) xE rfl) rfl) rfl))))) (@wO _ _ _ _ (@wC _ _ _ _ (xx (xF EX (hr.mono (by decide)) rfl T.EJ T.EM T.EQ .nil pass0 (@yw _ _ _ (@yx _ _ _ _ _ (pv 0) (@yx _ _ _ _ _ (pv 1) (@yx _ _ _ _ _ (pv 2) (@yx _ _ _ _ _ (pv 4) xE rfl) rfl) rfl) rfl)))))))) (@xI _ _ _ (@xT _ _ _ (@xR _ _ _ _ pe_non))) xS) (@xO _ _ _ _ _ _ (xK (i:=6) nd rfl (by first | exact Or.inl rfl | exact Or.inr rfl) (xF Gr (hr.mono (by decide)) rfl T.FR T.FY T.F8 .nil pass0 (@yw _ _ _ (@yx _ _ _ _ _ (xH (xJ rfl) (by rfl) T.b_len PySem.boot_len (@yw _ _ _ (@yx _ _ _ _ _ (pv 1) xE rfl))) (@yx _ _ _ _ _ (xt (own:=["row"]) (caps:=[]) rfl (show CompScope ["row"] [] ["book", "loads", "wants", "thing", "rows", "straight", "left", "came"] (defScope wG) _ from ⟨rfl,by decide +kernel,by decide +kernel,by decide +kernel,by decide +kernel⟩) (@xm _ _ _ _ _ rfl (pv 4)) (λ_ _ _ _=>(xC (i:=0) (show List.Nodup (["row"]:List Str) from by decide +kernel) rfl (by first | exact Or.inl rfl | exact Or.inr rfl))) (λ_ _ _ _=>xk) (λ_ _ _ _=>(@xM _ _ _ _ _ _ _ (xQ rfl) (pv 0) yz (λ_ _=>rfl)))) (@yx _ _ _ _ _ (xt (own:=["load", "want", "many"]) (caps:=[]) rfl (show CompScope ["load", "want", "many"] [] ["book", "loads", "wants", "thing", "rows", "straight", "left", "came"] (defScope wG) _ from ⟨rfl,by decide +kernel,by decide +kernel,by decide +kernel,by decide +kernel⟩) (@xm _ _ _ _ _ rfl (pv 5)) (λ_ _ _ _=>(xX (n:=3) rfl rfl (xD (xC (i:=0) (show List.Nodup (["load", "want", "many"]:List Str) from by decide +kernel) rfl (by first | exact Or.inl rfl | exact Or.inr rfl)) (xD (xC (i:=1) (show List.Nodup (["load", "want", "many"]:List Str) from by decide +kernel) rfl (by first | exact Or.inl rfl | exact Or.inr rfl)) (xD (xC (i:=2) (show List.Nodup (["load", "want", "many"]:List Str) from by decide +kernel) rfl (by first | exact Or.inl rfl | exact Or.inr rfl)) xW))))) (λ_ _ _ _=>xk) (λ_ _ _ _=>(@xp _ _ _ _ _ (@yw _ _ _ (@yx _ _ _ _ _ (pv 0) (@yx _ _ _ _ _ (pv 2) xE rfl) rfl))))) xE rfl) rfl) rfl)))) (@xO _ _ _ _ _ _ (xK (i:=7) nd rfl (by first | exact Or.inl rfl | exact Or.inr rfl) (xF Gr (hr.mono (by decide)) rfl T.FR T.FY T.F8 .nil pass0 (@yw _ _ _ (@yx _ _ _ _ _ (xH (xJ rfl) (by rfl) T.b_len PySem.boot_len (@yw _ _ _ (@yx _ _ _ _ _ (pv 2) xE rfl))) (@yx _ _ _ _ _ (xt (own:=["row"]) (caps:=[]) rfl (show CompScope ["row"] [] ["book", "loads", "wants", "thing", "rows", "straight", "left", "came"] (defScope wG) _ from ⟨rfl,by decide +kernel,by decide +kernel,by decide +kernel,by decide +kernel⟩) (@xm _ _ _ _ _ rfl (pv 4)) (λ_ _ _ _=>(xC (i:=0) (show List.Nodup (["row"]:List Str) from by decide +kernel) rfl (by first | exact Or.inl rfl | exact Or.inr rfl))) (λ_ _ _ _=>xk) (λ_ _ _ _=>(@xM _ _ _ _ _ _ _ (xQ rfl) (pv 0) yz (λ_ _=>rfl)))) (@yx _ _ _ _ _ (xt (own:=["load", "want", "many"]) (caps:=[]) rfl (show CompScope ["load", "want", "many"] [] ["book", "loads", "wants", "thing", "rows", "straight", "left", "came"] (defScope wG) _ from ⟨rfl,by decide +kernel,by decide +kernel,by decide +kernel,by decide +kernel⟩) (@xm _ _ _ _ _ rfl (pv 5)) (λ_ _ _ _=>(xX (n:=3) rfl rfl (xD (xC (i:=0) (show List.Nodup (["load", "want", "many"]:List Str) from by decide +kernel) rfl (by first | exact Or.inl rfl | exact Or.inr rfl)) (xD (xC (i:=1) (show List.Nodup (["load", "want", "many"]:List Str) from by decide +kernel) rfl (by first | exact Or.inl rfl | exact Or.inr rfl)) (xD (xC (i:=2) (show List.Nodup (["load", "want", "many"]:List Str) from by decide +kernel) rfl (by first | exact Or.inl rfl | exact Or.inr rfl)) xW))))) (λ_ _ _ _=>xk) (λ_ _ _ _=>(@xp _ _ _ _ _ (@yw _ _ _ (@yx _ _ _ _ _ (pv 1) (@yx _ _ _ _ _ (pv 2) xE rfl) rfl))))) xE rfl) rfl) rfl)))) (@xO _ _ _ _ _ _ (@xZ _ _ _ _ _ _ _ _ (@PW.pt _ _ _ (@pw_or _ _ _ _ _ _ _ (@wC _ _ _ _ (xx (xF CB (hr.mono (by decide)) rfl T.Cv T.Cw T.Cy .nil pass0 (@yw _ _ _ (@yx _ _ _ _ _ (pv 6) (@yx _ _ _ _ _ (pv 1) xE rfl) rfl))))) (@wO _ _ _ _ (@wC _ _ _ _ (xx (xF CB (hr.mono (by decide)) rfl T.Cv T.Cw T.Cy .nil pass0 (@yw _ _ _ (@yx _ _ _ _ _ (pv 7) (@yx _ _ _ _ _ (pv 2) xE rfl) rfl)))))))) (@xI _ _ _ (@xT _ _ _ (@xR _ _ _ _ pe_non))) xS) (@xT _ _ _ (@xR _ _ _ _ (xH (call_sumL rfl) (by rfl) T.b_sum yD (@yw _ _ _ (@yx _ _ _ _ _ (pv 7) xE rfl)))))))))))),?_⟩
  have line:=line9
  have m60:=ok.m60
  have t100:=ok.t
  have ln:=ok.n
  have okl:=ok.l
  have okw:=ok.w
  refine (zr rfl (zr rfl (zr rfl (zr rfl (ex14 b ll lw p rooms tr tm ps ls ws lr lt xs ts ⟨rfl,hb,hl,hw,hp,ok,λH1 s1=>(zr rfl (iteB0 rfl ?_))⟩)))))
  refine (zr rfl (un2 (s1 _ _ hp.p) ?_))
  refine (zr rfl (zr rfl (zr rfl ⟨ll,lw,lt,ls,ws,ts,rfl,hl.same s1,hw.same s1,s1 _ _ hp.ls,λx hx=>s1 _ _ (hp.ones x hx),t100,ok.ones,nd2,λH2 s2=>(zr rfl ?_)⟩)))
  have s02:=s1.trans s2
  cases c1:straightB (ls.map (·.2)) (ws.map (·.2)) (ts.map (·.2)) with
  | false=>
   have:=q _ s02
   rw [show worthF rooms (ps.map (·.2)) (ls.map (·.2)) (ws.map (·.2)) (xs.map (·.r)) (ts.map (·.2))=none by unfold worthF;rw [c1];rfl] at this
   exact iteB1 rfl (iteB1 rfl this)
  | true=>
  refine iteB0 rfl (zr rfl (zr rfl (zr rfl (zr rfl (ex11 b ll lw lr rooms tr tm ps ls ws xs ⟨rfl,hb.same s02,gd,r100,hl.same s02,hw.same s02,okl,okw,s02 _ _ hp.lr,λx hx=>(hp.rows x hx).same s02,ln,λx hx=>⟨(ok.rows x hx).bl,(ok.rows x hx).cl⟩,λH3 s3=>(zr rfl ?_)⟩)))))
  have s03:=s02.trans s3
  cases c2:keptF rooms (ls.map (·.2)) (ws.map (·.2)) ((ps.map (·.2)).zip (xs.map (·.r))) (List.replicate rooms.length 0) with
  | false=>
   have:=q _ s03
   rw [show worthF rooms (ps.map (·.2)) (ls.map (·.2)) (ws.map (·.2)) (xs.map (·.r)) (ts.map (·.2))=none by unfold worthF;rw [c1,c2];rfl] at this
   exact iteB1 rfl this
  | true=>
  refine iteB0 rfl ?_
  refine (zr rfl ⟨ll,zr rfl ⟨.inl (SqL.of (s03 _ _ hl.l)),?_⟩⟩)
  refine (zr rfl ⟨lr,rfl,⟨_,SqL.of (s03 _ _ hp.lr)⟩,?_⟩)
  refine xj (K:=K) (a:=lr) (xs:=xs.map λx=>V.ref x.a) (λi τ acc H5=>(∃ t0,τ=[t0])/\acc=(xs.take i).map (λx=>V.ref x.b)/\H3=H5) ⟨⟨_,rfl⟩,rfl,rfl⟩ (by rw [zA];omega) ?_ ?_ ?_
  ·rintro i τ acc H5 ⟨_,rfl,rfl⟩
   exact ⟨by rw [zA,zR];omega,SqL.of (s03 _ _ hp.lr)⟩
  ·rintro i v τ acc H5 C hv ⟨⟨t0,rfl⟩,rfl,rfl⟩ hC
   obtain ⟨x,hx,rfl⟩:=xU hv
   refine (zr rfl (ixt (s03 _ _ (hp.rows x (zD hx)).a) rfl (hC _ _ _ ⟨⟨_,rfl⟩,?_,rfl⟩)))
   rw [xY hx,zB];rfl
  rintro τ acc H5 ⟨⟨t0,rfl⟩,rfl,rfl⟩ lq hlq
  rw [zA,zY]
  have sK:=xB (o:=HO.lst (xs.map λx=>V.ref x.b)) hlq
  have kqK:upd H3 lq (HO.lst (xs.map λx=>V.ref x.b)) lq=some (.lst (xs.map λx=>V.ref x.b)):=yy
  have s04:=s03.trans sK
  generalize upd H3 lq (HO.lst (xs.map λx=>V.ref x.b))=H4 at sK kqK s04 ⊢
  refine (zr rfl ⟨lt,rfl,⟨_,SqL.of (s04 _ _ hp.ls)⟩,?_⟩)
  refine xj (K:=K) (a:=lt) (xs:=ts.map λx=>V.ref x.1) (λi τ acc H5=>∃ qs:List (Addr×Int×Int),(∃ t0 t1 t2,τ=[t0,t1,t2])/\acc=qs.map (λx=>V.ref x.1)/\(∀ x∈qs,H5 x.1=some (.tup [.int x.2.1,.int x.2.2])/\0<=x.2.1/\x.2.1 < (ls.length:Int))/\qs.map (·.2)=(ts.take i).map (λx=>(x.2.k,x.2.m))/\Same H4 H5) ⟨[],⟨_,_,_,rfl⟩,rfl,nofun,rfl,Same.refl _⟩ (by rw [zA];omega) ?_ ?_ ?_
  ·rintro i τ acc H5 ⟨qs,_,rfl,_,eq,sm⟩
   refine ⟨?_,SqL.of (sm _ _ (s04 _ _ hp.ls))⟩
   have:=congrArg List.length eq
   rw [zA,zA,zR] at this
   rw [zA];omega
  ·rintro i v τ acc H5 C hv ⟨qs,⟨t0,t1,t2,rfl⟩,rfl,kq,eq,sm⟩ hC
   obtain ⟨x,hx,rfl⟩:=xU hv
   have mx:=zD hx
   refine (un3 (sm _ _ (s04 _ _ (hp.ones x mx))) ?_)
   refine (zr rfl (zr rfl ⟨by show 2<=_;omega,λu hu=>?_⟩))
   have su:=xB (o:=HO.tup [V.int x.2.k,V.int x.2.m]) hu
   refine hC _ _ _ ⟨qs++[(u,x.2.k,x.2.m)],⟨_,_,_,rfl⟩,by rw [zB];rfl,λy hy=>?_,?_,sm.trans su⟩
   ·rcases zV.mp hy with h | h
    ·exact ⟨su _ _ (kq y h).1,(kq y h).2⟩
    ·rw [zE.mp h];exact ⟨yy,(ok.ones x mx).k⟩
   ·rw [zB,eq,xY hx,zB];rfl
  rintro τ acc H5 ⟨qs,⟨t0,t1,t2,rfl⟩,rfl,kq,eq,sm⟩ lp hlp
  rw [zA,zY] at eq
  have sP:=sm.trans (xB (o:=HO.lst (qs.map λx=>V.ref x.1)) hlp)
  have kp:upd H5 lp (HO.lst (qs.map λx=>V.ref x.1)) lp=some (.lst (qs.map λx=>V.ref x.1)):=yy
  have kq2:∀ x∈qs,upd H5 lp (HO.lst (qs.map λx=>V.ref x.1)) x.1=some (.tup [.int x.2.1,.int x.2.2])/\0<=x.2.1/\x.2.1 < (ls.length:Int):=λx hx=>⟨xB hlp _ _ (kq x hx).1,(kq x hx).2⟩
  have s06:=s04.trans sP
  generalize upd H5 lp (HO.lst (qs.map λx=>V.ref x.1))=H6 at sP kp kq2 s06 ⊢
  refine ⟨ls.length,lq,lp,xs.map (λx=>(x.b,x.r.bg)),qs,by rw [zA];rfl,okl,by rw [zd];exact sP _ _ kqK,λy hy=>?_,by rw [zA];omega,kp,kq2,by have:=congrArg List.length eq;rw [zA,zA] at this;omega,λl1 H7 hl1 sD k1=>?_⟩
  ·obtain ⟨x,hx,rfl⟩:=zS.mp hy
   exact ⟨s06 _ _ (hp.rows x hx).b,(ok.rows x hx).bl⟩
  rw [zd,eq] at k1
  have eF:totF ls.length (List.map ((λx:Addr×List Int=>x.2) ∘ λx:RA=>(x.b,x.r.bg)) xs) (ts.map λx=>(x.2.k,x.2.m))=leftF ls.length (xs.map (·.r)) (ts.map (·.2)):=by unfold leftF;rw [zd,zd];rfl
  rw [eF] at k1
  have s07:=s06.trans sD
  refine (zr rfl ⟨lw,zr rfl ⟨.inl (SqL.of (s07 _ _ hw.l)),?_⟩⟩)
  refine (zr rfl ⟨lr,rfl,⟨_,SqL.of (s07 _ _ hp.lr)⟩,?_⟩)
  refine xj (K:=K) (a:=lr) (xs:=xs.map λx=>V.ref x.a) (λi τ acc H5=>(∃ t0,τ=[t0])/\acc=(xs.take i).map (λx=>V.ref x.c)/\H7=H5) ⟨⟨_,rfl⟩,rfl,rfl⟩ (by rw [zA];omega) ?_ ?_ ?_
  ·rintro i τ acc H5 ⟨_,rfl,rfl⟩
   exact ⟨by rw [zA,zR];omega,SqL.of (s07 _ _ hp.lr)⟩
  ·rintro i v τ acc H5 C hv ⟨⟨t0,rfl⟩,rfl,rfl⟩ hC
   obtain ⟨x,hx,rfl⟩:=xU hv
   refine (zr rfl (ixt (s07 _ _ (hp.rows x (zD hx)).a) rfl (hC _ _ _ ⟨⟨_,rfl⟩,?_,rfl⟩)))
   rw [xY hx,zB];rfl
  rintro τ acc H5 ⟨⟨t0,rfl⟩,rfl,rfl⟩ lq hlq
  rw [zA,zY]
  have sK:=xB (o:=HO.lst (xs.map λx=>V.ref x.c)) hlq
  have kqK:upd H7 lq (HO.lst (xs.map λx=>V.ref x.c)) lq=some (.lst (xs.map λx=>V.ref x.c)):=yy
  have s08:=s07.trans sK
  generalize upd H7 lq (HO.lst (xs.map λx=>V.ref x.c))=H8 at sK kqK s08 ⊢
  refine (zr rfl ⟨lt,rfl,⟨_,SqL.of (s08 _ _ hp.ls)⟩,?_⟩)
  refine xj (K:=K) (a:=lt) (xs:=ts.map λx=>V.ref x.1) (λi τ acc H5=>∃ qs:List (Addr×Int×Int),(∃ t0 t1 t2,τ=[t0,t1,t2])/\acc=qs.map (λx=>V.ref x.1)/\(∀ x∈qs,H5 x.1=some (.tup [.int x.2.1,.int x.2.2])/\0<=x.2.1/\x.2.1 < (ws.length:Int))/\qs.map (·.2)=(ts.take i).map (λx=>(x.2.j,x.2.m))/\Same H8 H5) ⟨[],⟨_,_,_,rfl⟩,rfl,nofun,rfl,Same.refl _⟩ (by rw [zA];omega) ?_ ?_ ?_
  ·rintro i τ acc H5 ⟨qs,_,rfl,_,eq,sm⟩
   refine ⟨?_,SqL.of (sm _ _ (s08 _ _ hp.ls))⟩
   have:=congrArg List.length eq
   rw [zA,zA,zR] at this
   rw [zA];omega
  ·rintro i v τ acc H5 C hv ⟨qs,⟨t0,t1,t2,rfl⟩,rfl,kq,eq,sm⟩ hC
   obtain ⟨x,hx,rfl⟩:=xU hv
   have mx:=zD hx
   refine (un3 (sm _ _ (s08 _ _ (hp.ones x mx))) ?_)
   refine (zr rfl (zr rfl ⟨by show 2<=_;omega,λu hu=>?_⟩))
   have su:=xB (o:=HO.tup [V.int x.2.j,V.int x.2.m]) hu
   refine hC _ _ _ ⟨qs++[(u,x.2.j,x.2.m)],⟨_,_,_,rfl⟩,by rw [zB];rfl,λy hy=>?_,?_,sm.trans su⟩
   ·rcases zV.mp hy with h | h
    ·exact ⟨su _ _ (kq y h).1,(kq y h).2⟩
    ·rw [zE.mp h];exact ⟨yy,(ok.ones x mx).j⟩
   ·rw [zB,eq,xY hx,zB];rfl
  rintro τ acc H5 ⟨qs,⟨t0,t1,t2,rfl⟩,rfl,kq,eq,sm⟩ lp hlp
  rw [zA,zY] at eq
  have sP:=sm.trans (xB (o:=HO.lst (qs.map λx=>V.ref x.1)) hlp)
  have kp:upd H5 lp (HO.lst (qs.map λx=>V.ref x.1)) lp=some (.lst (qs.map λx=>V.ref x.1)):=yy
  have kq2:∀ x∈qs,upd H5 lp (HO.lst (qs.map λx=>V.ref x.1)) x.1=some (.tup [.int x.2.1,.int x.2.2])/\0<=x.2.1/\x.2.1 < (ws.length:Int):=λx hx=>⟨xB hlp _ _ (kq x hx).1,(kq x hx).2⟩
  have s09:=s08.trans sP
  generalize upd H5 lp (HO.lst (qs.map λx=>V.ref x.1))=H9 at sP kp kq2 s09 ⊢
  refine ⟨ws.length,lq,lp,xs.map (λx=>(x.c,x.r.cm)),qs,by rw [zA];rfl,okw,by rw [zd];exact sP _ _ kqK,λy hy=>?_,by rw [zA];omega,kp,kq2,by have:=congrArg List.length eq;rw [zA,zA] at this;omega,λl2 H10 hl2 sD k2=>?_⟩
  ·obtain ⟨x,hx,rfl⟩:=zS.mp hy
   exact ⟨s09 _ _ (hp.rows x hx).c,(ok.rows x hx).cl⟩
  rw [zd,eq] at k2
  have eF:totF ws.length (List.map ((λx:Addr×List Int=>x.2) ∘ λx:RA=>(x.c,x.r.cm)) xs) (ts.map λx=>(x.2.j,x.2.m))=cameF ws.length (xs.map (·.r)) (ts.map (·.2)):=by unfold cameF;rw [zd,zd];rfl
  rw [eF] at k2
  have s10:=s09.trans sD
  have k17:=k1
  have sA:Same H7 H10:=(sK.trans sP).trans sD
  have k1:=sA _ _ k1
  refine (zr rfl (zr rfl ⟨l1,ll,leftF ls.length (xs.map (·.r)) (ts.map (·.2)),ls,rfl,k1,hl.same s10,wH,okl,λH11 s11=>(zr rfl ?_)⟩))
  have s011:=s10.trans s11
  cases c3:uptoB (leftF ls.length (xs.map (·.r)) (ts.map (·.2))) (ls.map (·.2)) with
  | false=>
   have:=q _ s011
   rw [show worthF rooms (ps.map (·.2)) (ls.map (·.2)) (ws.map (·.2)) (xs.map (·.r)) (ts.map (·.2))=none by unfold worthF;rw [zA,c3];simp] at this
   exact iteB1 rfl (iteB1 rfl this)
  | true=>
  refine iteB0 rfl (zr rfl (zr rfl ⟨l2,lw,cameF ws.length (xs.map (·.r)) (ts.map (·.2)),ws,rfl,s11 _ _ k2,hw.same s011,wH,okw,λH12 s12=>(zr rfl ?_)⟩))
  have s012:=s011.trans s12
  cases c4:uptoB (cameF ws.length (xs.map (·.r)) (ts.map (·.2))) (ws.map (·.2)) with
  | false=>
   have:=q _ s012
   rw [show worthF rooms (ps.map (·.2)) (ls.map (·.2)) (ws.map (·.2)) (xs.map (·.r)) (ts.map (·.2))=none by unfold worthF;rw [zA,zA,c4];simp] at this
   exact iteB1 rfl this
  | true=>
  have:=q _ s012
  rw [show worthF rooms (ps.map (·.2)) (ls.map (·.2)) (ws.map (·.2)) (xs.map (·.r)) (ts.map (·.2))=some (cameF ws.length (xs.map (·.r)) (ts.map (·.2))).sum by unfold worthF;rw [zA,zA,c1,c2,c3,c4];rfl] at this
  exact iteB0 rfl (zr rfl ⟨l2,zr rfl ⟨SqL.of (s12 _ _ (s11 _ _ k2)),this⟩⟩)
theorem DT:FnScope ["_law_purse_here", "_law_book_here", "_law_walkers", "_law_later", "_law_walker", "_law_many", "_law_mine", "_law_at"] ["_law_purse_here", "_law_book_here", "_law_walkers", "_law_later"] (defScope Ck):=⟨rfl,rfl,rfl,by decide +kernel,rfl,by decide +kernel,by decide +kernel⟩
theorem FA (T:Tx K mg a):FnOk P w K mg base CX0 4 a.AX a.BO ["_law_purse_here", "_law_book_here", "_law_walkers", "_law_later"] (spSack36):=by
 have Aa:=@xi P w _ _ base _ T
 have Gs:=@Fy P w _ _ base _ T
 refine T.Br.ok DT (λvs H Q E h=>?_) (λcdv A outer s H vs Q E hr h=>?_)
 ·obtain ⟨_,_,_,_,_,_,_,_,rfl,_⟩:=h;rfl
 ·have nd:=DT.nd
  have hu:=hr.units
  obtain ⟨p,b,j,rooms,tr,tm,ps,n,rfl,hj,hb,gd,n1,n2,hp,q⟩:=h
  refine ⟨_,(@xI _ _ _ (@xO _ _ _ _ _ _ (xK (i:=4) nd rfl (by first | exact Or.inl rfl | exact Or.inr rfl) (xF Aa (hr.mono (by decide)) rfl T.Ab T.Ac T.Ae .nil pass0 (@yw _ _ _ (@yx _ _ _ _ _ (pv 0) (@yx _ _ _ _ _ (pv 2) xE rfl) rfl)))) (@xO _ _ _ _ _ _ (xK (i:=5) nd rfl (by first | exact Or.inl rfl | exact Or.inr rfl) (@xN _ _ _ _ _ _ _ _ xf yz (xF Aa (hr.mono (by decide)) rfl T.Ab T.Ac T.Ae .nil pass0 (@yw _ _ _ (@yx _ _ _ _ _ (pv 0) (@yx _ _ _ _ _ yz xE rfl) rfl))))) (@xO _ _ _ _ _ _ (@xZ _ _ _ _ _ _ _ _ (@xP _ _ _ _ _ _ _ _ wU (xF Aa (hr.mono (by decide)) rfl T.Ab T.Ac T.Ae .nil pass0 (@yw _ _ _ (@yx _ _ _ _ _ (pv 0) (@yx _ _ _ _ _ yz xE rfl) rfl))) yz (nomark _)) (@xI _ _ _ (@xT _ _ _ (xK (i:=5) nd rfl (by first | exact Or.inl rfl | exact Or.inr rfl) (@xN _ _ _ _ _ _ _ _ xf yz (xF Aa (hr.mono (by decide)) rfl T.Ab T.Ac T.Ae .nil pass0 (@yw _ _ _ (@yx _ _ _ _ _ (pv 0) (@yx _ _ _ _ _ yz xE rfl) rfl))))))) xS) (@xO _ _ _ _ _ _ (ps_setComp (ix:=6) nd rfl (by first | exact Or.inl rfl | exact Or.inr rfl) (own:=["_law_meeting"]) (caps:=[4]) rfl (show CompScope ["_law_meeting"] [4] ["_law_purse_here", "_law_book_here", "_law_walkers", "_law_later", "_law_walker", "_law_many", "_law_mine", "_law_at"] (defScope Ck) _ from ⟨rfl,by decide +kernel,by decide +kernel,by decide +kernel,by decide +kernel⟩) (@pi_tup'' _ _ _ _ _ rfl (@xM _ _ _ _ _ _ _ (xQ rfl) (pv 1) yz (λ_ _=>rfl))) (λ_ _ _ _=>(xC (i:=0) (show List.Nodup (["_law_meeting", "_law_walker"]:List Str) from by decide +kernel) rfl (by first | exact Or.inl rfl | exact Or.inr rfl))) (λ_ _ _ _=>pts_one (@xP _ _ _ _ _ _ _ _ (op_in_seq' rfl) (pv 1) (@pe_slice _ _ _ _ _ _ _ _ _ _ (sl_tup' rfl) (pv 0) po_none (@po_some _ _ _ yz)) rfl)) (λ_ _ _ _=>(@xM _ _ _ _ _ _ _ (xQ rfl) (pv 0) yz (λ_ _=>rfl)))) (@xO _ _ _ _ _ _ (xK (i:=7) nd rfl (by first | exact Or.inl rfl | exact Or.inr rfl) (xF Gs (hr.mono (by decide)) rfl T.FS T.FZ T.F9 .nil pass0 (@yw _ _ _ (@yx _ _ _ _ _ (pv 0) (@yx _ _ _ _ _ (pv 1) (@yx _ _ _ _ _ (pv 3) xE rfl) rfl) rfl)))) (@xO _ _ _ _ _ _ (@xZ _ _ _ _ _ _ _ _ (@PW.pt _ _ _ (@pw_and _ _ _ _ _ _ _ (@xP _ _ _ _ _ _ _ _ (op_neNil hu) (pv 6) (@xV _ _ _ _ wP) (nomark _)) (@pw_and1 _ _ _ _ (@xP _ _ _ _ _ _ _ _ wU (xF Aa (hr.mono (by decide)) rfl T.Ab T.Ac T.Ae .nil pass0 (@yw _ _ _ (@yx _ _ _ _ _ (pv 0) (@yx _ _ _ _ _ yz xE rfl) rfl))) yz (nomark _))))) (@xI _ _ _ (@xT _ _ _ (xK (i:=7) nd rfl (by first | exact Or.inl rfl | exact Or.inr rfl) (@xN _ _ _ _ _ _ _ _ wD (@xM _ _ _ _ _ _ _ (xL rfl) (pv 6) (xF Aa (hr.mono (by decide)) rfl T.Ab T.Ac T.Ae .nil pass0 (@yw _ _ _ (@yx _ _ _ _ _ (pv 0) (@yx _ _ _ _ _ (xH (xJ rfl) (by rfl) T.b_len PySem.boot_len (@yw _ _ _ (@yx _ _ _ _ _ (pv 6) xE rfl))) xE rfl) rfl))) (λ_ _=>rfl)) (xF Aa (hr.mono (by decide)) rfl T.Ab T.Ac T.Ae .nil pass0 (@yw _ _ _ (@yx _ _ _ _ _ (pv 0) (@yx _ _ _ _ _ yz xE rfl) rfl))))))) xS) (@xT _ _ _ (@xR _ _ _ _ (@xp _ _ _ _ _ (@yw _ _ _ (@yx _ _ _ _ _ (pv 4) (@yx _ _ _ _ _ (pv 7) (@yx _ _ _ _ _ (pv 5) xE rfl) rfl) rfl)))))))))))),?_⟩
  have line:=line9
  have e200:(2:Int) ^ 200 > 10000:=by decide
  have l60:=gd.len
  refine (zr rfl (zr rfl ⟨p,zr rfl ⟨by omega,by omega,hp,λw0 H1 w00 w01 g1=>?_⟩⟩))
  refine (zr rfl ⟨p,zr rfl ⟨by decide,by decide,g1.2,λd H2 d0 d1 g2=>(zr2 rfl rfl ?_)⟩⟩)
  have g02:=g1.trans g2
  refine (zr rfl ⟨p,zr rfl ⟨by decide,by decide,g2.2,λe H3 e0 e1 g3=>⟨rfl,zr rfl ?_⟩⟩⟩)
  have g03:=g02.trans g3
  refine iteN (fun σ H'=>∃ m,σ=[some (.ref p),some (.ref b),some (.int n),some (.int j),some (.int w0),some (.int m),none,none]/\1<=m/\m<=99/\Go p H H') ?_ (λc k=>?_) (λc=>(zr rfl ⟨by omega,by omega,g03⟩))
  rotate_left
  ·exact (zr rfl ⟨p,zr rfl ⟨by decide,by decide,g3.2,λf H4 f0 f1 g4=>(zr2 rfl rfl (k _ _ (zr rfl ⟨by omega,by omega,g03.trans g4⟩)))⟩⟩)
  rintro σ H4 ⟨m,rfl,m1,m99,g4⟩
  have hb4:=hb.tups (g4.tups hp)
  refine (zr rfl (ixt hb4.book rfl ⟨tm,rfl,⟨_,SqT.of hb4.meets⟩,?_⟩))
  refine comp_tup (K:=K) (a:=tm) (xs:=ps.map λa=>V.ref a.1) (λi τ acc H5=>∃ ts:List Int,(∃ t0,τ=[t0,some (.int w0)])/\acc=ts.map V.int/\ts.length<=i/\Same H4 H5) ⟨[],⟨_,rfl⟩,rfl,zF _,Same.refl _⟩ (by rw [zA];omega) ?_ ?_ ?_
  ·rintro i τ acc H5 ⟨ts,_,rfl,lt,sm⟩
   exact ⟨by rw [zA];exact lt,SqT.of (sm _ _ hb4.meets)⟩
  ·rintro i v τ acc H5 C hv ⟨ts,⟨t0,rfl⟩,rfl,lt,sm⟩ hC
   obtain ⟨r,hr,rfl⟩:=xU hv
   have hrow:=sm _ _ (hb4.rows r (zD hr))
   refine (zr rfl (zr rfl ⟨2,rfl,r.1,zr rfl ⟨SqT.of hrow,(by show ¬ (HT.sIx 4 0 none=0/\HT.sIx 4 4 (some 2)=4);decide),λp2 hp2=>?_⟩⟩))
   have s2:=xB (o:=HO.tup [V.int r.2.lo,V.int r.2.hi]) hp2
   refine ⟨p2,[.int r.2.lo,.int r.2.hi],rfl,.inr (SqT.of yy),rfl,rfl,zr rfl (iteB (λc=>?_) λc=>hC _ _ _ ⟨ts,⟨_,rfl⟩,rfl,by omega,sm.trans s2⟩)⟩
   exact (zr rfl (ixt (s2 _ _ hrow) rfl (hC _ _ _ ⟨ts++[r.2.t],⟨_,rfl⟩,by rw [zB];rfl,by rw [zT];show ts.length + 1<=_;omega,sm.trans s2⟩)))
  rintro τ acc H5 ⟨ts,⟨t0,rfl⟩,rfl,lt,sm⟩ lm hlm
  rw [zA] at lt
  have s5:=sm.trans (xB (o:=HO.lst (ts.map V.int)) hlm)
  have k5:upd H5 lm (HO.lst (ts.map V.int)) lm=some (.lst (ts.map V.int)):=yy
  have g5:=g4.same s5
  have nlm:lm≠p:=(g4.same sm).2.ne hlm
  generalize upd H5 lm (HO.lst (ts.map V.int))=H6 at s5 k5 g5 ⊢
  have hb6:=hb4.same s5
  refine (zr rfl (zr rfl (zr rfl (ex7 p b j rooms tr tm ps ⟨rfl,hj,hb6,gd,g5.2,λat' H7 a0 a1 g7=>?_⟩))))
  have g07:=g5.trans g7
  have k7:=g7.1 lm _ nlm k5
  refine (zr rfl ⟨zg _,λl0 hl0=>⟨lm,l0,zr rfl ⟨rfl,SqL.of (xB hl0 _ _ k7),SqL.of yy,zr rfl ?_⟩⟩⟩)
  have g08:=g07.new (o:=HO.lst []) hl0
  have k8:=xB (o:=HO.lst []) hl0 _ _ k7
  generalize upd H7 l0 (HO.lst [])=H8 at g08 k8 ⊢
  refine iteA (fun σ H'=>∃ x,σ=[some (.ref p),some (.ref b),some (.int n),some (.int j),some (.int w0),some (.int m),some (.ref lm),some (.int x)]/\Go p H H') ?_ (λc k=>?_) (λc=>(zr rfl g08))
  ·rintro σ H9 ⟨x,rfl,g9⟩
   exact (zr rfl (zr rfl (zr rfl ⟨by show 3<=_;omega,λt ht=>q t ⟨w0,x,m⟩ _ (g9.new ht) yy w00 w01 m1 m99⟩)))
  refine (zr rfl ⟨p,zr rfl ⟨by decide,by decide,g08.2,λd2 H9 d20 d21 g9=>⟨rfl,zr rfl (iteN _ k (λc2 k2=>?_) (λc2=>(zr rfl (g08.trans g9))))⟩⟩⟩)
  have k9:=g9.1 lm _ nlm k8
  have lts:1<=ts.length:=by
   cases ts with
   | nil=>cases c
   | cons _ _=>simp
  refine (zr rfl (zr rfl (zr rfl ⟨lm,zr rfl ⟨.inl (SqL.of k9),p,zr rfl ⟨by rw [zA];omega,by rw [zA];omega,g9.2,λd3 H10 d30 d31 g10=>?_⟩⟩⟩)))
  rw [zA] at d31
  obtain ⟨z,rfl⟩:=ze d30
  have hz:z < ts.length:=by omega
  refine (ixl (g10.1 lm _ nlm k9) (xh (v:=V.int ts[z]) (by simp [hz])) (zr rfl ⟨p,zr rfl ⟨by decide,by decide,g10.2,λd4 H11 d40 d41 g11=>(zr2 rfl rfl (k2 _ _ (zr rfl (g08.trans (g9.trans (g10.trans g11))))))⟩⟩))
theorem DB:FnScope ["_law_script", "_law_book_here", "_law_head", "_law_first", "_law_later", "_law_many", "_law_walkers", "_law_some"] ["_law_script", "_law_book_here", "_law_head", "_law_first", "_law_later"] (defScope Ca):=⟨rfl,rfl,rfl,by decide +kernel,rfl,by decide +kernel,by decide +kernel⟩
theorem Ff (T:Tx K mg a):FnOk P w K mg base CX0 5 a.AL a.Bz ["_law_script", "_law_book_here", "_law_head", "_law_first", "_law_later"] (spSacks36 K):=by
 have BC:=@Co P w _ _ base _ T
 have Aa:=@xi P w _ _ base _ T
 have Gv:=@FA P w _ _ base _ T
 refine T.Bd.ok DB (λvs H Q E h=>?_) (λcdv A outer s H vs Q E hr h=>?_)
 ·obtain ⟨_,_,_,_,_,_,_,_,_,_,_,rfl,_⟩:=h;rfl
 ·have nd:=DB.nd
  have hu:=hr.units
  obtain ⟨sa,b,hd,j,rooms,tr,tm,ps,ns,n,H0,rfl,hsa,n63,h0,sm0,n100,hj,hb,gd,r1,r12,hp,q⟩:=h
  refine ⟨_,(@xI _ _ _ (@xO _ _ _ _ _ _ (xK (i:=5) nd rfl (by first | exact Or.inl rfl | exact Or.inr rfl) (xF Aa (hr.mono (by decide)) rfl T.Ab T.Ac T.Ae .nil pass0 (@yw _ _ _ (@yx _ _ _ _ _ (pv 2) (@yx _ _ _ _ _ yz xE rfl) rfl)))) (@xO _ _ _ _ _ _ (@xZ _ _ _ _ _ _ _ _ (@xP _ _ _ _ _ _ _ _ wU (xF Aa (hr.mono (by decide)) rfl T.Ab T.Ac T.Ae .nil pass0 (@yw _ _ _ (@yx _ _ _ _ _ (pv 2) (@yx _ _ _ _ _ yz xE rfl) rfl))) yz (nomark _)) (@xI _ _ _ (@xT _ _ _ (xK (i:=5) nd rfl (by first | exact Or.inl rfl | exact Or.inr rfl) yz))) xS) (@xO _ _ _ _ _ _ (xK (i:=6) nd rfl (by first | exact Or.inl rfl | exact Or.inr rfl) (@xM _ _ _ _ _ _ _ (xL rfl) (@xV _ _ _ _ (@yw _ _ _ (@yx _ _ _ _ _ (xH (xJ rfl) (by rfl) T.b_len PySem.boot_len (@yw _ _ _ (@yx _ _ _ _ _ (@xM _ _ _ _ _ _ _ (xQ rfl) (pv 1) yz (λ_ _=>rfl)) xE rfl))) (@yx _ _ _ _ _ (xH (call_min2 rfl) (by rfl) T.b_min yQ (@yw _ _ _ (@yx _ _ _ _ _ yz (@yx _ _ _ _ _ (xH (xJ rfl) (by rfl) T.b_len PySem.boot_len (@yw _ _ _ (@yx _ _ _ _ _ (@xM _ _ _ _ _ _ _ (xQ rfl) (pv 1) yz (λ_ _=>rfl)) xE rfl))) xE rfl) rfl))) xE rfl) rfl))) (xF Aa (hr.mono (by decide)) rfl T.Ab T.Ac T.Ae .nil pass0 (@yw _ _ _ (@yx _ _ _ _ _ (pv 2) (@yx _ _ _ _ _ yz xE rfl) rfl))) (λ_ _=>rfl))) (@xO _ _ _ _ _ _ (ps_setComp (ix:=7) nd rfl (by first | exact Or.inl rfl | exact Or.inr rfl) (own:=["_law_k"]) (caps:=[1,6,4,0,3]) rfl (show CompScope ["_law_k"] [1,6,4,0,3] ["_law_script", "_law_book_here", "_law_head", "_law_first", "_law_later", "_law_many", "_law_walkers", "_law_some"] (defScope Ca) _ from ⟨rfl,by decide +kernel,by decide +kernel,by decide +kernel,by decide +kernel⟩) (wM rfl T.b_range (@yw _ _ _ (@yx _ _ _ _ _ (pv 5) xE rfl))) (λ_ _ _ _=>(xC (i:=0) (show List.Nodup (["_law_k", "_law_book_here", "_law_walkers", "_law_later", "_law_script", "_law_first"]:List Str) from by decide +kernel) rfl (by first | exact Or.inl rfl | exact Or.inr rfl))) (λ_ _ _ _=>xk) (λ_ _ _ _=>(xF Gv (hr.mono (by decide)) rfl T.FU T.F3 T.Gb .nil pass0 (@yw _ _ _ (@yx _ _ _ _ _ (xF BC (hr.mono (by decide)) rfl T.Cb T.Cc T.Cd .nil pass0 (@yw _ _ _ (@yx _ _ _ _ _ (pv 4) (@yx _ _ _ _ _ (@xN _ _ _ _ _ _ _ _ xf (pv 5) (@xN _ _ _ _ _ _ _ _ op_mul yz (pv 0))) xE rfl) rfl))) (@yx _ _ _ _ _ (pv 1) (@yx _ _ _ _ _ (pv 2) (@yx _ _ _ _ _ (pv 3) xE rfl) rfl) rfl) rfl))))) (@xO _ _ _ _ _ _ (@xZ _ _ _ _ _ _ _ _ (@PW.pt _ _ _ (@pw_and _ _ _ _ _ _ _ (@xP _ _ _ _ _ _ _ _ op_gt (pv 5) yz (nomark _)) (@pw_and1 _ _ _ _ (@xP _ _ _ _ _ _ _ _ wU (xF Aa (hr.mono (by decide)) rfl T.Ab T.Ac T.Ae .nil pass0 (@yw _ _ _ (@yx _ _ _ _ _ (pv 2) (@yx _ _ _ _ _ yz xE rfl) rfl))) yz (nomark _))))) (@xI _ _ _ (@xT _ _ _ (xo (@xM _ _ _ _ _ _ _ (xL rfl) (pv 7) yz (λ_ _=>rfl)) (pg_sub (pv 7) yz xr)))) xS) (@xT _ _ _ (@xR _ _ _ _ (pv 7))))))))),?_⟩
  have line:=line9
  have e200:(2:Int) ^ 200 > 10000:=by decide
  refine (zr rfl ⟨hd,zr rfl ⟨by decide,by decide,hp,λd H1 d0 d1 g1=>?_⟩⟩)
  refine (zr rfl ⟨hd,zr rfl ⟨by decide,by decide,g1.2,λe H3 e0 e1 g3=>⟨rfl,zr rfl ?_⟩⟩⟩)
  have g03:=g1.trans g3
  refine iteN (fun σ H'=>∃ m:Nat,σ=[some (.ref sa),some (.ref b),some (.ref hd),some (.int n),some (.int j),some (.int m),none,none]/\m<=8/\Go hd H H') ?_ (λc k=>k _ _ ⟨8,rfl,by omega,g03⟩) (λc=>by obtain ⟨m,rfl⟩:=ze d0;exact ⟨m,rfl,by omega,g03⟩)
  rintro σ H4 ⟨m,rfl,m8,g4⟩
  have hb4:=hb.tups (g4.tups hp)
  have rl:(rooms.map V.int).length=rooms.length:=zA _
  refine (zr rfl (ixt hb4.book rfl ⟨tr,zr rfl ⟨.inr (SqT.of hb4.rooms),zr rfl (ixt hb4.book rfl ⟨tr,zr rfl ⟨.inr (SqT.of hb4.rooms),zr1 rfl ⟨by show 2<=_;omega,λu hu=>(zr rfl ⟨hd,zr rfl ⟨by decide,by decide,(g4.new hu).2,λd2 H6 d20 d21 g6=>?_⟩⟩)⟩⟩⟩)⟩⟩))
  have g06:=(g4.new (o:=HO.lst [V.int (((rooms.map V.int).length:Nat):Int),V.int (if (((rooms.map V.int).length:Nat):Int) < 2 then (((rooms.map V.int).length:Nat):Int) else 2)]) hu).trans g6
  have nu:u≠hd:=g4.2.ne hu
  have ku:=g6.1 u _ nu yy
  obtain ⟨nw,hw1,hw2,hat⟩:∃ nw:Nat,1<=nw/\nw<=rooms.length/\atI [V.int (((rooms.map V.int).length:Nat):Int),V.int (if (((rooms.map V.int).length:Nat):Int) < 2 then (((rooms.map V.int).length:Nat):Int) else 2)] d2=some (V.int nw):=by
   rw [rl]
   obtain rfl | rfl:d2=0\/d2=1:=by omega
   ·exact ⟨rooms.length,r1,zF _,rfl⟩
   ·refine ⟨min rooms.length 2,by omega,by omega,?_⟩
    show some (V.int _)=some (V.int _)
    congr 2
    split <;> omega
  refine (ixl ku hat ?_)
  have hb6:=hb.tups (g06.tups hp)
  have pu6:=g06.2
  refine (zr rfl (zr rfl ⟨by omega,by omega,?_⟩))
  refine comp_range (lo:=0) (m:=m) (λi τ acc H5=>∃ ss:List (Addr×S3),(∃ t0,τ=[t0,some (.ref b),some (.int nw),some (.int j),some (.ref sa),some (.int n)])/\acc=ss.map (λa=>V.ref a.1)/\ss.length=i/\(∀ a∈ss,H5 a.1=some (.tup [.int a.2.w,.int a.2.t,.int a.2.m]))/\(∀ a∈ss,0<=a.2.w/\a.2.w < rooms.length/\1<=a.2.m/\a.2.m<=99)/\Same H6 H5) ⟨[],⟨_,rfl⟩,rfl,rfl,nofun,nofun,Same.refl _⟩ (by omega) ?_ ?_ ?_
  ·rintro i τ acc H5 ⟨ss,_,rfl,ls,_⟩
   rw [zA,ls];exact zF _
  ·rintro i τ acc H5 C hi ⟨ss,⟨t0,rfl⟩,rfl,ls,ks,bs,sm⟩ hC
   have hsa5:SqL K H5 sa (List.map V.int ns):=SqL.but hsa h0 λb u nb e=>sm _ _ (g06.1 _ _ nb (sm0 _ _ e))
   refine (zr rfl (zr rfl (zr rfl (zr2 rfl rfl ⟨.inl ⟨by decide,by decide⟩,zr2 rfl rfl ⟨sa,ns,n + 2 * i,?_,hsa5,by omega,λpz H7 hpz pu s7=>?_⟩⟩))))
   ·show [V.ref sa,V.int ((n:Int) + 2 * (0 + (i:Int)))]=_
    rw [show ((n:Int) + 2 * (0 + (i:Int)))=((n + 2 * i:Nat):Int) by omega]
   refine (zr rfl (zr rfl (zr rfl (ex8 pz b j rooms tr tm ps nw ⟨rfl,hj,(hb6.same sm).same s7,gd,hw1,by omega,pu,λt s1 H8 g8 kt w0 w1 m1 m9=>?_⟩))))
   have s8:=same_go36 hpz s7 g8.1
   refine hC _ _ _ ⟨ss++[(t,s1)],⟨_,rfl⟩,by rw [zB];rfl,by rw [zT,ls];rfl,λa ha=>?_,λa ha=>?_,sm.trans s8⟩
   ·rcases zV.mp ha with h | h
    ·exact s8 _ _ (ks a h)
    ·rw [zE.mp h];exact kt
   ·rcases zV.mp ha with h | h
    ·exact bs a h
    ·rw [zE.mp h];exact ⟨w0,by show s1.w < _;omega,m1,m9⟩
  rintro τ acc H5 ⟨ss,⟨t0,rfl⟩,rfl,ls,ks,bs,sm⟩ l hl
  have s5:=sm.trans (xB (o:=HO.lst (ss.map λa=>V.ref a.1)) hl)
  have kl:upd H5 l (HO.lst (ss.map λa=>V.ref a.1)) l=some (.lst (ss.map λa=>V.ref a.1)):=yy
  have ks5:∀ a∈ss,upd H5 l (HO.lst (ss.map λa=>V.ref a.1)) a.1=some (.tup [.int a.2.w,.int a.2.t,.int a.2.m]):=λa ha=>xB hl _ _ (ks a ha)
  have g5:=g06.same s5
  have nl:l≠hd:=(g06.same sm).2.ne hl
  have hl0:H l=none:=by
   cases z:H l with
   | none=>rfl
   | some o=>rw [sm _ _ (g06.1 _ _ nl z)] at hl;cases hl
  generalize upd H5 l (HO.lst (ss.map λa=>V.ref a.1))=H7 at s5 kl ks5 g5 ⊢
  refine (zr rfl (zr2 rfl rfl (zr rfl ?_)))
  refine iteA (fun σ H'=>∃ ss:List (Addr×S3),(∃ v6,σ=[some (.ref sa),some (.ref b),some (.ref hd),some (.int n),some (.int j),some (.int m),v6,some (.ref l)])/\SacksAt H' l ss/\ss.length<=8/\(∀ a∈ss,0<=a.2.w/\a.2.w < rooms.length/\1<=a.2.m/\a.2.m<=99)/\Go hd H H') ?_ (λc k=>?_) (λc=>⟨ss,⟨_,rfl⟩,⟨kl,ks5⟩,by omega,bs,g5⟩)
  ·rintro σ H9 ⟨ss,⟨v6,rfl⟩,hs,l8,bs,g9⟩
   exact (zr rfl (q l ss H9 hl0 g9 hs l8 bs))
  refine (zr rfl ⟨hd,zr rfl ⟨by decide,by decide,g5.2,λd3 H8 d30 d31 g8=>⟨rfl,zr rfl ?_⟩⟩⟩)
  have kl8:=g8.1 l _ nl kl
  have ks8:∀ a∈ss,H8 a.1=some (.tup [.int a.2.w,.int a.2.t,.int a.2.m]):=λa ha=>g8.tups g5.2 _ _ (ks5 a ha)
  refine iteN _ k (λc2 k2=>?_) (λc2=>⟨ss,⟨_,rfl⟩,⟨kl8,ks8⟩,by omega,bs,g5.trans g8⟩)
  have m1:1 < m:=by have:=of_decide_eq_true c;omega
  have a0:(ss.map λa=>V.ref a.1)[0]?=some (V.ref (ss[0]'(by omega)).1):=by rw [zG,zH (by omega)];rfl
  refine (zr rfl (ixl kl8 (xh (j:=0) a0) (zr rfl ⟨l,_,_,1,rfl,rfl,kl8,ixN_nat (k:=1) (by rw [zA];omega),k2 _ _ ⟨ss.set 1 (ss[0]'(by omega)),⟨_,rfl⟩,⟨by rw [yy,yL],λa ha=>?_⟩,by rw [zq];omega,λa ha=>?_,(g5.trans g8).put' hl0 nl⟩⟩)))
  ·have ha2:a∈ss:=by rcases yO ha with h | h;exact h;rw [h];exact zj _
   rw [xG (ne_of (ks8 a ha2) kl8 (by intro z;cases z))];exact ks8 a ha2
  ·have ha2:a∈ss:=by rcases yO ha with h | h;exact h;rw [h];exact zj _
   exact bs a ha2
theorem DV:FnScope ["_law_sacks_here", "_law_rests", "_law_walker", "_law_when", "_law_later", "_law_found", "_law_k", "_law_at", "_law_time_here", "_law_many", "_law_fits"] ["_law_sacks_here", "_law_rests", "_law_walker", "_law_when", "_law_later"] (defScope C8):=⟨rfl,rfl,rfl,by decide +kernel,rfl,by decide +kernel,by decide +kernel⟩
theorem FC (T:Tx K mg a):FnOk P w K mg base CX0 1 a.AZ a.BQ ["_law_sacks_here", "_law_rests", "_law_walker", "_law_when", "_law_later"] (spGoes36):=by
 refine T.Bt.ok DV (λvs H Q E h=>?_) (λcdv A outer s H vs Q E hr h=>?_)
 ·obtain ⟨_,_,_,_,_,_,_,rfl,_⟩:=h;rfl
 ·have nd:=DV.nd
  have hu:=hr.units
  obtain ⟨ls,lr,w0,t0,j,ps,rs,rfl,hs,hr1,lrs,l100,hj,q⟩:=h
  refine ⟨_,(@xI _ _ _ (@xO _ _ _ _ _ _ (xK (i:=5) nd rfl (by first | exact Or.inl rfl | exact Or.inr rfl) (@xV _ _ _ _ wP)) (@xO _ _ _ _ _ _ (ps_for PassesOwn.never rfl (wM rfl T.b_range (@yw _ _ _ (@yx _ _ _ _ _ (xH (xJ rfl) (by rfl) T.b_len PySem.boot_len (@yw _ _ _ (@yx _ _ _ _ _ (pv 0) xE rfl))) xE rfl))) (xC (i:=6) nd rfl (by first | exact Or.inl rfl | exact Or.inr rfl)) (@xI _ _ _ (@xO _ _ _ _ _ _ (xo (@xM _ _ _ _ _ _ _ (xL rfl) (pv 0) (pv 6) (λ_ _=>rfl)) (xX (n:=3) rfl rfl (xD (xC (i:=7) nd rfl (by first | exact Or.inl rfl | exact Or.inr rfl)) (xD (xC (i:=8) nd rfl (by first | exact Or.inl rfl | exact Or.inr rfl)) (xD (xC (i:=9) nd rfl (by first | exact Or.inl rfl | exact Or.inr rfl)) xW))))) (@xO _ _ _ _ _ _ (xK (i:=10) nd rfl (by first | exact Or.inl rfl | exact Or.inr rfl) (@xM _ _ _ _ _ _ _ (xL rfl) (@xV _ _ _ _ (@yw _ _ _ (@yx _ _ _ _ _ (@wE _ _ _ _ _ _ _ _ op_lt (pv 8) (pv 3) (nomark _)) (@yx _ _ _ _ _ (@wE _ _ _ _ _ _ _ _ op_ge (pv 8) (pv 3) (nomark _)) xE rfl) rfl))) (pv 4) (λ_ _=>rfl))) (@xT _ _ _ (@xZ _ _ _ _ _ _ _ _ (@PW.pt _ _ _ (@pw_and _ _ _ _ _ _ _ (@xP _ _ _ _ _ _ _ _ wU (pv 7) (pv 2) (nomark _)) (@pw_and _ _ _ _ _ _ _ (xx (pv 10)) (@pw_and1 _ _ _ _ (@xP _ _ _ _ _ _ _ _ op_gt (@xM _ _ _ _ _ _ _ (xL rfl) (pv 1) (pv 6) (λ_ _=>rfl)) yz (nomark _)))))) (@xI _ _ _ (@xT _ _ _ (ps_expr (pe_bm PySem.F.plainAttrs_list PySem.F.slot_list_append PySem.F.type_list_append mt_append (pv 5) (@yw _ _ _ (@yx _ _ _ _ _ (pv 6) xE rfl)))))) xS)))))) (@xT _ _ _ (@xR _ _ _ _ (pv 5)))))),?_⟩
  have line:=line9
  refine ⟨zg _,λl hl=>?_⟩
  have s1:=xB (o:=HO.lst []) hl
  have k1:upd H l (HO.lst []) l=some (.lst []):=yy
  generalize upd H l (HO.lst [])=H1 at s1 k1 ⊢
  refine (zr rfl ⟨ls,zr rfl ⟨.inl (SqL.of (s1 _ _ hs.l)),zr rfl ⟨by rw [zA];omega,by rw [zA];omega,?_⟩⟩⟩)
  rw [zA]
  refine for_range (lo:=0) (n:=ps.length) (λi σ H2=>∃ ks:List Nat,(∃ v6 v7 v8 v9 v10,σ=[some (.ref ls),some (.ref lr),some (.int w0),some (.int t0),some (.int j),some (.ref l),v6,v7,v8,v9,v10])/\H2 l=some (.lst (ks.map λk:Nat=>V.int (k:Int)))/\ks.length<=i/\(∀ k∈ks,∃ s r,(ps.map (·.2))[k]?=some s/\rs[k]?=some r/\s.w=w0/\fitB j s t0=true/\0 < r)/\Same H H2) ⟨[],⟨_,_,_,_,_,rfl⟩,k1,zF _,nofun,s1⟩ ?_ ?_
  ·rintro i σ H2 hi ⟨ks,⟨v6,v7,v8,v9,v10,rfl⟩,k2,lk,ek,sm⟩
   have hat:(ps.map λa=>V.ref a.1)[i]?=some (V.ref ps[i].1):=by simp [hi]
   have hir:i < rs.length:=by omega
   have mi:=zj hi
   have nx:∀ (H5:Hp) (x y z u v:Option V),Same H2 H5->∃ ks:List Nat,(∃ v6 v7 v8 v9 v10,[some (V.ref ls),some (.ref lr),some (.int w0),some (.int t0),some (.int j),some (.ref l),x,y,z,u,v]=[some (V.ref ls),some (.ref lr),some (.int w0),some (.int t0),some (.int j),some (.ref l),v6,v7,v8,v9,v10])/\H5 l=some (.lst (ks.map λk:Nat=>V.int (k:Int)))/\ks.length<=i + 1/\(∀ k∈ks,∃ s r,(ps.map (·.2))[k]?=some s/\rs[k]?=some r/\s.w=w0/\fitB j s t0=true/\0 < r)/\Same H H5:=λH5 x y z u v s5=>⟨ks,⟨_,_,_,_,_,rfl⟩,s5 _ _ k2,by omega,ek,sm.trans s5⟩
   refine (zr rfl (zr rfl (ixl (sm _ _ hs.l) (by rw [yH];exact xh hat) (un3 (sm _ _ (hs.each _ mi)) ?_))))
   refine (zr rfl (zr rfl (zr2 rfl rfl (zr rfl (zr rfl (zr2 rfl rfl ⟨by show 2<=_;omega,λu hu=>?_⟩))))))
   have s3:=xB (o:=HO.lst [V.bl (decide (ps[i].2.t < t0)),V.bl (decide (ps[i].2.t ≥ t0))]) hu
   have hfit:atI [V.bl (decide (ps[i].2.t < t0)),V.bl (decide (ps[i].2.t ≥ t0))] j=some (V.bl (fitB j ps[i].2 t0)):=by
    rcases hj with rfl | rfl
    ·rfl
    ·rfl
   refine (zr rfl (ixl yy hfit ?_))
   have sm3:=sm.trans s3
   have k3:=s3 _ _ k2
   generalize upd H2 u (HO.lst [V.bl (decide (ps[i].2.t < t0)),V.bl (decide (ps[i].2.t ≥ t0))])=H3 at s3 sm3 k3 ⊢
   refine (zr rfl (zr rfl ⟨rfl,zr rfl ?_⟩))
   by_cases c1:ps[i].2.w=w0
   ·refine iteB1 (decide_eq_true (by rw [c1])) (zr rfl (zr rfl ?_))
    cases c2:fitB j ps[i].2 t0 with
    | false=>exact iteB0 rfl (iteB0 rfl (nx _ _ _ _ _ _ s3))
    | true=>
     refine iteB1 rfl (zr rfl (zr rfl (ixl (sm3 _ _ hr1) (by rw [yH];exact xh (v:=V.int rs[i]) (by rw [zG,zH hir];rfl)) (zr2 rfl rfl (zr rfl ?_)))))
     by_cases c3:rs[i] > 0
     ·refine iteB1 (decide_eq_true c3) (zr rfl ⟨.inl ⟨rfl,_,SqL.of k3⟩,zr rfl ⟨l,zr2 rfl rfl ⟨k3,by rw [zA];omega,ks++[i],⟨_,_,_,_,_,rfl⟩,?_,by rw [zT];show ks.length + 1<=_;omega,λk hk=>?_,Same.put hl sm3⟩⟩⟩)
      ·rw [yy,zB,yH];rfl
      ·rcases zV.mp hk with h | h
       ·exact ek k h
       ·cases zE.mp h
        exact ⟨ps[i].2,rs[i],by rw [zG,zH hi];rfl,zH hir,c1,c2,c3⟩
     ·exact iteB0 (decide_eq_false c3) (nx _ _ _ _ _ _ s3)
   ·exact iteB0 (decide_eq_false λz=>c1 (V.int.inj z)) (iteB0 rfl (nx _ _ _ _ _ _ s3))
  ·rintro σ H2 ⟨ks,⟨v6,v7,v8,v9,v10,rfl⟩,k2,lk,ek,sm⟩
   exact (zr rfl (q l ks H2 hl sm k2 ek lk))
theorem Er:FnScope ["_law_purse_here", "_law_rooms_here", "_law_meeting", "_law_loads", "_law_wants", "_law_state", "_law_one", "_law_other", "_law_when", "_law_many", "_law_bags", "_law_rests", "_law_lacks", "_law_given", "_law_begun", "_law_come", "_law_ahead", "_law_turn", "_law_way", "_law_giver", "_law_taker", "_law_from", "_law_to", "_law_most", "_law_load", "_law_want", "_law_some"] ["_law_purse_here", "_law_rooms_here", "_law_meeting", "_law_loads", "_law_wants", "_law_state"] (defScope DG):=⟨rfl,rfl,rfl,by decide +kernel,rfl,by decide +kernel,by decide +kernel⟩
theorem FP (T:Tx K mg a):FnOk P w K mg base CX0 2 a.Bk a.BX ["_law_purse_here", "_law_rooms_here", "_law_meeting", "_law_loads", "_law_wants", "_law_state"] (spRow36):=by
 have Aa:=@xi P w _ _ base _ T
 have EF:=@FC P w _ _ base _ T
 refine T.BH.ok Er (λvs H Q E h=>?_) (λcdv A outer s H vs Q E hr h=>?_)
 ·obtain ⟨_,_,_,_,_,_,_,_,_,_,_,_,_,_,_,_,rfl,_⟩:=h;rfl
 ·have nd:=Er.nd
  have hu:=hr.units
  obtain ⟨p,tr,m,ll,lw,st,lb,lr,lk,rooms,r,ls,ws,bs,rs,ks,rfl,hp,htr,hm,hl,hW,hst,⟨hlb,hlr,hlk⟩,⟨n01,n02,n12,n0p,n1p,n2p⟩,⟨⟨nl0,nl1,nl2,nl3⟩,nw0,nw1,nw2,nw3⟩,⟨r0,r1,r2,rm1,rm9⟩,⟨eb,r12,er,ek,l8,w8⟩,rs0,ks0,bs0,bsr,q⟩:=h
  refine ⟨_,(@xI _ _ _ (@xO _ _ _ _ _ _ (xo (pv 2) (xX (n:=4) rfl rfl (xD (xC (i:=6) nd rfl (by first | exact Or.inl rfl | exact Or.inr rfl)) (xD (xC (i:=7) nd rfl (by first | exact Or.inl rfl | exact Or.inr rfl)) (xD (xC (i:=8) nd rfl (by first | exact Or.inl rfl | exact Or.inr rfl)) (xD (xC (i:=9) nd rfl (by first | exact Or.inl rfl | exact Or.inr rfl)) xW)))))) (@xO _ _ _ _ _ _ (xo (pv 5) (xX (n:=3) rfl rfl (xD (xC (i:=10) nd rfl (by first | exact Or.inl rfl | exact Or.inr rfl)) (xD (xC (i:=11) nd rfl (by first | exact Or.inl rfl | exact Or.inr rfl)) (xD (xC (i:=12) nd rfl (by first | exact Or.inl rfl | exact Or.inr rfl)) xW))))) (@xO _ _ _ _ _ _ (xK (i:=13) nd rfl (by first | exact Or.inl rfl | exact Or.inr rfl) (@xV _ _ _ _ (@yw _ _ _ (@yx _ _ _ _ _ yz (@yx _ _ _ _ _ yz xE rfl) rfl)))) (@xO _ _ _ _ _ _ (xK (i:=14) nd rfl (by first | exact Or.inl rfl | exact Or.inr rfl) (@xN _ _ _ _ _ _ _ _ op_rep (@xV _ _ _ _ (@yw _ _ _ (@yx _ _ _ _ _ yz xE rfl))) (xH (xJ rfl) (by rfl) T.b_len PySem.boot_len (@yw _ _ _ (@yx _ _ _ _ _ (pv 3) xE rfl))))) (@xO _ _ _ _ _ _ (xK (i:=15) nd rfl (by first | exact Or.inl rfl | exact Or.inr rfl) (@xN _ _ _ _ _ _ _ _ op_rep (@xV _ _ _ _ (@yw _ _ _ (@yx _ _ _ _ _ yz xE rfl))) (xH (xJ rfl) (by rfl) T.b_len PySem.boot_len (@yw _ _ _ (@yx _ _ _ _ _ (pv 4) xE rfl))))) (@xO _ _ _ _ _ _ (xK (i:=16) nd rfl (by first | exact Or.inl rfl | exact Or.inr rfl) (@xV _ _ _ _ (@yw _ _ _ (@yx _ _ _ _ _ (@xM _ _ _ _ _ _ _ (xL rfl) (pv 10) (pv 6) (λ_ _=>rfl)) (@yx _ _ _ _ _ (@xM _ _ _ _ _ _ _ (xL rfl) (pv 10) (pv 7) (λ_ _=>rfl)) xE rfl) rfl)))) (@xO _ _ _ _ _ _ (ps_for PassesOwn.never rfl (wM rfl T.b_range (@yw _ _ _ (@yx _ _ _ _ _ (xF Aa (hr.mono (by decide)) rfl T.Ab T.Ac T.Ae .nil pass0 (@yw _ _ _ (@yx _ _ _ _ _ (pv 0) (@yx _ _ _ _ _ yz xE rfl) rfl))) xE rfl))) (xC (i:=17) nd rfl (by first | exact Or.inl rfl | exact Or.inr rfl)) (@xI _ _ _ (@xO _ _ _ _ _ _ (xK (i:=18) nd rfl (by first | exact Or.inl rfl | exact Or.inr rfl) (xF Aa (hr.mono (by decide)) rfl T.Ab T.Ac T.Ae .nil pass0 (@yw _ _ _ (@yx _ _ _ _ _ (pv 0) (@yx _ _ _ _ _ yz xE rfl) rfl)))) (@xO _ _ _ _ _ _ (xo (@xM _ _ _ _ _ _ _ (xL rfl) (@xV _ _ _ _ (@yw _ _ _ (@yx _ _ _ _ _ (@xp _ _ _ _ _ (@yw _ _ _ (@yx _ _ _ _ _ (pv 6) (@yx _ _ _ _ _ (pv 7) xE rfl) rfl))) (@yx _ _ _ _ _ (@xp _ _ _ _ _ (@yw _ _ _ (@yx _ _ _ _ _ (pv 7) (@yx _ _ _ _ _ (pv 6) xE rfl) rfl))) xE rfl) rfl))) (pv 18) (λ_ _=>rfl)) (xX (n:=2) rfl rfl (xD (xC (i:=19) nd rfl (by first | exact Or.inl rfl | exact Or.inr rfl)) (xD (xC (i:=20) nd rfl (by first | exact Or.inl rfl | exact Or.inr rfl)) xW)))) (@xO _ _ _ _ _ _ (xK (i:=21) nd rfl (by first | exact Or.inl rfl | exact Or.inr rfl) (@xN _ _ _ _ _ _ _ _ op_cat (xF EF (hr.mono (by decide)) rfl T.Ew T.Ez T.EC .nil pass0 (@yw _ _ _ (@yx _ _ _ _ _ (pv 3) (@yx _ _ _ _ _ (pv 11) (@yx _ _ _ _ _ (pv 19) (@yx _ _ _ _ _ (pv 8) (@yx _ _ _ _ _ yz xE rfl) rfl) rfl) rfl) rfl))) (@xN _ _ _ _ _ _ _ _ op_rep (@xV _ _ _ _ (@yw _ _ _ (@yx _ _ _ _ _ (@pe_un _ _ _ _ _ _ un_neg yz) xE rfl))) (xu (call_int1) (by rfl) T.b_int ya (@yw _ _ _ (@yx _ _ _ _ _ (@wE _ _ _ _ _ _ _ _ op_gt (@xM _ _ _ _ _ _ _ (xL rfl) (pv 16) (pv 18) (λ_ _=>rfl)) yz (nomark _)) xE rfl)))))) (@xO _ _ _ _ _ _ (xK (i:=22) nd rfl (by first | exact Or.inl rfl | exact Or.inr rfl) (xF EF (hr.mono (by decide)) rfl T.Ew T.Ez T.EC .nil pass0 (@yw _ _ _ (@yx _ _ _ _ _ (pv 4) (@yx _ _ _ _ _ (pv 12) (@yx _ _ _ _ _ (pv 20) (@yx _ _ _ _ _ (pv 8) (@yx _ _ _ _ _ yz xE rfl) rfl) rfl) rfl) rfl)))) (@xO _ _ _ _ _ _ (xK (i:=22) nd rfl (by first | exact Or.inl rfl | exact Or.inr rfl) (@xN _ _ _ _ _ _ _ _ op_cat (pv 22) (@xN _ _ _ _ _ _ _ _ op_rep (@xV _ _ _ _ (@yw _ _ _ (@yx _ _ _ _ _ (@pe_un _ _ _ _ _ _ un_neg yz) xE rfl))) (xu (call_int1) (by rfl) T.b_int ya (@yw _ _ _ (@yx _ _ _ _ _ (@wE _ _ _ _ _ _ _ _ op_lt (@xM _ _ _ _ _ _ _ (xL rfl) (pv 10) (pv 20) (λ_ _=>rfl)) (@xM _ _ _ _ _ _ _ (xQ rfl) (pv 1) (pv 20) (λ_ _=>rfl)) (nomark _)) xE rfl)))))) (@xO _ _ _ _ _ _ (xK (i:=23) nd rfl (by first | exact Or.inl rfl | exact Or.inr rfl) (@xN _ _ _ _ _ _ _ _ wD (pv 9) (xH (call_sumL rfl) (by rfl) T.b_sum yD (@yw _ _ _ (@yx _ _ _ _ _ (pv 13) xE rfl))))) (@xO _ _ _ _ _ _ (@xZ _ _ _ _ _ _ _ _ (@PW.pt _ _ _ (@pw_or _ _ _ _ _ _ _ (@xP _ _ _ _ _ _ _ _ (op_eqNil hu) (pv 21) (@xV _ _ _ _ wP) (nomark _)) (@pw_or _ _ _ _ _ _ _ (@xP _ _ _ _ _ _ _ _ (op_eqNil hu) (pv 22) (@xV _ _ _ _ wP) (nomark _)) (@wO _ _ _ _ (@xP _ _ _ _ _ _ _ _ wU (pv 23) yz (nomark _)))))) (@xI _ _ _ (@xT _ _ _ ps_continue)) xS) (@xO _ _ _ _ _ _ (xK (i:=24) nd rfl (by first | exact Or.inl rfl | exact Or.inr rfl) (@xM _ _ _ _ _ _ _ (xL rfl) (pv 21) (xF Aa (hr.mono (by decide)) rfl T.Ab T.Ac T.Ae .nil pass0 (@yw _ _ _ (@yx _ _ _ _ _ (pv 0) (@yx _ _ _ _ _ (xH (xJ rfl) (by rfl) T.b_len PySem.boot_len (@yw _ _ _ (@yx _ _ _ _ _ (pv 21) xE rfl))) xE rfl) rfl))) (λ_ _=>rfl))) (@xO _ _ _ _ _ _ (xK (i:=25) nd rfl (by first | exact Or.inl rfl | exact Or.inr rfl) (@xM _ _ _ _ _ _ _ (xL rfl) (pv 22) (xF Aa (hr.mono (by decide)) rfl T.Ab T.Ac T.Ae .nil pass0 (@yw _ _ _ (@yx _ _ _ _ _ (pv 0) (@yx _ _ _ _ _ (xH (xJ rfl) (by rfl) T.b_len PySem.boot_len (@yw _ _ _ (@yx _ _ _ _ _ (pv 22) xE rfl))) xE rfl) rfl))) (λ_ _=>rfl))) (@xO _ _ _ _ _ _ (xK (i:=23) nd rfl (by first | exact Or.inl rfl | exact Or.inr rfl) (xH (call_min2 rfl) (by rfl) T.b_min yQ (@yw _ _ _ (@yx _ _ _ _ _ (pv 23) (@yx _ _ _ _ _ (@xM _ _ _ _ _ _ _ (xL rfl) (@xN _ _ _ _ _ _ _ _ op_cat (pv 11) (@xV _ _ _ _ (@yw _ _ _ (@yx _ _ _ _ _ (@xM _ _ _ _ _ _ _ (xL rfl) (pv 16) (pv 18) (λ_ _=>rfl)) xE rfl)))) (pv 24) (λ_ _=>rfl)) xE rfl) rfl)))) (@xO _ _ _ _ _ _ (xK (i:=23) nd rfl (by first | exact Or.inl rfl | exact Or.inr rfl) (xH (call_min2 rfl) (by rfl) T.b_min yQ (@yw _ _ _ (@yx _ _ _ _ _ (pv 23) (@yx _ _ _ _ _ (@xM _ _ _ _ _ _ _ (xL rfl) (@xN _ _ _ _ _ _ _ _ op_cat (pv 12) (@xV _ _ _ _ (@yw _ _ _ (@yx _ _ _ _ _ (@xN _ _ _ _ _ _ _ _ wD (@xM _ _ _ _ _ _ _ (xQ rfl) (pv 1) (pv 20) (λ_ _=>rfl)) (@xM _ _ _ _ _ _ _ (xL rfl) (pv 10) (pv 20) (λ_ _=>rfl))) xE rfl)))) (pv 25) (λ_ _=>rfl)) xE rfl) rfl)))) (@xO _ _ _ _ _ _ (xK (i:=26) nd rfl (by first | exact Or.inl rfl | exact Or.inr rfl) (@xN _ _ _ _ _ _ _ _ xf yz (xF Aa (hr.mono (by decide)) rfl T.Ab T.Ac T.Ae .nil pass0 (@yw _ _ _ (@yx _ _ _ _ _ (pv 0) (@yx _ _ _ _ _ (pv 23) xE rfl) rfl))))) (@xO _ _ _ _ _ _ (xo (@xN _ _ _ _ _ _ _ _ xf (@xM _ _ _ _ _ _ _ (xL rfl) (pv 13) (pv 18) (λ_ _=>rfl)) (pv 26)) (pg_sub (pv 13) (pv 18) xr)) (@xO _ _ _ _ _ _ (@xZ _ _ _ _ _ _ _ _ (@xP _ _ _ _ _ _ _ _ op_lt (pv 24) yz (nomark _)) (@xI _ _ _ (@xO _ _ _ _ _ _ (xo (@xN _ _ _ _ _ _ _ _ wD (@xM _ _ _ _ _ _ _ (xL rfl) (pv 16) (pv 18) (λ_ _=>rfl)) (pv 26)) (pg_sub (pv 16) (pv 18) xr)) (@xT _ _ _ (xo (@xN _ _ _ _ _ _ _ _ wD (@xM _ _ _ _ _ _ _ (xL rfl) (pv 10) (pv 19) (λ_ _=>rfl)) (pv 26)) (pg_sub (pv 10) (pv 19) xr))))) (@xI _ _ _ (@xO _ _ _ _ _ _ (xo (@xN _ _ _ _ _ _ _ _ wD (@xM _ _ _ _ _ _ _ (xL rfl) (pv 11) (pv 24) (λ_ _=>rfl)) (pv 26)) (pg_sub (pv 11) (pv 24) xr)) (@xT _ _ _ (xo (@xN _ _ _ _ _ _ _ _ xf (@xM _ _ _ _ _ _ _ (xL rfl) (pv 14) (pv 24) (λ_ _=>rfl)) (pv 26)) (pg_sub (pv 14) (pv 24) xr)))))) (@xT _ _ _ (@xZ _ _ _ _ _ _ _ _ (@xP _ _ _ _ _ _ _ _ op_lt (pv 25) yz (nomark _)) (@xI _ _ _ (@xT _ _ _ (xo (@xN _ _ _ _ _ _ _ _ xf (@xM _ _ _ _ _ _ _ (xL rfl) (pv 10) (pv 20) (λ_ _=>rfl)) (pv 26)) (pg_sub (pv 10) (pv 20) xr)))) (@xI _ _ _ (@xO _ _ _ _ _ _ (xo (@xN _ _ _ _ _ _ _ _ wD (@xM _ _ _ _ _ _ _ (xL rfl) (pv 12) (pv 25) (λ_ _=>rfl)) (pv 26)) (pg_sub (pv 12) (pv 25) xr)) (@xT _ _ _ (xo (@xN _ _ _ _ _ _ _ _ xf (@xM _ _ _ _ _ _ _ (xL rfl) (pv 15) (pv 25) (λ_ _=>rfl)) (pv 26)) (pg_sub (pv 15) (pv 25) xr))))))))))))))))))))))) (@xT _ _ _ (@xR _ _ _ _ (@xp _ _ _ _ _ (@yw _ _ _ (@yx _ _ _ _ _ (@xM _ _ _ _ _ _ _ (xL rfl) (pv 13) yz (λ_ _=>rfl)) (@yx _ _ _ _ _ (@xM _ _ _ _ _ _ _ (xL rfl) (pv 13) yz (λ_ _=>rfl)) (@yx _ _ _ _ _ (pv 14) (@yx _ _ _ _ _ (pv 15) xE rfl) rfl) rfl) rfl))))))))))))),?_⟩
  have line:=line9
  have e200:(2:Int) ^ 200 > 10000:=by decide
  have lsl:(ls.map (·.2)).length=ls.length:=zA _
  have wsl:(ws.map (·.2)).length=ws.length:=zA _
  refine ⟨_,rfl,m,_,rfl,SqT.of hm,rfl,_,_,rfl,_,_,rfl,_,_,rfl,_,_,rfl,rfl,?_⟩
  refine ⟨_,rfl,st,_,rfl,SqT.of hst,rfl,_,_,rfl,_,_,rfl,_,_,rfl,rfl,?_⟩
  refine nrmS [some (V.ref p),some (.ref tr),some (.ref m),some (.ref ll),some (.ref lw),some (.ref st),some (.int r.lo),some (.int r.hi),some (.int r.t),some (.int r.m),some (.ref lb),some (.ref lr),some (.ref lk),none,none,none,none,none,none,none,none,none,none,none,none,none,none] rfl ?_
  refine ⟨by show 2<=_;omega,λgv hgv=>?_⟩
  have s1:=xB (o:=HO.lst [V.int 0,V.int 0]) hgv
  have kg1:upd H gv (HO.lst [V.int 0,V.int 0]) gv=some (.lst ([(0:Int),0].map V.int)):=yy
  generalize upd H gv (HO.lst [V.int 0,V.int 0])=H1 at s1 kg1 ⊢
  have rep:∀ n:Nat,(List.replicate ((n:Int)).toNat [V.int 0]).flatten=(List.replicate n (0:Int)).map V.int:=λn=>by rw [zc];exact flat_rep n
  have bnd:∀ n:Nat,n<=100->-(2:Int) ^ 63<=(n:Int)/\(n:Int) < 2 ^ 63:=λn h=>⟨by omega,by omega⟩
  refine ⟨by show 1<=_;omega,λz1 hz1=>⟨_,rfl,ll,_,rfl,.inl (SqL.of (xB hz1 _ _ (s1 _ _ hl.l))),z1,_,_,rfl,rfl,yy,(bnd _ (by rw [zA];omega)).1,(bnd _ (by rw [zA];omega)).2,by rw [zA,zc];show 1 * _<=_;omega,λbg hbg=>?_⟩⟩
  rw [zA,rep]
  have s2:=(xB (o:=HO.lst [V.int 0]) hz1).trans (xB (o:=HO.lst ((List.replicate ls.length (0:Int)).map V.int)) hbg)
  have kb2:upd (upd H1 z1 (HO.lst [V.int 0])) bg (HO.lst ((List.replicate ls.length (0:Int)).map V.int)) bg=some (.lst ((List.replicate ls.length (0:Int)).map V.int)):=yy
  have fbg:H1 bg=none:=none_of (xB hz1) hbg
  generalize upd (upd H1 z1 (HO.lst [V.int 0])) bg (HO.lst ((List.replicate ls.length (0:Int)).map V.int))=H2 at s2 kb2 ⊢
  refine ⟨by show 1<=_;omega,λz2 hz2=>⟨_,rfl,lw,_,rfl,.inl (SqL.of (xB hz2 _ _ (s2 _ _ (s1 _ _ hW.l)))),z2,_,_,rfl,rfl,yy,(bnd _ (by rw [zA];omega)).1,(bnd _ (by rw [zA];omega)).2,by rw [zA,zc];show 1 * _<=_;omega,λcm hcm=>?_⟩⟩
  rw [zA,rep]
  have s3:=(xB (o:=HO.lst [V.int 0]) hz2).trans (xB (o:=HO.lst ((List.replicate ws.length (0:Int)).map V.int)) hcm)
  have kc3:upd (upd H2 z2 (HO.lst [V.int 0])) cm (HO.lst ((List.replicate ws.length (0:Int)).map V.int)) cm=some (.lst ((List.replicate ws.length (0:Int)).map V.int)):=yy
  have fcm:H2 cm=none:=none_of (xB hz2) hcm
  generalize upd (upd H2 z2 (HO.lst [V.int 0])) cm (HO.lst ((List.replicate ws.length (0:Int)).map V.int))=H3 at s3 kc3 ⊢
  have s03:=s1.trans (s2.trans s3)
  refine nrmG [some (V.ref p),some (.ref tr),some (.ref m),some (.ref ll),some (.ref lw),some (.ref st),some (.int r.lo),some (.int r.hi),some (.int r.t),some (.int r.m),some (.ref lb),some (.ref lr),some (.ref lk),some (.ref gv),some (.ref bg),some (.ref cm),none,none,none,none,none,none,none,none,none,none,none] rfl ?_
  refine ⟨_,rfl,_,rfl,lb,_,_,_,rfl,rfl,SqL.of (s03 _ _ hlb),bagA r0 (by omega),_,rfl,_,rfl,lb,_,_,_,rfl,rfl,SqL.of (s03 _ _ hlb),bagA (by omega) (by omega),by show 2<=_;omega,λah hah=>?_⟩
  have s4:=xB (o:=HO.lst [V.int (bag bs r.lo),V.int (bag bs r.hi)]) hah
  have ka4:upd H3 ah (HO.lst [V.int (bag bs r.lo),V.int (bag bs r.hi)]) ah=some (.lst ([bag bs r.lo,bag bs r.hi].map V.int)):=yy
  generalize upd H3 ah (HO.lst [V.int (bag bs r.lo),V.int (bag bs r.hi)])=H4 at s4 ka4 ⊢
  have s04:=s03.trans s4
  have fcmH:H cm=none:=none_of (s1.trans s2) fcm
  have fbgH:H bg=none:=none_of s1 fbg
  have fahH:H ah=none:=none_of s03 hah
  have kgH:=s4 _ _ (s3 _ _ (s2 _ _ kg1))
  have kbH:=s4 _ _ (s3 _ _ kb2)
  have kcH:=s4 _ _ kc3
  have nn:∀ {c d:Addr}{Hx:Hp}{u:HO},Hx c=some u->Hx d=none->c≠d:=λh1 h2=>xA h1 h2
  have ra:RowA H p (A7 lb lr lk gv bg cm ah):=by
   refine RowA.mk7 ?_ ?_ hgv fbgH fcmH fahH
   ·have q1:=nn hlb hgv;have q2:=nn hlr hgv;have q3:=nn hlk hgv
    have q4:=nn hlb fbgH;have q5:=nn hlr fbgH;have q6:=nn hlk fbgH;have q7:=nn kg1 fbg
    have q8:=nn hlb fcmH;have q9:=nn hlr fcmH;have q10:=nn hlk fcmH;have q11:=nn (s2 _ _ kg1) fcm;have q12:=nn kb2 fcm
    have q13:=nn hlb fahH;have q14:=nn hlr fahH;have q15:=nn hlk fahH;have q16:=nn (s3 _ _ (s2 _ _ kg1)) hah;have q17:=nn (s3 _ _ kb2) hah;have q18:=nn kc3 hah
    simp only [yn,zC,zI,or_false,not_or,yu,and_true]
    exact ⟨⟨n01,n02,q1,q4,q8,q13⟩,⟨n12,q2,q5,q9,q14⟩,⟨q3,q6,q10,q15⟩,⟨q7,q11,q16⟩,⟨q12,q17⟩,q18,not_false⟩
   ·intro x hx
    simp only [zC,zI,or_false] at hx
    rcases hx with rfl | rfl | rfl | rfl | rfl | rfl | rfl
    ·exact n0p
    ·exact n1p
    ·exact n2p
    ·exact hp.ne hgv
    ·exact hp.ne fbgH
    ·exact hp.ne fcmH
    ·exact hp.ne fahH
  have l03:∀ i,i < 3->∃ xs,H (A7 lb lr lk gv bg cm ah i)=some (.lst xs):=λi hi=>by
   rcases i with _ | _ | _ | i
   ·exact ⟨_,hlb⟩
   ·exact ⟨_,hlr⟩
   ·exact ⟨_,hlk⟩
   ·omega
  have rh4:RowH H p (A7 lb lr lk gv bg cm ah) (F7 bs rs ks [0,0] (List.replicate ls.length 0) (List.replicate ws.length 0) [bag bs r.lo,bag bs r.hi]) H4:=by
   refine ⟨by obtain ⟨x,y,z,e⟩:=hp;exact ⟨x,y,z,s04 _ _ e⟩,λi hi=>?_,λc u _ _ _ _ e=>s04 _ _ e⟩
   rcases i with _ | _ | _ | _ | _ | _ | _ | i
   ·exact s04 _ _ hlb
   ·exact s04 _ _ hlr
   ·exact s04 _ _ hlk
   ·exact kgH
   ·exact kbH
   ·exact kcH
   ·exact ka4
   ·omega
  have ri4:RI r (ls.map (·.2)) (ws.map (·.2)) rooms bs rs ks 0 0 (bag bs r.lo) (bag bs r.hi) (List.replicate ls.length 0) (List.replicate ws.length 0) bs rs ks:=by
   have:=RI.start (r:=r) (ls:=ls.map (·.2)) (ws:=ws.map (·.2)) (rooms:=rooms) (bs:=bs) (by rw [lsl];exact er) (by rw [wsl];exact ek) rs0 ks0 (by omega) bs0 bsr
   rwa [lsl,wsl] at this
  have hrr:0<=r.lo/\r.lo < bs.length/\0<=r.hi/\r.hi < bs.length/\r.lo≠r.hi:=⟨r0,by omega,by omega,by omega,by omega⟩
  generalize hA:A7 lb lr lk gv bg cm ah=A at ra l03 rh4
  have A0:A 0=lb:=by rw [<-hA];rfl
  have A1:A 1=lr:=by rw [<-hA];rfl
  have A2:A 2=lk:=by rw [<-hA];rfl
  have A3:A 3=gv:=by rw [<-hA];rfl
  have A4:A 4=bg:=by rw [<-hA];rfl
  have A5:A 5=cm:=by rw [<-hA];rfl
  have A6:A 6=ah:=by rw [<-hA];rfl
  refine ⟨_,rfl,p,_,rfl,by decide,by decide,rh4.pu,λdn H7 d0 d1 g7=>⟨_,rfl,by omega,by omega,?_⟩⟩
  have rh7:=rh4.go ra g7
  obtain ⟨nd1,rfl⟩:=ze d0
  refine for_range (lo:=0) (n:=((nd1:Int)).toNat) (λi σ H8=>∃ g0 g1 a0 a1 bgl cml bs' rs' ks',(∃ v17 v18 v19 v20 v21 v22 v23 v24 v25 v26,σ=[some (.ref p),some (.ref tr),some (.ref m),some (.ref ll),some (.ref lw),some (.ref st),some (.int r.lo),some (.int r.hi),some (.int r.t),some (.int r.m),some (.ref lb),some (.ref lr),some (.ref lk),some (.ref gv),some (.ref bg),some (.ref cm),some (.ref ah),v17,v18,v19,v20,v21,v22,v23,v24,v25,v26])/\RI r (ls.map (·.2)) (ws.map (·.2)) rooms bs rs ks g0 g1 a0 a1 bgl cml bs' rs' ks'/\RowH H p A (F7 bs' rs' ks' [g0,g1] bgl cml [a0,a1]) H8) ⟨_,_,_,_,_,_,_,_,_,⟨_,_,_,_,_,_,_,_,_,_,rfl⟩,ri4,rh7⟩ ?_ ?_
  ·rintro i σ H8 hi ⟨g0,g1,a0,a1,bgl,cml,bs',rs',ks',⟨v17,v18,v19,v20,v21,v22,v23,v24,v25,v26,rfl⟩,ri,rh⟩
   have k8:=rh.ls
   refine ⟨_,rfl,p,_,rfl,by decide,by decide,rh.pu,λway H9 w0 w1 g9=>?_⟩
   have hw:way=0\/way=1:=by omega
   have rh9:=rh.go ra g9
   refine ⟨_,rfl,_,rfl,two36,λu1 hu1=>?_⟩
   have t1:=xB (o:=HO.tup [V.int r.lo,V.int r.hi]) hu1
   have ku1:upd H9 u1 (HO.tup [V.int r.lo,V.int r.hi]) u1=some (.tup [V.int r.lo,V.int r.hi]):=yy
   generalize upd H9 u1 (HO.tup [V.int r.lo,V.int r.hi])=H10 at t1 ku1 ⊢
   refine ⟨_,rfl,_,rfl,two36,λu2 hu2=>?_⟩
   have t2:=xB (o:=HO.tup [V.int r.hi,V.int r.lo]) hu2
   have ku2:upd H10 u2 (HO.tup [V.int r.hi,V.int r.lo]) u2=some (.tup [V.int r.hi,V.int r.lo]):=yy
   generalize upd H10 u2 (HO.tup [V.int r.hi,V.int r.lo])=H11 at t2 ku2 ⊢
   refine ⟨two36,λu3 hu3=>?_⟩
   have t3:=xB (o:=HO.lst [V.ref u1,V.ref u2]) hu3
   have ku3:upd H11 u3 (HO.lst [V.ref u1,V.ref u2]) u3=some (.lst [V.ref u1,V.ref u2]):=yy
   generalize upd H11 u3 (HO.lst [V.ref u1,V.ref u2])=H12 at t3 ku3 ⊢
   have rh12:=rh9.same (t1.trans (t2.trans t3))
   have ksel:H12 (sel way u1 u2)=some (.tup [V.int (sel way r.lo r.hi),V.int (sel way r.hi r.lo)]):=by
    rcases hw with rfl | rfl
    ·exact t3 _ _ (t2 _ _ ku1)
    ·exact t3 _ _ ku2
   have hsel:atI [V.ref u1,V.ref u2] way=some (V.ref (sel way u1 u2)):=by rcases hw with rfl | rfl <;> rfl
   refine ⟨_,rfl,u3,_,_,_,rfl,rfl,SqL.of ku3,hsel,sel way u1 u2,_,rfl,SqT.of ksel,rfl,_,_,rfl,_,_,rfl,rfl,?_⟩
   refine nrmS [some (V.ref p),some (.ref tr),some (.ref m),some (.ref ll),some (.ref lw),some (.ref st),some (.int r.lo),some (.int r.hi),some (.int r.t),some (.int r.m),some (.ref lb),some (.ref lr),some (.ref lk),some (.ref gv),some (.ref bg),some (.ref cm),some (.ref ah),some (.int (0 + (i:Int))),some (.int way),some (.int (sel way r.lo r.hi)),some (.int (sel way r.hi r.lo)),v21,v22,v23,v24,v25,v26] rfl ?_
   have hG:0<=sel way r.lo r.hi/\sel way r.lo r.hi < bs.length:=sel_both (P:=λx:Int=>0<=x/\x < bs.length) ⟨r0,by omega⟩ ⟨by omega,by omega⟩
   have hT:0<=sel way r.hi r.lo/\sel way r.hi r.lo < bs.length:=sel_both (P:=λx:Int=>0<=x/\x < bs.length) ⟨by omega,by omega⟩ ⟨r0,by omega⟩
   have step:=λ(o1 o2:Option Nat) (s:Int)=>ri.step (s:=s) (way:=way) (o1:=o1) (o2:=o2) hw hrr eb
   have ha01:0<=sel way a0 a1:=sel_both (P:=λx:Int=>0<=x) ri.p0 ri.p1
   have lrs':rs'.length=ls.length:=by have:=ri.L.rl';rwa [lsl] at this
   have lks':ks'.length=ws.length:=by have:=ri.W.rl';rwa [wsl] at this
   have lbs':=ri.bl
   have r8:rs'.length<=8:=by rw [lrs'];exact l8
   have k8':ks'.length<=8:=by rw [lks'];exact w8
   generalize hGe:sel way r.lo r.hi=G at *
   generalize hTe:sel way r.hi r.lo=T at *
   have at3:=λ(Hx:Hp) (h:RowH H p A (F7 bs' rs' ks' [g0,g1] bgl cml [a0,a1]) Hx)=>h.ls
   have hl12:=rh12.sacks hp l03 hl nl0 (by rw [A0];exact nl1) (by rw [A1];exact nl2) (by rw [A2];exact nl3)
   have klr:H12 lr=some (.lst (rs'.map V.int)):=by have:=rh12.ls 1 (by decide);rwa [A1] at this
   refine ⟨_,rfl,_,rfl,_,rfl,_,rfl,ll,lr,G,r.t,0,ls,rs',rfl,hl12,klr,lrs',zm l8 (by decide),.inl rfl,λl1 ks1 H13 hl1 s13 kl1 mem1 len1=>?_⟩
   have rh13:=rh12.same s13
   refine ⟨_,rfl,one36,λy1 hy1=>?_⟩
   have s14:=xB (o:=HO.lst [V.int (-1)]) hy1
   have ky1:upd H13 y1 (HO.lst [V.int (-1)]) y1=some (.lst [V.int (-1)]):=yy
   generalize upd H13 y1 (HO.lst [V.int (-1)])=H14 at s14 ky1 ⊢
   have rh14:=rh13.same s14
   have kah:H14 ah=some (.lst ([a0,a1].map V.int)):=by have:=rh14.ls 6 (by decide);rwa [A6] at this
   have b01:=b01_36 (V.int (-1))
   have len18:ks1.length<=8:=zm len1 l8
   refine ⟨_,rfl,_,rfl,ah,_,_,_,rfl,rfl,SqL.of kah,sel_map hw,_,_,rfl,rfl,.inr ⟨_,rfl,y1,_,_,rfl,rfl,ky1,(b01 _).1,(b01 _).2.1,(b01 _).2.2,λy2 hy2=>?_⟩⟩
   refine ⟨l1,y2,_,_,rfl,rfl,xB hy2 _ _ (s14 _ _ kl1),yy,lopt36 _ len18,λl2 hl2=>?_⟩
   rw [opts_rep] at hl2 ⊢
   rw [opts_map]
   have s15:=Same.trans (xB hy2) (xB (o:=HO.lst ((opts ks1 (decide (0 < sel way a0 a1))).map V.int)) hl2)
   have nl2:l2≠p:=(rh14.same (xB hy2)).pu.ne hl2
   have kl2:=yy (H:=upd H14 y2 (HO.lst ((if decide (0 < sel way a0 a1)=true then [(-1:Int)] else []).map V.int))) (a:=l2) (o:=HO.lst ((opts ks1 (decide (0 < sel way a0 a1))).map V.int))
   generalize upd (upd H14 y2 (HO.lst ((if decide (0 < sel way a0 a1)=true then [(-1:Int)] else []).map V.int))) l2 (HO.lst ((opts ks1 (decide (0 < sel way a0 a1))).map V.int))=H15 at s15 kl2 ⊢
   refine nrmG [some (V.ref p),some (.ref tr),some (.ref m),some (.ref ll),some (.ref lw),some (.ref st),some (.int r.lo),some (.int r.hi),some (.int r.t),some (.int r.m),some (.ref lb),some (.ref lr),some (.ref lk),some (.ref gv),some (.ref bg),some (.ref cm),some (.ref ah),some (.int (0 + (i:Int))),some (.int way),some (.int G),some (.int T),some (.ref l2),v22,v23,v24,v25,v26] rfl ?_
   have rh15:=rh14.same s15
   have hw15:=rh15.sacks hp l03 hW nw0 (by rw [A0];exact nw1) (by rw [A1];exact nw2) (by rw [A2];exact nw3)
   have klk:H15 lk=some (.lst (ks'.map V.int)):=by have:=rh15.ls 2 (by decide);rwa [A2] at this
   refine ⟨_,rfl,_,rfl,_,rfl,_,rfl,lw,lk,T,r.t,1,ws,ks',rfl,hw15,klk,lks',zm w8 (by decide),.inr rfl,λl3 ks2 H16 hl3 s16 kl3 mem2 len2=>?_⟩
   have rh16:=rh15.same s16
   have len28:ks2.length<=8:=zm len2 w8
   refine ⟨_,rfl,_,rfl,one36,λy3 hy3=>?_⟩
   have s17:=xB (o:=HO.lst [V.int (-1)]) hy3
   have ky3:upd H16 y3 (HO.lst [V.int (-1)]) y3=some (.lst [V.int (-1)]):=yy
   generalize upd H16 y3 (HO.lst [V.int (-1)])=H17 at s17 ky3 ⊢
   have rh17:=rh16.same s17
   have klb17:H17 lb=some (.lst (bs'.map V.int)):=by have:=rh17.ls 0 (by decide);rwa [A0] at this
   have ktr17:=rh17.tup hp l03 htr
   refine ⟨_,rfl,_,rfl,lb,_,_,_,rfl,rfl,SqL.of klb17,bagA hT.1 (by rw [lbs'];exact hT.2),_,rfl,_,rfl,tr,_,_,_,rfl,rfl,SqT.of ktr17,bagA hT.1 (by rw [<-eb];exact hT.2),_,_,rfl,rfl,.inr ⟨_,rfl,y3,_,_,rfl,rfl,ky3,(b01 _).1,(b01 _).2.1,(b01 _).2.2,λy4 hy4=>?_⟩⟩
   refine ⟨l3,y4,_,_,rfl,rfl,xB hy4 _ _ (s17 _ _ kl3),yy,lopt36 _ len28,λl4 hl4=>?_⟩
   rw [opts_rep] at hl4 ⊢
   rw [opts_map]
   have s18:=Same.trans (xB hy4) (xB (o:=HO.lst ((opts ks2 (decide (bag bs' T < bag rooms T))).map V.int)) hl4)
   have nl4:l4≠p:=(rh17.same (xB hy4)).pu.ne hl4
   have kl4:=yy (H:=upd H17 y4 (HO.lst ((if decide (bag bs' T < bag rooms T)=true then [(-1:Int)] else []).map V.int))) (a:=l4) (o:=HO.lst ((opts ks2 (decide (bag bs' T < bag rooms T))).map V.int))
   generalize upd (upd H17 y4 (HO.lst ((if decide (bag bs' T < bag rooms T)=true then [(-1:Int)] else []).map V.int))) l4 (HO.lst ((opts ks2 (decide (bag bs' T < bag rooms T))).map V.int))=H18 at s18 kl4 ⊢
   refine nrmG [some (V.ref p),some (.ref tr),some (.ref m),some (.ref ll),some (.ref lw),some (.ref st),some (.int r.lo),some (.int r.hi),some (.int r.t),some (.int r.m),some (.ref lb),some (.ref lr),some (.ref lk),some (.ref gv),some (.ref bg),some (.ref cm),some (.ref ah),some (.int (0 + (i:Int))),some (.int way),some (.int G),some (.int T),some (.ref l2),some (.ref l4),v23,v24,v25,v26] rfl ?_
   have rh18:=rh17.same s18
   have kl2:=s18 _ _ (s17 _ _ (s16 _ _ kl2))
   have kgv:H18 gv=some (.lst ([g0,g1].map V.int)):=by have:=rh18.ls 3 (by decide);rwa [A3] at this
   refine ⟨_,rfl,_,rfl,gv,_,rfl,SqL.of kgv,_,_,rfl,rfl,?_⟩
   refine nrmG [some (V.ref p),some (.ref tr),some (.ref m),some (.ref ll),some (.ref lw),some (.ref st),some (.int r.lo),some (.int r.hi),some (.int r.t),some (.int r.m),some (.ref lb),some (.ref lr),some (.ref lk),some (.ref gv),some (.ref bg),some (.ref cm),some (.ref ah),some (.int (0 + (i:Int))),some (.int way),some (.int G),some (.int T),some (.ref l2),some (.ref l4),some (.int (r.m - ([g0,g1]:List Int).sum)),v24,v25,v26] rfl ?_
   refine ⟨_,rfl,zg _,λe1 he1=>?_⟩
   have s19:=xB (o:=HO.lst []) he1
   have ke1:upd H18 e1 (HO.lst []) e1=some (.lst []):=yy
   generalize upd H18 e1 (HO.lst [])=H19 at s19 ke1 ⊢
   have rh19:=rh18.same s19
   refine ⟨l2,e1,_,rfl,rfl,SqL.of (s19 _ _ kl2),SqL.of ke1,_,rfl,iteB (λc=>iteB1 rfl ⟨g0,g1,a0,a1,bgl,cml,bs',rs',ks',⟨_,_,_,_,_,_,_,_,_,_,rfl⟩,ri,rh19⟩) (λc1=>?_)⟩
   refine ⟨_,rfl,zg _,λe2 he2=>?_⟩
   have s20:=xB (o:=HO.lst []) he2
   have ke2:upd H19 e2 (HO.lst []) e2=some (.lst []):=yy
   generalize upd H19 e2 (HO.lst [])=H20 at s20 ke2 ⊢
   have rh20:=rh19.same s20
   have kl2:=s20 _ _ (s19 _ _ kl2)
   have kl4:=s20 _ _ (s19 _ _ kl4)
   refine ⟨l4,e2,_,rfl,rfl,SqL.of kl4,SqL.of ke2,_,rfl,iteB (λc=>iteB1 rfl ⟨g0,g1,a0,a1,bgl,cml,bs',rs',ks',⟨_,_,_,_,_,_,_,_,_,_,rfl⟩,ri,rh20⟩) (λc2=>⟨_,rfl,rfl,_,rfl,iteB (λc=>⟨g0,g1,a0,a1,bgl,cml,bs',rs',ks',⟨_,_,_,_,_,_,_,_,_,_,rfl⟩,ri,rh20⟩) (λc3=>?_)⟩)⟩
   have c3:r.m - ([g0,g1]:List Int).sum≠0:=λz=>of_decide_eq_false c3 (congrArg V.int z)
   have sm2:([g0,g1]:List Int).sum=g0 + g1:=by simp
   rw [sm2] at c3 ⊢
   have c1:=opts_pos c1
   have c2:=opts_pos c2
   have tk1:=take_n c1 (opts_len len18)
   have tk2:=take_n c2 (opts_len len28)
   refine ⟨_,rfl,_,rfl,_,rfl,l2,_,rfl,.inl (SqL.of kl2),p,_,rfl,tk1.1,tk1.2,rh20.pu,λd5 H21 d50 d51 g21=>?_⟩
   obtain ⟨i5,rfl⟩:=ze d50
   have rh21:=rh20.go ra g21
   obtain ⟨x5,hx5⟩:=some_ix d51
   obtain ⟨o1,rfl,ob1,om1⟩:=opts_at hx5
   refine ⟨l2,_,_,_,rfl,rfl,SqL.of (g21.1 _ _ nl2 kl2),xh (by rw [zG,hx5];rfl),?_⟩
   refine nrmG [some (V.ref p),some (.ref tr),some (.ref m),some (.ref ll),some (.ref lw),some (.ref st),some (.int r.lo),some (.int r.hi),some (.int r.t),some (.int r.m),some (.ref lb),some (.ref lr),some (.ref lk),some (.ref gv),some (.ref bg),some (.ref cm),some (.ref ah),some (.int (0 + (i:Int))),some (.int way),some (.int G),some (.int T),some (.ref l2),some (.ref l4),some (.int (r.m - (g0 + g1))),some (.int (oI o1)),v25,v26] rfl ?_
   have kl4:=g21.1 _ _ nl4 kl4
   refine ⟨_,rfl,_,rfl,_,rfl,l4,_,rfl,.inl (SqL.of kl4),p,_,rfl,tk2.1,tk2.2,rh21.pu,λd6 H22 d60 d61 g22=>?_⟩
   obtain ⟨i6,rfl⟩:=ze d60
   have rh22:=rh21.go ra g22
   obtain ⟨x6,hx6⟩:=some_ix d61
   obtain ⟨o2,rfl,ob2,om2⟩:=opts_at hx6
   refine ⟨l4,_,_,_,rfl,rfl,SqL.of (g22.1 _ _ nl4 kl4),xh (by rw [zG,hx6];rfl),?_⟩
   refine nrmG [some (V.ref p),some (.ref tr),some (.ref m),some (.ref ll),some (.ref lw),some (.ref st),some (.int r.lo),some (.int r.hi),some (.int r.t),some (.int r.m),some (.ref lb),some (.ref lr),some (.ref lk),some (.ref gv),some (.ref bg),some (.ref cm),some (.ref ah),some (.int (0 + (i:Int))),some (.int way),some (.int G),some (.int T),some (.ref l2),some (.ref l4),some (.int (r.m - (g0 + g1))),some (.int (oI o1)),some (.int (oI o2)),v26] rfl ?_
   obtain ⟨p1,x1,may1⟩:=pick_pos mem1 ob1 om1 of_decide_eq_true
   obtain ⟨p2,x2,may2⟩:=pick_pos (a:=bag rooms T - bag bs' T) mem2 ob2 om2 λh=>Int.sub_pos.mpr (of_decide_eq_true h)
   have kah:H22 ah=some (.lst ([a0,a1].map V.int)):=by have:=rh22.ls 6 (by decide);rwa [A6] at this
   have klr:H22 lr=some (.lst (rs'.map V.int)):=by have:=rh22.ls 1 (by decide);rwa [A1] at this
   refine ⟨_,rfl,_,rfl,_,rfl,_,rfl,ah,_,_,_,rfl,rfl,SqL.of kah,sel_map hw,one36,λy5 hy5=>?_⟩
   refine ⟨lr,y5,_,_,rfl,rfl,xB hy5 _ _ klr,yy,cat_n r8,λy6 hy6=>?_⟩
   have s23:=Same.trans (xB hy5) (xB (o:=HO.lst (rs'.map V.int++[V.int (sel way a0 a1)])) hy6)
   refine ⟨_,rfl,y6,_,_,_,rfl,rfl,SqL.of yy,pick_at p1,_,_,rfl,?_⟩
   generalize upd (upd H22 y5 (HO.lst [V.int (sel way a0 a1)])) y6 (HO.lst (rs'.map V.int++[V.int (sel way a0 a1)]))=H23 at s23 ⊢
   have rh23:=rh22.same s23
   refine nrmG [some (V.ref p),some (.ref tr),some (.ref m),some (.ref ll),some (.ref lw),some (.ref st),some (.int r.lo),some (.int r.hi),some (.int r.t),some (.int r.m),some (.ref lb),some (.ref lr),some (.ref lk),some (.ref gv),some (.ref bg),some (.ref cm),some (.ref ah),some (.int (0 + (i:Int))),some (.int way),some (.int G),some (.int T),some (.ref l2),some (.ref l4),some (.int (if pk rs' (sel way a0 a1) o1 < r.m - (g0 + g1) then pk rs' (sel way a0 a1) o1 else r.m - (g0 + g1))),some (.int (oI o1)),some (.int (oI o2)),v26] rfl ?_
   have klb:H23 lb=some (.lst (bs'.map V.int)):=by have:=rh23.ls 0 (by decide);rwa [A0] at this
   have klk:H23 lk=some (.lst (ks'.map V.int)):=by have:=rh23.ls 2 (by decide);rwa [A2] at this
   have ktr:=rh23.tup hp l03 htr
   refine ⟨_,rfl,_,rfl,_,rfl,_,rfl,tr,_,_,_,rfl,rfl,SqT.of ktr,bagA hT.1 (by rw [<-eb];exact hT.2),_,rfl,_,rfl,lb,_,_,_,rfl,rfl,SqL.of klb,bagA hT.1 (by rw [lbs'];exact hT.2),_,_,rfl,rfl,one36,λy7 hy7=>?_⟩
   refine ⟨lk,y7,_,_,rfl,rfl,xB hy7 _ _ klk,yy,cat_n k8',λy8 hy8=>?_⟩
   have s24:=Same.trans (xB hy7) (xB (o:=HO.lst (ks'.map V.int++[V.int (bag rooms T - bag bs' T)])) hy8)
   refine ⟨_,rfl,y8,_,_,_,rfl,rfl,SqL.of yy,pick_at p2,_,_,rfl,?_⟩
   generalize upd (upd H23 y7 (HO.lst [V.int (bag rooms T - bag bs' T)])) y8 (HO.lst (ks'.map V.int++[V.int (bag rooms T - bag bs' T)]))=H24 at s24 ⊢
   have rh24:=rh23.same s24
   have M0:0 < r.m - (g0 + g1):=m0_36 ri.gm c3
   have M9:r.m - (g0 + g1)<=99:=m9_36 ri.z0 ri.z1 rm9
   obtain ⟨M,eM,m0,m200,m1,m2,m3⟩:=min3_36 (r.m - (g0 + g1)) (pk rs' (sel way a0 a1) o1) (pk ks' (bag rooms T - bag bs' T) o2) M0 M9 x1 x2
   rw [eM]
   clear eM
   refine nrmG [some (V.ref p),some (.ref tr),some (.ref m),some (.ref ll),some (.ref lw),some (.ref st),some (.int r.lo),some (.int r.hi),some (.int r.t),some (.int r.m),some (.ref lb),some (.ref lr),some (.ref lk),some (.ref gv),some (.ref bg),some (.ref cm),some (.ref ah),some (.int (0 + (i:Int))),some (.int way),some (.int G),some (.int T),some (.ref l2),some (.ref l4),some (.int M),some (.int (oI o1)),some (.int (oI o2)),v26] rfl ?_
   refine ⟨_,rfl,_,rfl,p,_,rfl,m0,m200,rh24.pu,λd7 H25 d70 d71 g25=>⟨_,_,rfl,rfl,?_⟩⟩
   have rh25:=rh24.go ra g25
   obtain ⟨s,es⟩:∃ s:Int,s=1 + d7:=⟨_,rfl⟩
   have sM:s<=M:=s36 es d71
   have s1M:1<=s:=s36' es d70
   have ri2:=step o1 o2 s s1M (Int.le_trans sM m1) (may1 s (Int.le_trans sM m2) _ λx h=>of_decide_eq_true h) (may2 s (Int.le_trans sM m3) _ λx h=>of_decide_eq_true h)
   subst es
   refine nrmG [some (V.ref p),some (.ref tr),some (.ref m),some (.ref ll),some (.ref lw),some (.ref st),some (.int r.lo),some (.int r.hi),some (.int r.t),some (.int r.m),some (.ref lb),some (.ref lr),some (.ref lk),some (.ref gv),some (.ref bg),some (.ref cm),some (.ref ah),some (.int (0 + (i:Int))),some (.int way),some (.int G),some (.int T),some (.ref l2),some (.ref l4),some (.int M),some (.int (oI o1)),some (.int (oI o2)),some (.int (1 + d7))] rfl ?_
   have kgv:H25 gv=some (.lst ([g0,g1].map V.int)):=by have:=rh25.ls 3 (by decide);rwa [A3] at this
   refine ⟨_,rfl,_,rfl,gv,_,_,_,rfl,rfl,SqL.of kgv,sel_map hw,_,rfl,_,_,rfl,rfl,_,rfl,_,rfl,gv,_,_,way.toNat,rfl,rfl,kgv,ixNI w0 w1,?_⟩
   have rh26:=rh25.set3 ra (y:=[sel way (g0 + (1 + d7)) g0,sel way g1 (g1 + (1 + d7))]) (ys:=([g0,g1].map V.int).set way.toNat (V.int (sel way g0 g1 + (1 + d7)))) (by rw [sel_set hw];rcases hw with rfl | rfl <;> rfl)
   rw [A3] at rh26
   generalize upd H25 gv _=H26 at rh26 ⊢
   refine ⟨_,rfl,_,_,rfl,rfl,_,rfl,?_⟩
   refine iteE (fun σ H'=>(∃ v17 v21 v22 v23,σ=[some (.ref p),some (.ref tr),some (.ref m),some (.ref ll),some (.ref lw),some (.ref st),some (.int r.lo),some (.int r.hi),some (.int r.t),some (.int r.m),some (.ref lb),some (.ref lr),some (.ref lk),some (.ref gv),some (.ref bg),some (.ref cm),some (.ref ah),v17,some (.int way),some (.int G),some (.int T),v21,v22,v23,some (.int (oI o1)),some (.int (oI o2)),some (.int (1 + d7))])/\RowH H p A (F7 (bUp bs' G o1 (-(1 + d7))) (rsUp rs' o1 (1 + d7)) ks' [sel way (g0 + (1 + d7)) g0,sel way g1 (g1 + (1 + d7))] (bgUp bgl o1 (1 + d7)) cml [sel way (a0 - ((1 + d7) - eN o1 (1 + d7))) a0,sel way a1 (a1 - ((1 + d7) - eN o1 (1 + d7)))]) H') ?_ (λc k=>?_) (λc k=>?_)
   ·rintro σ H27 ⟨⟨v17,v21,v22,v23,rfl⟩,rh27⟩
    have lB:(bUp bs' G o1 (-(1 + d7))).length=bs.length:=by rw [bUp_len,lbs']
    refine ⟨_,rfl,_,_,rfl,rfl,_,rfl,?_⟩
    cases o2 with
    | none=>
     refine iteB1 (by decide) ?_
     have klb:H27 lb=some (.lst ((bUp bs' G o1 (-(1 + d7))).map V.int)):=by have:=rh27.ls 0 (by decide);rwa [A0] at this
     refine ⟨_,rfl,_,rfl,lb,_,_,_,rfl,rfl,SqL.of klb,bagA hT.1 (by rw [lB];exact hT.2),_,rfl,_,_,rfl,rfl,_,rfl,_,rfl,lb,_,_,T.toNat,rfl,rfl,klb,ixNI hT.1 (by rw [zA,lB];exact hT.2),?_⟩
     have rh28:=rh27.set0 ra (y:=(bUp (bUp bs' G o1 (-(1 + d7))) T none (1 + d7))) (ys:=((bUp bs' G o1 (-(1 + d7))).map V.int).set T.toNat (V.int (bag (bUp bs' G o1 (-(1 + d7))) T + (1 + d7)))) (by rw [<-yL];rfl)
     rw [A0] at rh28
     exact ⟨_,_,_,_,_,_,_,_,_,⟨_,_,_,_,_,_,_,_,_,_,rfl⟩,ri2,rh28⟩
    | some k2=>
     have hk2:=p2 k2 rfl
     refine iteB0 (by show decide (((k2:Nat):Int) < 0)=false;exact decide_eq_false (Int.not_lt.mpr (Int.natCast_nonneg _))) ?_
     have klk:H27 lk=some (.lst (ks'.map V.int)):=by have:=rh27.ls 2 (by decide);rwa [A2] at this
     refine ⟨_,rfl,_,rfl,lk,_,_,_,rfl,rfl,SqL.of klk,xh (by rw [zG,wF hk2];rfl),_,rfl,_,_,rfl,rfl,_,rfl,_,rfl,lk,_,_,k2,rfl,rfl,klk,ixN_nat (by rw [zA];exact hk2),?_⟩
     have rh28:=rh27.set2 ra (y:=(rsUp ks' (some k2) (1 + d7))) (ys:=(ks'.map V.int).set k2 (V.int (g36 ks' k2 - (1 + d7)))) (by rw [<-yL];rfl)
     rw [A2] at rh28
     generalize upd H27 lk _=H28 at rh28 ⊢
     have lcm:k2 < cml.length:=by rw [ri.W.bl,<- ri.W.rl'];exact hk2
     have kcm:H28 cm=some (.lst (cml.map V.int)):=by have:=rh28.ls 5 (by decide);rwa [A5] at this
     refine ⟨_,rfl,_,rfl,cm,_,_,_,rfl,rfl,SqL.of kcm,xh (by rw [zG,wF lcm];rfl),_,rfl,_,_,rfl,rfl,_,rfl,_,rfl,cm,_,_,k2,rfl,rfl,kcm,ixN_nat (by rw [zA];exact lcm),?_⟩
     have rh29:=rh28.set5 ra (y:=(bgUp cml (some k2) (1 + d7))) (ys:=(cml.map V.int).set k2 (V.int (g36 cml k2 + (1 + d7)))) (by rw [<-yL];rfl)
     rw [A5] at rh29
     exact ⟨_,_,_,_,_,_,_,_,_,⟨_,_,_,_,_,_,_,_,_,_,rfl⟩,ri2,rh29⟩
   ·cases o1 with
    | some k1=>exact absurd (of_decide_eq_true c) (Int.not_lt.mpr (Int.natCast_nonneg _))
    | none=>
     have kah:H26 ah=some (.lst ([a0,a1].map V.int)):=by have:=rh26.ls 6 (by decide);rwa [A6] at this
     refine ⟨_,rfl,_,rfl,ah,_,_,_,rfl,rfl,SqL.of kah,sel_map hw,_,rfl,_,_,rfl,rfl,_,rfl,_,rfl,ah,_,_,way.toNat,rfl,rfl,kah,ixNI w0 w1,?_⟩
     have rh27:=rh26.set6 ra (y:=[sel way (a0 - ((1 + d7) - eN none (1 + d7))) a0,sel way a1 (a1 - ((1 + d7) - eN none (1 + d7)))]) (ys:=([a0,a1].map V.int).set way.toNat (V.int (sel way a0 a1 - (1 + d7)))) (by rw [sel_set hw];show _=[V.int (sel way (a0 - ((1 + d7) - 0)) a0),V.int (sel way a1 (a1 - ((1 + d7) - 0)))];rw [yt];rcases hw with rfl | rfl <;> rfl)
     rw [A6] at rh27
     generalize upd H26 ah _=H27 at rh27 ⊢
     have klb:H27 lb=some (.lst (bs'.map V.int)):=by have:=rh27.ls 0 (by decide);rwa [A0] at this
     refine ⟨_,rfl,_,rfl,lb,_,_,_,rfl,rfl,SqL.of klb,bagA hG.1 (by rw [lbs'];exact hG.2),_,rfl,_,_,rfl,rfl,_,rfl,_,rfl,lb,_,_,G.toNat,rfl,rfl,klb,ixNI hG.1 (by rw [zA,lbs'];exact hG.2),k _ _ ⟨⟨_,_,_,_,rfl⟩,?_⟩⟩
     have rh28:=rh27.set0 ra (y:=(bUp bs' G none (-(1 + d7)))) (ys:=(bs'.map V.int).set G.toNat (V.int (bag bs' G - (1 + d7)))) (by rw [<-yL];rfl)
     rw [A0] at rh28
     exact rh28
   ·cases o1 with
    | none=>exact absurd c (by decide)
    | some k1=>
     have hk1:=p1 k1 rfl
     have klr:H26 lr=some (.lst (rs'.map V.int)):=by have:=rh26.ls 1 (by decide);rwa [A1] at this
     refine ⟨_,rfl,_,rfl,lr,_,_,_,rfl,rfl,SqL.of klr,xh (by rw [zG,wF hk1];rfl),_,rfl,_,_,rfl,rfl,_,rfl,_,rfl,lr,_,_,k1,rfl,rfl,klr,ixN_nat (by rw [zA];exact hk1),?_⟩
     have rh27:=rh26.set1 ra (y:=(rsUp rs' (some k1) (1 + d7))) (ys:=(rs'.map V.int).set k1 (V.int (g36 rs' k1 - (1 + d7)))) (by rw [<-yL];rfl)
     rw [A1] at rh27
     generalize upd H26 lr _=H27 at rh27 ⊢
     have lbg:k1 < bgl.length:=by rw [ri.L.bl,<- ri.L.rl'];exact hk1
     have kbg:H27 bg=some (.lst (bgl.map V.int)):=by have:=rh27.ls 4 (by decide);rwa [A4] at this
     refine ⟨_,rfl,_,rfl,bg,_,_,_,rfl,rfl,SqL.of kbg,xh (by rw [zG,wF lbg];rfl),_,rfl,_,_,rfl,rfl,_,rfl,_,rfl,bg,_,_,k1,rfl,rfl,kbg,ixN_nat (by rw [zA];exact lbg),k _ _ ⟨⟨_,_,_,_,rfl⟩,?_⟩⟩
     have rh28:=rh27.set4 ra (y:=(bgUp bgl (some k1) (1 + d7))) (ys:=(bgl.map V.int).set k1 (V.int (g36 bgl k1 + (1 + d7)))) (by rw [<-yL];rfl)
     rw [A4] at rh28
     have e6:([sel way (a0 - ((1 + d7) - eN (some k1) (1 + d7))) a0,sel way a1 (a1 - ((1 + d7) - eN (some k1) (1 + d7)))]:List Int)=[a0,a1]:=by
      show [sel way (a0 - ((1 + d7) - (1 + d7))) a0,sel way a1 (a1 - ((1 + d7) - (1 + d7)))]=_
      rw [Int.sub_self,yt,yt];rcases hw with rfl | rfl <;> rfl
     rw [e6]
     exact rh28
  ·rintro σ H8 ⟨g0,g1,a0,a1,bgl,cml,bs',rs',ks',⟨v17,v18,v19,v20,v21,v22,v23,v24,v25,v26,rfl⟩,ri,rh⟩
   have k3:=rh.ls 3 (by decide)
   rw [A3] at k3
   refine ⟨_,rfl,gv,_,_,_,rfl,rfl,SqL.of k3,rfl,_,rfl,gv,_,_,_,rfl,rfl,SqL.of k3,rfl,_,rfl,_,rfl,four36,λx hx=>?_⟩
   have sx:=xB (o:=HO.tup [V.int g0,V.int g1,V.ref bg,V.ref cm]) hx
   have rhx:=rh.same sx
   have fx:H x=none:=rh.fresh hx
   refine q ⟨x,bg,cm,⟨g0,g1,bgl,cml⟩⟩ bs' rs' ks' _ (λc u m0 m1 m2 m3 e=>rhx.kp c u m0 (by rw [A0];exact m1) (by rw [A1];exact m2) (by rw [A2];exact m3) e) rhx.pu (by have:=rhx.ls 0 (by decide);rwa [A0] at this) (by have:=rhx.ls 1 (by decide);rwa [A1] at this) (by have:=rhx.ls 2 (by decide);rwa [A2] at this) ⟨yy,by have:=rhx.ls 4 (by decide);rwa [A4] at this,by have:=rhx.ls 5 (by decide);rwa [A5] at this⟩ ⟨fx,fbgH,fcmH⟩ (ri.done hrr bs0)
theorem Ct:FnScope ["_law_purse_here", "_law_loads", "_law_wants", "_law_state", "_law_found", "_law_k", "_law_j", "_law_most", "_law_some"] ["_law_purse_here", "_law_loads", "_law_wants", "_law_state"] (defScope B4):=⟨rfl,rfl,rfl,by decide +kernel,rfl,by decide +kernel,by decide +kernel⟩
theorem El (T:Tx K mg a):FnOk P w K mg base CX0 2 a.Aq a.AG ["_law_purse_here", "_law_loads", "_law_wants", "_law_state"] (spStr36):=by
 have Aa:=@xi P w _ _ base _ T
 refine T.Ay.ok Ct (λvs H Q E h=>?_) (λcdv A outer s H vs Q E hr h=>?_)
 ·obtain ⟨_,_,_,_,_,_,_,_,_,_,_,rfl,_⟩:=h;rfl
 ·have nd:=Ct.nd
  have hu:=hr.units
  obtain ⟨p,ll,lw,st,lb,lr,lk,ls,ws,rs,ks,rfl,hp,hl,hW,hst,⟨hlr,hlk⟩,⟨n12,n1p,n2p⟩,⟨⟨nl0,nl1,nl2⟩,nw0,nw1,nw2⟩,⟨er,ek,l8,w8⟩,rs0,ks0,q⟩:=h
  refine ⟨_,(@xI _ _ _ (@xO _ _ _ _ _ _ (xK (i:=4) nd rfl (by first | exact Or.inl rfl | exact Or.inr rfl) (@xV _ _ _ _ wP)) (@xO _ _ _ _ _ _ (ps_for PassesOwn.never rfl (wM rfl T.b_range (@yw _ _ _ (@yx _ _ _ _ _ (xH (xJ rfl) (by rfl) T.b_len PySem.boot_len (@yw _ _ _ (@yx _ _ _ _ _ (pv 1) xE rfl))) xE rfl))) (xC (i:=5) nd rfl (by first | exact Or.inl rfl | exact Or.inr rfl)) (@xI _ _ _ (@xT _ _ _ (ps_for PassesOwn.never rfl (wM rfl T.b_range (@yw _ _ _ (@yx _ _ _ _ _ (xH (xJ rfl) (by rfl) T.b_len PySem.boot_len (@yw _ _ _ (@yx _ _ _ _ _ (pv 2) xE rfl))) xE rfl))) (xC (i:=6) nd rfl (by first | exact Or.inl rfl | exact Or.inr rfl)) (@xI _ _ _ (@xO _ _ _ _ _ _ (xK (i:=7) nd rfl (by first | exact Or.inl rfl | exact Or.inr rfl) (xH (call_min2 rfl) (by rfl) T.b_min yQ (@yw _ _ _ (@yx _ _ _ _ _ (@xM _ _ _ _ _ _ _ (xL rfl) (@xM _ _ _ _ _ _ _ (xQ rfl) (pv 3) yz (λ_ _=>rfl)) (pv 5) (λ_ _=>rfl)) (@yx _ _ _ _ _ (@xM _ _ _ _ _ _ _ (xL rfl) (@xM _ _ _ _ _ _ _ (xQ rfl) (pv 3) yz (λ_ _=>rfl)) (pv 6) (λ_ _=>rfl)) xE rfl) rfl)))) (@xT _ _ _ (@xZ _ _ _ _ _ _ _ _ (@PW.pt _ _ _ (@pw_and _ _ _ _ _ _ _ (@xP _ _ _ _ _ _ _ _ wU (@xM _ _ _ _ _ _ _ (xQ rfl) (@xM _ _ _ _ _ _ _ (xL rfl) (pv 1) (pv 5) (λ_ _=>rfl)) yz (λ_ _=>rfl)) (@xM _ _ _ _ _ _ _ (xQ rfl) (@xM _ _ _ _ _ _ _ (xL rfl) (pv 2) (pv 6) (λ_ _=>rfl)) yz (λ_ _=>rfl)) (nomark _)) (@pw_and _ _ _ _ _ _ _ (@xP _ _ _ _ _ _ _ _ op_le (@xM _ _ _ _ _ _ _ (xQ rfl) (@xM _ _ _ _ _ _ _ (xL rfl) (pv 1) (pv 5) (λ_ _=>rfl)) yz (λ_ _=>rfl)) (@xM _ _ _ _ _ _ _ (xQ rfl) (@xM _ _ _ _ _ _ _ (xL rfl) (pv 2) (pv 6) (λ_ _=>rfl)) yz (λ_ _=>rfl)) (nomark _)) (@pw_and1 _ _ _ _ (@xP _ _ _ _ _ _ _ _ op_gt (pv 7) yz (nomark _)))))) (@xI _ _ _ (@xO _ _ _ _ _ _ (xK (i:=8) nd rfl (by first | exact Or.inl rfl | exact Or.inr rfl) (xF Aa (hr.mono (by decide)) rfl T.Ab T.Ac T.Ae .nil pass0 (@yw _ _ _ (@yx _ _ _ _ _ (pv 0) (@yx _ _ _ _ _ (@xN _ _ _ _ _ _ _ _ xf (pv 7) yz) xE rfl) rfl)))) (@xO _ _ _ _ _ _ (xo (@xN _ _ _ _ _ _ _ _ wD (@xM _ _ _ _ _ _ _ (xL rfl) (@xM _ _ _ _ _ _ _ (xQ rfl) (pv 3) yz (λ_ _=>rfl)) (pv 5) (λ_ _=>rfl)) (pv 8)) (pg_sub (@xM _ _ _ _ _ _ _ (xQ rfl) (pv 3) yz (λ_ _=>rfl)) (pv 5) xr)) (@xO _ _ _ _ _ _ (xo (@xN _ _ _ _ _ _ _ _ wD (@xM _ _ _ _ _ _ _ (xL rfl) (@xM _ _ _ _ _ _ _ (xQ rfl) (pv 3) yz (λ_ _=>rfl)) (pv 6) (λ_ _=>rfl)) (pv 8)) (pg_sub (@xM _ _ _ _ _ _ _ (xQ rfl) (pv 3) yz (λ_ _=>rfl)) (pv 6) xr)) (@xT _ _ _ (xK (i:=4) nd rfl (by first | exact Or.inl rfl | exact Or.inr rfl) (@xN _ _ _ _ _ _ _ _ op_cat (pv 4) (@xN _ _ _ _ _ _ _ _ op_rep (@xV _ _ _ _ (@yw _ _ _ (@yx _ _ _ _ _ (@xp _ _ _ _ _ (@yw _ _ _ (@yx _ _ _ _ _ (pv 5) (@yx _ _ _ _ _ (pv 6) (@yx _ _ _ _ _ (pv 8) xE rfl) rfl) rfl))) xE rfl))) (xu (call_int1) (by rfl) T.b_int ya (@yw _ _ _ (@yx _ _ _ _ _ (@wE _ _ _ _ _ _ _ _ op_gt (pv 8) yz (nomark _)) xE rfl))))))))))) xS)))))))) (@xT _ _ _ (@xR _ _ _ _ (@xM _ _ _ _ _ _ _ (xL rfl) (@xV _ _ _ _ (@yw _ _ _ (@yx _ _ _ _ _ (pv 4) (@yx _ _ _ _ _ (@pe_revL _ _ _ _ _ _ _ _ _ rfl (pv 4)) xE rfl) rfl))) (xF Aa (hr.mono (by decide)) rfl T.Ab T.Ac T.Ae .nil pass0 (@yw _ _ _ (@yx _ _ _ _ _ (pv 0) (@yx _ _ _ _ _ yz xE rfl) rfl))) (λ_ _=>rfl))))))),?_⟩
  have line:=line9
  have e200:(2:Int) ^ 200 > 10000:=by decide
  have lsl:(ls.map (·.2)).length=ls.length:=zA _
  have wsl:(ws.map (·.2)).length=ws.length:=zA _
  have st0:StrOk (ls.map (·.2)) (ws.map (·.2)) rs ks [] rs ks:=⟨nofun,nofun,yu,by rw [lsl];exact er,by rw [wsl];exact ek,λy hy=>(rs0 y hy).1,ks0,λk _=>by show _=_ - (0:Int);omega,λk _=>by show _=_ - (0:Int);omega⟩
  have keep:∀ {Hx:Hp}{c:Addr}{xs:List V},(∀ c u,c≠p->c≠lr->c≠lk->H c=some u->Hx c=some u)->H c=some (.tup xs)->Hx c=some (.tup xs):=λ{Hx c xs} k e=>k c _ (hp.tup e) (ne_of e hlr (by intro z;cases z)) (ne_of e hlk (by intro z;cases z)) e
  have sk:∀ {Hx:Hp},(∀ c u,c≠p->c≠lr->c≠lk->H c=some u->Hx c=some u)->SacksAt Hx ll ls/\SacksAt Hx lw ws/\Hx st=some (.tup [.ref lb,.ref lr,.ref lk]):=λ{Hx} k=>⟨⟨k _ _ nl0 nl1 nl2 hl.l,λa ha=>keep k (hl.each a ha)⟩,⟨k _ _ nw0 nw1 nw2 hW.l,λa ha=>keep k (hW.each a ha)⟩,keep k hst⟩
  refine ⟨zg _,λf0 hf0=>?_⟩
  have s1:=xB (o:=HO.lst []) hf0
  have kf1:upd H f0 (HO.lst []) f0=some (.lst []):=yy
  have ge1:∀ c u,c≠p->c≠lr->c≠lk->H c=some u->upd H f0 (HO.lst []) c=some u:=λc u _ _ _ e=>s1 _ _ e
  have pu1:Purse (upd H f0 (HO.lst [])) p:=hp.new hf0
  generalize upd H f0 (HO.lst [])=H1 at s1 kf1 ge1 pu1 ⊢
  refine (zr rfl ⟨ll,zr rfl ⟨.inl (SqL.of (s1 _ _ hl.l)),zr rfl ⟨by rw [zA];omega,by rw [zA];omega,?_⟩⟩⟩)
  rw [zA]
  let Fr:Nat->Nat->Hp->V->Prop:=λk j H' v=>∃ (f:Addr) (ts:List (Addr×T3)) (rs' ks':List Int),v=V.ref f/\(∀ c u,c≠p->c≠lr->c≠lk->H c=some u->H' c=some u)/\Purse H' p/\H' lr=some (.lst (rs'.map V.int))/\H' lk=some (.lst (ks'.map V.int))/\H f=none/\f≠p/\H' f=some (.lst (ts.map λx=>V.ref x.1))/\(∀ x∈ts,H' x.1=some (.tup [.int x.2.k,.int x.2.j,.int x.2.m]))/\ts.length<=8 * k + j/\StrOk (ls.map (·.2)) (ws.map (·.2)) rs ks (ts.map (·.2)) rs' ks'/\Ahead (ts.map (·.2)) k j/\(∀ y∈rs',y<=99)
  refine for_range (lo:=0) (n:=ls.length) (λk σ H8=>∃ v,(∃ v5 v6 v7 v8,σ=[some (.ref p),some (.ref ll),some (.ref lw),some (.ref st),some v,v5,v6,v7,v8])/\Fr k 0 H8 v) ⟨_,⟨_,_,_,_,rfl⟩,f0,[],rs,ks,rfl,ge1,pu1,s1 _ _ hlr,s1 _ _ hlk,hf0,hp.ne hf0,kf1,nofun,by simp,st0,nofun,λy hy=>(rs0 y hy).2⟩ ?_ ?_
  ·rintro k σ H8 hk ⟨_,⟨v5,v6,v7,v8,rfl⟩,f,ts,rs',ks',rfl,ge,pu,klr,klk,hf,nfp,kf,kt,lt,so,ah,r99⟩
   obtain ⟨hl8,hw8,hst8⟩:=sk ge
   refine (zr rfl ⟨lw,zr rfl ⟨.inl (SqL.of hw8.l),zr rfl ⟨by rw [zA];omega,by rw [zA];omega,?_⟩⟩⟩)
   rw [zA]
   refine for_range (lo:=0) (n:=ws.length) (λj σ H9=>∃ v,(∃ v6 v7 v8,σ=[some (.ref p),some (.ref ll),some (.ref lw),some (.ref st),some v,some (.int (0 + (k:Int))),v6,v7,v8])/\Fr k j H9 v) ⟨_,⟨_,_,_,rfl⟩,f,ts,rs',ks',rfl,ge,pu,klr,klk,hf,nfp,kf,kt,lt,so,ah,r99⟩ ?_ ?_
   ·clear hl8 hw8 hst8 r99 ah so lt kt kf nfp hf klk klr pu ge ts rs' ks' f
    rintro j σ H9 hj ⟨_,⟨v6,v7,v8,rfl⟩,f,ts,rs',ks',rfl,ge,pu,klr,klk,hf,nfp,kf,kt,lt,so,ah,r99⟩
    obtain ⟨hl9,hw9,hst9⟩:=sk ge
    have lrs:rs'.length=ls.length:=by rw [so.rl,lsl]
    have lks:ks'.length=ws.length:=by rw [so.kl,wsl]
    have atr:atI (rs'.map V.int) (0 + (k:Int))=some (V.int (g36 rs' k)):=by rw [yH];exact xh (by rw [zG,wF (by omega)];rfl)
    have atk:atI (ks'.map V.int) (0 + (j:Int))=some (V.int (g36 ks' j)):=by rw [yH];exact xh (by rw [zG,wF (by omega)];rfl)
    have atl:atI (ls.map λa=>V.ref a.1) (0 + (k:Int))=some (V.ref ls[k].1):=by rw [yH];exact xh (by rw [zG,zH hk];rfl)
    have atw:atI (ws.map λa=>V.ref a.1) (0 + (j:Int))=some (V.ref ws[j].1):=by rw [yH];exact xh (by rw [zG,zH hj];rfl)
    have tl:=hl9.each _ (zj hk)
    have tw:=hw9.each _ (zj hj)
    have b1:=so.r0 _ (wS (show k < rs'.length by omega))
    have b2:=r99 _ (wS (show k < rs'.length by omega))
    have b3:=so.k0 _ (wS (show j < ks'.length by omega))
    refine (zr rfl (ixt hst9 rfl (zr rfl (ixl klr atr (zr rfl (ixt hst9 rfl (zr rfl (ixl klk atk (zr1 rfl ?_)))))))))
    obtain ⟨M,eM,m1,m2⟩:∃ M:Int,(if g36 ks' j < g36 rs' k then g36 ks' j else g36 rs' k)=M/\M<=g36 rs' k/\M<=g36 ks' j:=⟨_,rfl,by split <;> omega,by split <;> omega⟩
    rw [eM]
    have nx:∀ (x y:Option V),(∃ v,(∃ v6 v7 v8,[some (V.ref p),some (.ref ll),some (.ref lw),some (.ref st),some (V.ref f),some (.int (0 + (k:Int))),some (V.int (0 + (j:Int))),x,y]=[some (V.ref p),some (.ref ll),some (.ref lw),some (.ref st),some v,some (.int (0 + (k:Int))),v6,v7,v8])/\Fr k (j + 1) H9 v):=λx y=>⟨_,⟨_,_,_,rfl⟩,f,ts,rs',ks',rfl,ge,pu,klr,klk,hf,nfp,kf,kt,by omega,so,λt ht=>by rcases ah t ht with q | ⟨q1,q2⟩;exact .inl q;exact .inr ⟨q1,by omega⟩,r99⟩
    refine (zr rfl (zr rfl (ixl hl9.l atl (ixt tl rfl (zr rfl (zr rfl (ixl hw9.l atw (ixt tw rfl ⟨rfl,zr rfl ?_⟩))))))))
    by_cases c1:ls[k].2.w=ws[j].2.w
    rotate_left
    ·exact iteB0 (decide_eq_false λz=>c1 (V.int.inj z)) (iteB0 rfl (nx _ _))
    refine iteB1 (decide_eq_true (by rw [c1])) ?_
    refine (zr rfl (zr rfl (ixl hl9.l atl (ixt tl rfl (zr rfl (zr rfl (ixl hw9.l atw (ixt tw rfl (zr2 rfl rfl (zr rfl ?_))))))))))
    by_cases c2:ls[k].2.t<=ws[j].2.t
    rotate_left
    ·exact iteB0 (decide_eq_false c2) (iteB0 rfl (nx _ _))
    refine iteB1 (decide_eq_true c2) (zr rfl (zr2 rfl rfl (zr rfl ?_)))
    by_cases c3:M > 0
    rotate_left
    ·exact iteB0 (decide_eq_false c3) (nx _ _)
    refine iteB1 (decide_eq_true c3) ?_
    refine (zr rfl (zr rfl (zr2 rfl rfl ⟨p,zr rfl ⟨by omega,by omega,pu,λd H10 d0 d1 g10=>?_⟩⟩)))
    have hst10:=g10.1 _ _ (pu.tup hst9) hst9
    have klr10:=g10.1 _ _ n1p klr
    have klk10:=g10.1 _ _ n2p klk
    have kf10:=g10.1 _ _ nfp kf
    have kt10:∀ x∈ts,H10 x.1=some (.tup [.int x.2.k,.int x.2.j,.int x.2.m]):=λx hx=>g10.tups pu _ _ (kt x hx)
    have ge10:∀ c u,c≠p->c≠lr->c≠lk->H c=some u->H10 c=some u:=λc u m0 m1 m2 e=>g10.1 _ _ m0 (ge c u m0 m1 m2 e)
    have nflr:f≠lr:=λz=>by rw [z,hlr] at hf;cases hf
    have nflk:f≠lk:=λz=>by rw [z,hlk] at hf;cases hf
    have ixr:ixN (rs'.map V.int).length (0 + (k:Int))=some k:=by rw [yH];exact ixN_nat (by rw [zA];omega)
    have ixk:ixN (ks'.map V.int).length (0 + (j:Int))=some j:=by rw [yH];exact ixN_nat (by rw [zA];omega)
    refine (zr rfl (ixt hst10 rfl (zr rfl (ixl klr10 atr (zr rfl (zr2 rfl rfl (zr rfl (ixt hst10 rfl (zr rfl ⟨lr,_,_,k,rfl,rfl,klr10,ixr,?_⟩)))))))))
    have su:∀ {c:Addr}{u:HO}{x:HO},c≠lr->H10 c=some u->upd H10 lr x c=some u:=λn e=>by rw [xG n];exact e
    have klr11:upd H10 lr (HO.lst ((rs'.map V.int).set k (V.int (g36 rs' k - d)))) lr=some (.lst ((rs'.set k (g36 rs' k - d)).map V.int)):=by rw [yy,yL]
    have hst11:=su (x:=HO.lst ((rs'.map V.int).set k (V.int (g36 rs' k - d)))) (ne_of hst10 klr10 (by intro z;cases z)) hst10
    have klk11:=su (x:=HO.lst ((rs'.map V.int).set k (V.int (g36 rs' k - d)))) n12.symm klk10
    have kf11:=su (x:=HO.lst ((rs'.map V.int).set k (V.int (g36 rs' k - d)))) nflr kf10
    have kt11:∀ x∈ts,upd H10 lr (HO.lst ((rs'.map V.int).set k (V.int (g36 rs' k - d)))) x.1=some (.tup [.int x.2.k,.int x.2.j,.int x.2.m]):=λx hx=>su (ne_of (kt10 x hx) klr10 (by intro z;cases z)) (kt10 x hx)
    have ge11:∀ c u,c≠p->c≠lr->c≠lk->H c=some u->upd H10 lr (HO.lst ((rs'.map V.int).set k (V.int (g36 rs' k - d)))) c=some u:=λc u m0 m1 m2 e=>su m1 (ge10 c u m0 m1 m2 e)
    have pu11:Purse (upd H10 lr (HO.lst ((rs'.map V.int).set k (V.int (g36 rs' k - d))))) p:=by obtain ⟨a,b,c,e⟩:=g10.2;exact ⟨a,b,c,su n1p.symm e⟩
    clear su
    generalize upd H10 lr (HO.lst ((rs'.map V.int).set k (V.int (g36 rs' k - d))))=H11 at klr11 hst11 klk11 kf11 kt11 ge11 pu11 ⊢
    refine (zr rfl (ixt hst11 rfl (zr rfl (ixl klk11 atk (zr rfl (zr2 rfl rfl (zr rfl (ixt hst11 rfl (zr rfl ⟨lk,_,_,j,rfl,rfl,klk11,ixk,?_⟩)))))))))
    have su:∀ {c:Addr}{u:HO}{x:HO},c≠lk->H11 c=some u->upd H11 lk x c=some u:=λn e=>by rw [xG n];exact e
    have klk12:upd H11 lk (HO.lst ((ks'.map V.int).set j (V.int (g36 ks' j - d)))) lk=some (.lst ((ks'.set j (g36 ks' j - d)).map V.int)):=by rw [yy,yL]
    have klr12:=su (x:=HO.lst ((ks'.map V.int).set j (V.int (g36 ks' j - d)))) n12 klr11
    have kf12:=su (x:=HO.lst ((ks'.map V.int).set j (V.int (g36 ks' j - d)))) nflk kf11
    have kt12:∀ x∈ts,upd H11 lk (HO.lst ((ks'.map V.int).set j (V.int (g36 ks' j - d)))) x.1=some (.tup [.int x.2.k,.int x.2.j,.int x.2.m]):=λx hx=>su (ne_of (kt11 x hx) klk11 (by intro z;cases z)) (kt11 x hx)
    have ge12:∀ c u,c≠p->c≠lr->c≠lk->H c=some u->upd H11 lk (HO.lst ((ks'.map V.int).set j (V.int (g36 ks' j - d)))) c=some u:=λc u m0 m1 m2 e=>su m2 (ge11 c u m0 m1 m2 e)
    have pu12:Purse (upd H11 lk (HO.lst ((ks'.map V.int).set j (V.int (g36 ks' j - d))))) p:=by obtain ⟨a,b,c,e⟩:=pu11;exact ⟨a,b,c,su n2p.symm e⟩
    clear su
    generalize upd H11 lk (HO.lst ((ks'.map V.int).set j (V.int (g36 ks' j - d))))=H12 at klk12 klr12 kf12 kt12 ge12 pu12 ⊢
    refine (zr rfl (zr rfl (zr rfl (zr rfl ⟨by show 3<=_;omega,λu hu=>⟨by show 1<=_;omega,λy1 hy1=>?_⟩⟩))))
    have s13:=Same.trans (xB (o:=HO.tup [V.int (0 + (k:Int)),V.int (0 + (j:Int)),V.int d]) hu) (xB (o:=HO.lst [V.ref u]) hy1)
    have ku13:upd (upd H12 u (HO.tup [V.int (0 + (k:Int)),V.int (0 + (j:Int)),V.int d])) y1 (HO.lst [V.ref u]) u=some (.tup [.int (k:Int),.int (j:Int),.int d]):=by rw [xG (λz=>by rw [z,yy] at hy1;cases hy1),yy,yH,yH]
    have ky13:upd (upd H12 u (HO.tup [V.int (0 + (k:Int)),V.int (0 + (j:Int)),V.int d])) y1 (HO.lst [V.ref u]) y1=some (.lst [V.ref u]):=yy
    generalize upd (upd H12 u (HO.tup [V.int (0 + (k:Int)),V.int (0 + (j:Int)),V.int d])) y1 (HO.lst [V.ref u])=H13 at s13 ku13 ky13 ⊢
    have b01:∀ b:Bool,-(2:Int) ^ 63<=(if b=true then 1 else 0)/\(if b=true then (1:Int) else 0) < 2 ^ 63/\([V.ref u]:List V).length * Int.toNat (if b=true then 1 else 0)<=sizeLine:=λb=>by
     cases b
     ·exact ⟨by decide,by decide,by show 1 * 0<=_;omega⟩
     ·exact ⟨by decide,by decide,by show 1 * 1<=_;omega⟩
    have k7:k<=7:=by omega
    have j7:j<=7:=by omega
    refine (zr rfl (zr2 rfl rfl (.inr (zr rfl ⟨y1,zr2 rfl rfl ⟨ky13,(b01 _).1,(b01 _).2.1,(b01 _).2.2,λy2 hy2=>⟨f,y2,zr2 rfl rfl ⟨xB hy2 _ _ (s13 _ _ kf12),yy,?_,λy3 hy3=>?_⟩⟩⟩⟩))))
    ·rw [zA];split <;> simp only [Int.toNat_one,Int.toNat_zero,List.replicate,yc,List.flatten_nil,yF,zn,yN] <;> omega
    have s15:=s13.trans (Same.trans (xB hy2) (xB (o:=HO.lst ((ts.map λx=>V.ref x.1)++(List.replicate (Int.toNat (if decide (0 < d)=true then 1 else 0)) [V.ref u]).flatten)) hy3))
    have ky15:=yy (H:=upd H13 y2 (HO.lst (List.replicate (Int.toNat (if decide (0 < d)=true then 1 else 0)) [V.ref u]).flatten)) (a:=y3) (o:=HO.lst ((ts.map λx=>V.ref x.1)++(List.replicate (Int.toNat (if decide (0 < d)=true then 1 else 0)) [V.ref u]).flatten))
    have ku15:=(Same.trans (xB hy2) (xB (o:=HO.lst ((ts.map λx=>V.ref x.1)++(List.replicate (Int.toNat (if decide (0 < d)=true then 1 else 0)) [V.ref u]).flatten)) hy3)) _ _ ku13
    have ge14:∀ c uu,c≠p->c≠lr->c≠lk->H c=some uu->upd H13 y2 (HO.lst (List.replicate (Int.toNat (if decide (0 < d)=true then 1 else 0)) [V.ref u]).flatten) c=some uu:=λc uu m0 m1 m2 e=>xB hy2 _ _ (s13 _ _ (ge12 c uu m0 m1 m2 e))
    have pu14:Purse (upd H13 y2 (HO.lst (List.replicate (Int.toNat (if decide (0 < d)=true then 1 else 0)) [V.ref u]).flatten)) p:=by obtain ⟨a,b,c,e⟩:=pu12;exact ⟨a,b,c,xB hy2 _ _ (s13 _ _ e)⟩
    have hy3H:H y3=none:=by
     cases z:H y3 with
     | none=>rfl
     | some uu=>
      have:=ge14 y3 uu (pu14.ne hy3) (λz2=>by rw [z2,xB hy2 _ _ (s13 _ _ klr12)] at hy3;cases hy3) (λz2=>by rw [z2,xB hy2 _ _ (s13 _ _ klk12)] at hy3;cases hy3) z
      rw [this] at hy3;cases hy3
    have ny3:y3≠p:=pu14.ne hy3
    generalize upd (upd H13 y2 (HO.lst (List.replicate (Int.toNat (if decide (0 < d)=true then 1 else 0)) [V.ref u]).flatten)) y3 (HO.lst ((ts.map λx=>V.ref x.1)++(List.replicate (Int.toNat (if decide (0 < d)=true then 1 else 0)) [V.ref u]).flatten))=H15 at s15 ky15 ku15 ⊢
    by_cases c5:0 < d
    ·refine ⟨_,⟨_,_,_,rfl⟩,y3,ts++[(u,⟨k,j,d⟩)],rs'.set k (g36 rs' k - d),ks'.set j (g36 ks' j - d),rfl,λc uu m0 m1 m2 e=>s15 _ _ (ge12 c uu m0 m1 m2 e),by obtain ⟨a,b,c,e⟩:=pu12;exact ⟨a,b,c,s15 _ _ e⟩,s15 _ _ klr12,s15 _ _ klk12,hy3H,ny3,?_,λx hx=>?_,by rw [zT];show ts.length + 1<=_;omega,?_,λt ht=>?_,mem_set36 (P:=λy=>y<=99) r99 (by omega)⟩
     ·rw [ky15,if_pos (decide_eq_true c5),zB];rfl
     ·rcases zV.mp hx with h | h
      ·exact s15 _ _ (kt12 x h)
      ·rw [zE.mp h];exact ku15
     ·have:=so.step (k:=k) (j:=j) (s:=d) (l:=ls[k].2) (w:=ws[j].2) ah (by rw [zG,zH hk];rfl) (by rw [zG,zH hj];rfl) (by unfold strB;rw [decide_eq_true c1,decide_eq_true c2];rfl) c5 (by omega) (by omega)
      rw [zB];exact this
     ·rw [zB] at ht
      rcases zV.mp ht with h | h
      ·rcases ah t h with q | ⟨q1,q2⟩
       ·exact .inl q
       ·exact .inr ⟨q1,by omega⟩
      ·rw [zE.mp h];exact .inr ⟨rfl,by show (j:Int) < ((j + 1:Nat):Int);omega⟩
    ·have d00:d=0:=by omega
     subst d00
     rw [set_same36 (by omega)] at klr12 klk12
     refine ⟨_,⟨_,_,_,rfl⟩,y3,ts,rs',ks',rfl,λc uu m0 m1 m2 e=>s15 _ _ (ge12 c uu m0 m1 m2 e),by obtain ⟨a,b,c,e⟩:=pu12;exact ⟨a,b,c,s15 _ _ e⟩,s15 _ _ klr12,s15 _ _ klk12,hy3H,ny3,?_,λx hx=>s15 _ _ (kt12 x hx),by omega,so,λt ht=>?_,r99⟩
     ·rw [ky15];show some (HO.lst (_++[]))=_;rw [yF]
     ·rcases ah t ht with q | ⟨q1,q2⟩
      ·exact .inl q
      ·exact .inr ⟨q1,by omega⟩
   ·rintro σ H9 ⟨_,⟨v6,v7,v8,rfl⟩,f,ts,rs',ks',rfl,ge,pu,klr,klk,hf,nfp,kf,kt,lt,so,ah,r99⟩
    exact ⟨_,⟨_,_,_,_,rfl⟩,f,ts,rs',ks',rfl,ge,pu,klr,klk,hf,nfp,kf,kt,by omega,so,λt ht=>by rcases ah t ht with q | ⟨q1,q2⟩;exact .inl (by omega);exact .inl (by omega),r99⟩
  ·rintro σ H8 ⟨_,⟨v5,v6,v7,v8,rfl⟩,f,ts,rs',ks',rfl,ge,pu,klr,klk,hf,nfp,kf,kt,lt,so,ah,r99⟩
   have kl0:ls.length<=8:=l8
   refine (zr rfl (zr rfl ⟨f,zr rfl ⟨SqL.of kf,λf2 hf2=>?_⟩⟩))
   have s9:=xB (o:=HO.lst (ts.map λx=>V.ref x.1).reverse) hf2
   have kf2:upd H8 f2 (HO.lst (ts.map λx=>V.ref x.1).reverse) f2=some (.lst (ts.reverse.map λx=>V.ref x.1)):=by rw [yy,List.map_reverse]
   have nf2:f2≠p:=pu.ne hf2
   have hf2H:H f2=none:=by
    cases z:H f2 with
    | none=>rfl
    | some uu=>
     have:=ge f2 uu nf2 (λz2=>by rw [z2,klr] at hf2;cases hf2) (λz2=>by rw [z2,klk] at hf2;cases hf2) z
     rw [this] at hf2;cases hf2
   generalize upd H8 f2 (HO.lst (ts.map λx=>V.ref x.1).reverse)=H9 at s9 kf2 ⊢
   refine ⟨by show 2<=_;omega,λf3 hf3=>?_⟩
   have s10:=xB (o:=HO.lst [V.ref f,V.ref f2]) hf3
   have kf3:upd H9 f3 (HO.lst [V.ref f,V.ref f2]) f3=some (.lst [V.ref f,V.ref f2]):=yy
   have s010:=s9.trans s10
   have pu10:Purse (upd H9 f3 (HO.lst [V.ref f,V.ref f2])) p:=by obtain ⟨a,b,c,e⟩:=pu;exact ⟨a,b,c,s010 _ _ e⟩
   have nf3:f3≠p:=by obtain ⟨a,b,c,e⟩:=pu;exact (xA (s9 _ _ e) hf3).symm
   generalize upd H9 f3 (HO.lst [V.ref f,V.ref f2])=H10 at s10 kf3 s010 pu10 ⊢
   refine (zr rfl ⟨p,zr rfl ⟨by decide,by decide,pu10,λd H11 d0 d1 g11=>?_⟩⟩)
   have gx:∀ c u,c≠p->c≠lr->c≠lk->H c=some u->H11 c=some u:=λc u m0 m1 m2 e=>g11.1 _ _ m0 (s010 _ _ (ge c u m0 m1 m2 e))
   have kt11:∀ x∈ts,H11 x.1=some (.tup [.int x.2.k,.int x.2.j,.int x.2.m]):=λx hx=>g11.tups pu10 _ _ (s010 _ _ (kt x hx))
   obtain rfl | rfl:d=0\/d=1:=by omega
   ·exact (ixl (g11.1 _ _ nf3 kf3) rfl (q f ts rs' ks' H11 gx g11.2 (g11.1 _ _ n1p (s010 _ _ klr)) (g11.1 _ _ n2p (s010 _ _ klk)) hf (g11.1 _ _ nfp (s010 _ _ kf)) kt11 (by omega) so))
   ·exact (ixl (g11.1 _ _ nf3 kf3) rfl (q f2 ts.reverse rs' ks' H11 gx g11.2 (g11.1 _ _ n1p (s010 _ _ klr)) (g11.1 _ _ n2p (s010 _ _ klk)) hf2H (g11.1 _ _ nf2 (s10 _ _ kf2)) (λx hx=>kt11 x (List.mem_reverse.mp hx)) (by rw [List.length_reverse];omega) (by rw [List.map_reverse];exact so.perm (List.reverse_perm _))))
theorem DU:FnScope ["_law_script", "_law_head", "_law_book_here", "_law_loads", "_law_wants", "_law_first", "_law_state", "_law_early", "_law_at_once", "_law_rows", "_law_k"] ["_law_script", "_law_head", "_law_book_here", "_law_loads", "_law_wants", "_law_first"] (defScope B2):=⟨rfl,rfl,rfl,by decide +kernel,rfl,by decide +kernel,by decide +kernel⟩
theorem FB (T:Tx K mg a):FnOk P w K mg base CX0 3 a.AY a.BP ["_law_script", "_law_head", "_law_book_here", "_law_loads", "_law_wants", "_law_first"] (spPlan36 K):=by
 have BC:=@Co P w _ _ base _ T
 have Aa:=@xi P w _ _ base _ T
 have GJ:=@FP P w _ _ base _ T
 have C0:=@El P w _ _ base _ T
 refine T.Bs.ok DU (λvs H Q E h=>?_) (λcdv A outer s H vs Q E hr h=>?_)
 ·obtain ⟨_,_,_,_,_,_,_,_,_,_,_,_,_,_,rfl,_⟩:=h;rfl
 ·have nd:=DU.nd
  have hu:=hr.units
  obtain ⟨sa,hd,b,ll,lw,rooms,tr,tm,ps,ls,ws,ns,n,H0,rfl,hsa,n63,h0,sm0,n100,hb,gd,r1,r12,rm0,hp,hl,hW,⟨nll,nlw⟩,l8,w8,lm,wm,q⟩:=h
  refine ⟨_,(@xI _ _ _ (@xO _ _ _ _ _ _ (xK (i:=6) nd rfl (by first | exact Or.inl rfl | exact Or.inr rfl) (@xp _ _ _ _ _ (@yw _ _ _ (@yx _ _ _ _ _ (@xN _ _ _ _ _ _ _ _ op_rep (@xV _ _ _ _ (@yw _ _ _ (@yx _ _ _ _ _ yz xE rfl))) (xH (xJ rfl) (by rfl) T.b_len PySem.boot_len (@yw _ _ _ (@yx _ _ _ _ _ (@xM _ _ _ _ _ _ _ (xQ rfl) (pv 2) yz (λ_ _=>rfl)) xE rfl)))) (@yx _ _ _ _ _ (xt (own:=["_law_load"]) (caps:=[]) rfl (show CompScope ["_law_load"] [] ["_law_script", "_law_head", "_law_book_here", "_law_loads", "_law_wants", "_law_first", "_law_state", "_law_early", "_law_at_once", "_law_rows", "_law_k"] (defScope B2) _ from ⟨rfl,by decide +kernel,by decide +kernel,by decide +kernel,by decide +kernel⟩) (@xm _ _ _ _ _ rfl (pv 3)) (λ_ _ _ _=>(xC (i:=0) (show List.Nodup (["_law_load"]:List Str) from by decide +kernel) rfl (by first | exact Or.inl rfl | exact Or.inr rfl))) (λ_ _ _ _=>xk) (λ_ _ _ _=>(@xM _ _ _ _ _ _ _ (xQ rfl) (pv 0) yz (λ_ _=>rfl)))) (@yx _ _ _ _ _ (xt (own:=["_law_want"]) (caps:=[]) rfl (show CompScope ["_law_want"] [] ["_law_script", "_law_head", "_law_book_here", "_law_loads", "_law_wants", "_law_first", "_law_state", "_law_early", "_law_at_once", "_law_rows", "_law_k"] (defScope B2) _ from ⟨rfl,by decide +kernel,by decide +kernel,by decide +kernel,by decide +kernel⟩) (@xm _ _ _ _ _ rfl (pv 4)) (λ_ _ _ _=>(xC (i:=0) (show List.Nodup (["_law_want"]:List Str) from by decide +kernel) rfl (by first | exact Or.inl rfl | exact Or.inr rfl))) (λ_ _ _ _=>xk) (λ_ _ _ _=>(@xM _ _ _ _ _ _ _ (xQ rfl) (pv 0) yz (λ_ _=>rfl)))) xE rfl) rfl) rfl)))) (@xO _ _ _ _ _ _ (xK (i:=7) nd rfl (by first | exact Or.inl rfl | exact Or.inr rfl) (@wE _ _ _ _ _ _ _ _ wU (xF Aa (hr.mono (by decide)) rfl T.Ab T.Ac T.Ae .nil pass0 (@yw _ _ _ (@yx _ _ _ _ _ (pv 1) (@yx _ _ _ _ _ yz xE rfl) rfl))) yz (nomark _))) (@xO _ _ _ _ _ _ (xK (i:=8) nd rfl (by first | exact Or.inl rfl | exact Or.inr rfl) (@xV _ _ _ _ wP)) (@xO _ _ _ _ _ _ (@xZ _ _ _ _ _ _ _ _ (xx (pv 7)) (@xI _ _ _ (@xT _ _ _ (xK (i:=8) nd rfl (by first | exact Or.inl rfl | exact Or.inr rfl) (xF C0 (hr.mono (by decide)) rfl T.CW T.CY T.CZ .nil pass0 (@yw _ _ _ (@yx _ _ _ _ _ (pv 1) (@yx _ _ _ _ _ (pv 3) (@yx _ _ _ _ _ (pv 4) (@yx _ _ _ _ _ (pv 6) xE rfl) rfl) rfl) rfl)))))) xS) (@xO _ _ _ _ _ _ (xK (i:=9) nd rfl (by first | exact Or.inl rfl | exact Or.inr rfl) (@xV _ _ _ _ wP)) (@xO _ _ _ _ _ _ (ps_for PassesOwn.never rfl (wM rfl T.b_range (@yw _ _ _ (@yx _ _ _ _ _ (xH (xJ rfl) (by rfl) T.b_len PySem.boot_len (@yw _ _ _ (@yx _ _ _ _ _ (@xM _ _ _ _ _ _ _ (xQ rfl) (pv 2) yz (λ_ _=>rfl)) xE rfl))) xE rfl))) (xC (i:=10) nd rfl (by first | exact Or.inl rfl | exact Or.inr rfl)) (@xI _ _ _ (@xT _ _ _ (ps_expr (pe_bm PySem.F.plainAttrs_list PySem.F.slot_list_append PySem.F.type_list_append mt_append (pv 9) (@yw _ _ _ (@yx _ _ _ _ _ (xF GJ (hr.mono (by decide)) rfl T.Gz T.GB T.GD .nil pass0 (@yw _ _ _ (@yx _ _ _ _ _ (xF BC (hr.mono (by decide)) rfl T.Cb T.Cc T.Cd .nil pass0 (@yw _ _ _ (@yx _ _ _ _ _ (pv 0) (@yx _ _ _ _ _ (@xN _ _ _ _ _ _ _ _ xf (pv 5) (pv 10)) xE rfl) rfl))) (@yx _ _ _ _ _ (@xM _ _ _ _ _ _ _ (xQ rfl) (pv 2) yz (λ_ _=>rfl)) (@yx _ _ _ _ _ (@xM _ _ _ _ _ _ _ (xQ rfl) (@xM _ _ _ _ _ _ _ (xQ rfl) (pv 2) yz (λ_ _=>rfl)) (pv 10) (λ_ _=>rfl)) (@yx _ _ _ _ _ (pv 3) (@yx _ _ _ _ _ (pv 4) (@yx _ _ _ _ _ (pv 6) xE rfl) rfl) rfl) rfl) rfl) rfl))) xE rfl))))))) (@xO _ _ _ _ _ _ (@xZ _ _ _ _ _ _ _ _ (@wC _ _ _ _ (xx (pv 7))) (@xI _ _ _ (@xT _ _ _ (xK (i:=8) nd rfl (by first | exact Or.inl rfl | exact Or.inr rfl) (xF C0 (hr.mono (by decide)) rfl T.CW T.CY T.CZ .nil pass0 (@yw _ _ _ (@yx _ _ _ _ _ (pv 1) (@yx _ _ _ _ _ (pv 3) (@yx _ _ _ _ _ (pv 4) (@yx _ _ _ _ _ (pv 6) xE rfl) rfl) rfl) rfl)))))) xS) (@xT _ _ _ (@xR _ _ _ _ (@xp _ _ _ _ _ (@yw _ _ _ (@yx _ _ _ _ _ (@xp _ _ _ _ _ (@yw _ _ _ (@yx _ _ _ _ _ (pv 9) (@yx _ _ _ _ _ (pv 8) xE rfl) rfl))) (@yx _ _ _ _ _ (@xM _ _ _ _ _ _ _ (xQ rfl) (pv 6) yz (λ_ _=>rfl)) xE rfl) rfl))))))))))))),?_⟩
  have line:=line9
  have e200:(2:Int) ^ 200 > 10000:=by decide
  have l60:=gd.len
  have rl:(rooms.map V.int).length=rooms.length:=zA _
  have bnd:∀ n:Nat,n<=100->-(2:Int) ^ 63<=(n:Int)/\(n:Int) < 2 ^ 63:=λn h=>⟨by omega,by omega⟩
  refine ⟨by show 1<=_;omega,λz1 hz1=>(zr rfl (ixt ((hb.same (xB hz1)).book) rfl ⟨tr,zr rfl ⟨.inr (SqT.of (hb.same (xB hz1)).rooms),z1,zr2 rfl rfl ⟨yy,by rw [rl];exact (bnd _ (by omega)).1,by rw [rl];exact (bnd _ (by omega)).2,by rw [rl,zc];show 1 * _<=_;omega,λlb hlb=>?_⟩⟩⟩))⟩
  rw [rl,zc,flat_rep]
  have s1:=(xB (o:=HO.lst [V.int 0]) hz1).trans (xB (o:=HO.lst ((List.replicate rooms.length (0:Int)).map V.int)) hlb)
  have kb1:upd (upd H z1 (HO.lst [V.int 0])) lb (HO.lst ((List.replicate rooms.length (0:Int)).map V.int)) lb=some (.lst ((List.replicate rooms.length (0:Int)).map V.int)):=yy
  have flb:H lb=none:=none_of (xB hz1) hlb
  generalize upd (upd H z1 (HO.lst [V.int 0])) lb (HO.lst ((List.replicate rooms.length (0:Int)).map V.int))=H1 at s1 kb1 ⊢
  refine (zr rfl ⟨ll,rfl,⟨_,SqL.of (s1 _ _ hl.l)⟩,?_⟩)
  refine xj (K:=K) (a:=ll) (xs:=ls.map λa=>V.ref a.1) (λi τ acc H5=>(∃ t0,τ=[t0])/\acc=((ls.take i).map λa=>a.2.m).map V.int/\H1=H5) ⟨⟨_,rfl⟩,rfl,rfl⟩ (by rw [zA];omega) ?_ ?_ ?_
  ·rintro i τ acc H5 ⟨_,rfl,rfl⟩
   exact ⟨by rw [zA,zA,zR];omega,SqL.of (s1 _ _ hl.l)⟩
  ·rintro i v τ acc H5 C hv ⟨⟨t0,rfl⟩,rfl,rfl⟩ hC
   obtain ⟨x,hx,rfl⟩:=xU hv
   refine (zr rfl (ixt (s1 _ _ (hl.each x (zD hx))) rfl (hC _ _ _ ⟨⟨_,rfl⟩,?_,rfl⟩)))
   rw [xY hx,zB,zB];rfl
  rintro τ acc H5 ⟨⟨t0,rfl⟩,rfl,rfl⟩ lr hlr
  rw [zA,zY]
  have s2:=xB (o:=HO.lst ((ls.map λa=>a.2.m).map V.int)) hlr
  have kr2:upd H1 lr (HO.lst ((ls.map λa=>a.2.m).map V.int)) lr=some (.lst ((ls.map λa=>a.2.m).map V.int)):=yy
  have nbr:lb≠lr:=xA kb1 hlr
  have flr:H lr=none:=none_of s1 hlr
  generalize upd H1 lr (HO.lst ((ls.map λa=>a.2.m).map V.int))=H2 at s2 kr2 ⊢
  have s02:=s1.trans s2
  refine (zr rfl ⟨lw,rfl,⟨_,SqL.of (s02 _ _ hW.l)⟩,?_⟩)
  refine xj (K:=K) (a:=lw) (xs:=ws.map λa=>V.ref a.1) (λi τ acc H5=>(∃ t0,τ=[t0])/\acc=((ws.take i).map λa=>a.2.m).map V.int/\H2=H5) ⟨⟨_,rfl⟩,rfl,rfl⟩ (by rw [zA];omega) ?_ ?_ ?_
  ·rintro i τ acc H5 ⟨_,rfl,rfl⟩
   exact ⟨by rw [zA,zA,zR];omega,SqL.of (s02 _ _ hW.l)⟩
  ·rintro i v τ acc H5 C hv ⟨⟨t0,rfl⟩,rfl,rfl⟩ hC
   obtain ⟨x,hx,rfl⟩:=xU hv
   refine (zr rfl (ixt (s02 _ _ (hW.each x (zD hx))) rfl (hC _ _ _ ⟨⟨_,rfl⟩,?_,rfl⟩)))
   rw [xY hx,zB,zB];rfl
  rintro τ acc H5 ⟨⟨t1,rfl⟩,rfl,rfl⟩ lk hlk
  rw [zA,zY]
  have s3:=xB (o:=HO.lst ((ws.map λa=>a.2.m).map V.int)) hlk
  have kk3:upd H2 lk (HO.lst ((ws.map λa=>a.2.m).map V.int)) lk=some (.lst ((ws.map λa=>a.2.m).map V.int)):=yy
  have nbk:lb≠lk:=xA (s2 _ _ kb1) hlk
  have nrk:lr≠lk:=xA kr2 hlk
  have flk:H lk=none:=none_of s02 hlk
  generalize upd H2 lk (HO.lst ((ws.map λa=>a.2.m).map V.int))=H3 at s3 kk3 ⊢
  have s03:=s02.trans s3
  refine ⟨by show 3<=_;omega,λst hst=>?_⟩
  have s4:=xB (o:=HO.tup [V.ref lb,V.ref lr,V.ref lk]) hst
  have kst:upd H3 st (HO.tup [V.ref lb,V.ref lr,V.ref lk]) st=some (.tup [.ref lb,.ref lr,.ref lk]):=yy
  generalize upd H3 st (HO.tup [V.ref lb,V.ref lr,V.ref lk])=H4 at s4 kst ⊢
  have s04:=s03.trans s4
  have pn:PN H hd lb lr lk:=⟨flb,flr,flk,nbr,nbk,nrk,hp.ne flb,hp.ne flr,hp.ne flk⟩
  have pf4:PF H hd lb lr lk st (List.replicate rooms.length 0) (ls.map λa=>a.2.m) (ws.map λa=>a.2.m) H4:=⟨by obtain ⟨a,b,c,e⟩:=hp;exact ⟨a,b,c,s04 _ _ e⟩,λc u _ e=>s04 _ _ e,s4 _ _ (s3 _ _ (s2 _ _ kb1)),s4 _ _ (s3 _ _ kr2),s4 _ _ kk3,kst⟩
  have tk:∀ {H9:Hp}{bs rs ks:List Int},PF H hd lb lr lk st bs rs ks H9->SacksAt H9 ll ls/\SacksAt H9 lw ws/\BookAt H9 b rooms tr tm ps:=λ{H9 bs rs ks} f=>
   ⟨⟨f.kp _ _ nll hl.l,λa ha=>f.kp _ _ (hp.tup (hl.each a ha)) (hl.each a ha)⟩,⟨f.kp _ _ nlw hW.l,λa ha=>f.kp _ _ (hp.tup (hW.each a ha)) (hW.each a ha)⟩,hb.tups λc xs e=>f.kp c _ (hp.tup e) e⟩
  refine (zr rfl ⟨hd,zr rfl ⟨by decide,by decide,pf4.pu,λd H5 d0 d1 g5=>⟨rfl,?_⟩⟩⟩)
  have pf5:PF H hd lb lr lk st (List.replicate rooms.length 0) (ls.map λa=>a.2.m) (ws.map λa=>a.2.m) H5:=⟨g5.2,λc u n e=>g5.1 _ _ n (pf4.kp c u n e),g5.1 _ _ pn.bp pf4.kb,g5.1 _ _ pn.rp pf4.kr,g5.1 _ _ pn.kp pf4.kk,g5.1 _ _ (pf4.pu.tup pf4.ks) pf4.ks⟩
  obtain ⟨er,her⟩:∃ er:Bool,decide (V.int d=V.int 1)=er:=⟨_,rfl⟩
  rw [her]
  refine ⟨zg _,λa0 ha0=>?_⟩
  have s6:=xB (o:=HO.lst []) ha0
  have ka6:upd H5 a0 (HO.lst []) a0=some (.lst []):=yy
  have pf6:=pf5.same s6
  have na0:a0≠hd/\a0≠lb/\a0≠lr/\a0≠lk:=⟨g5.2.ne ha0,(xA pf5.kb ha0).symm,(xA pf5.kr ha0).symm,(xA pf5.kk ha0).symm⟩
  generalize upd H5 a0 (HO.lst [])=H6 at s6 ka6 pf6 ⊢
  have emp:∀ rs ks:List Int,rs.length=ls.length->ks.length=ws.length->(∀ y∈rs,(0:Int)<=y)->(∀ y∈ks,(0:Int)<=y)->StrOk (ls.map (·.2)) (ws.map (·.2)) rs ks [] rs ks:=λrs ks h1 h2 h3 h4=>⟨nofun,nofun,yu,by rw [zA];exact h1,by rw [zA];exact h2,h3,h4,λk _=>by show _=_ - (0:Int);omega,λk _=>by show _=_ - (0:Int);omega⟩
  have lm0:∀ y∈ls.map (λa=>a.2.m),(0:Int)<=y/\y<=99:=λy hy=>by obtain ⟨a,ha,rfl⟩:=zS.mp hy;have:=lm a ha;omega
  have wm0:∀ y∈ws.map (λa=>a.2.m),(0:Int)<=y/\y<=99:=λy hy=>by obtain ⟨a,ha,rfl⟩:=zS.mp hy;have:=wm a ha;omega
  refine (zr rfl (zr rfl ?_))
  refine iteN (fun σ H'=>∃ la ts rs1 ks1,σ=[some (.ref sa),some (.ref hd),some (.ref b),some (.ref ll),some (.ref lw),some (.int n),some (.ref st),some (.bl er),some (.ref la),none,none]/\PF H hd lb lr lk st (List.replicate rooms.length 0) rs1 ks1 H'/\OnceAt H' la ts/\(la≠hd/\la≠lb/\la≠lr/\la≠lk)/\ts.length<=64/\StrOk (ls.map (·.2)) (ws.map (·.2)) (ls.map λa=>a.2.m) (ws.map λa=>a.2.m) (ts.map (·.2)) rs1 ks1/\(er=false->ts=[]/\rs1=(ls.map λa=>a.2.m)/\ks1=(ws.map λa=>a.2.m))) ?_ (λc k=>?_) (λc=>⟨a0,[],zr1 rfl ⟨pf6,⟨ka6,nofun⟩,na0,by show 0<=_;omega,emp _ _ (zA _) (zA _) (λy hy=>(lm0 y hy).1) (λy hy=>(wm0 y hy).1),λ_=>⟨rfl,rfl,rfl⟩⟩⟩)
  rotate_left
  ·obtain ⟨t1,t2,_⟩:=tk pf6
   refine (zr rfl (zr rfl (zr rfl (zr rfl ⟨hd,ll,lw,st,lb,lr,lk,ls,ws,zr1 rfl ⟨pf6.pu,t1,t2,pf6.ks,⟨pf6.kr,pf6.kk⟩,⟨pn.rk,pn.rp,pn.kp⟩,⟨⟨nll,xA hl.l flr,xA hl.l flk⟩,nlw,xA hW.l flr,xA hW.l flk⟩,⟨zA _,zA _,l8,w8⟩,lm0,λy hy=>(wm0 y hy).1,λla ts rs1 ks1 H7 kp7 pu7 kr7 kk7 hla kla kts t64 so=>?_⟩⟩))))
   exact k _ _ ⟨la,ts,rs1,ks1,rfl,pf6.str pn kp7 pu7 kr7 kk7,⟨kla,kts⟩,⟨pu_ne36 pu7 kla,λz=>absurd hla (by rw [z,pf6.kb];simp),λz=>absurd hla (by rw [z,pf6.kr];simp),λz=>absurd hla (by rw [z,pf6.kk];simp)⟩,t64,so,λe=>by rw [e] at c;cases c⟩
  rintro σ H7 ⟨la,ts,rs1,ks1,rfl,pf7,on7,⟨na1,na2,na3,na4⟩,t64,so,noe⟩
  refine ⟨zg _,λlw2 hlw2=>?_⟩
  have s8:=xB (o:=HO.lst []) hlw2
  have kw8:upd H7 lw2 (HO.lst []) lw2=some (.lst []):=yy
  have pf8:=pf7.same s8
  have on8:OnceAt (upd H7 lw2 (HO.lst [])) la ts:=⟨s8 _ _ on7.l,λx hx=>s8 _ _ (on7.e x hx)⟩
  have nw:lw2≠hd/\lw2≠lb/\lw2≠lr/\lw2≠lk/\lw2≠la:=⟨pf7.pu.ne hlw2,(xA pf7.kb hlw2).symm,(xA pf7.kr hlw2).symm,(xA pf7.kk hlw2).symm,(xA on7.l hlw2).symm⟩
  have flw:H lw2=none:=by
   cases z:H lw2 with
   | none=>rfl
   | some u=>rw [pf7.kp _ _ nw.1 z] at hlw2;cases hlw2
  generalize upd H7 lw2 (HO.lst [])=H8 at s8 kw8 pf8 on8 ⊢
  obtain ⟨nw1,nw2,nw3,nw4,nw5⟩:=nw
  obtain ⟨_,_,hb8⟩:=tk pf8
  have r0:RowsOk rooms (ls.map (·.2)) (ws.map (·.2)) [] [] (List.replicate rooms.length 0) rs1 ks1 (List.replicate rooms.length 0) rs1 ks1:=by
   have z:∀ w:Int,bag (List.replicate rooms.length (0:Int)) w=0:=λw=>by unfold bag;rw [zP,z4];split <;> rfl
   exact ⟨rfl,nofun,λ_=>rfl,zX ..,λw=>by rw [z];exact zw _,λw w0 w1=>by rw [z];exact rm0 _ (wS (show w.toNat < rooms.length by omega)),so.rl,so.kl,so.r0,so.k0,λk _=>by show _=_ - (0:Int);omega,λk _=>by show _=_ - (0:Int);omega⟩
  refine (zr rfl (ixt hb8.book rfl ⟨tm,zr rfl ⟨.inr (SqT.of hb8.meets),zr rfl ⟨by rw [zA];omega,by rw [zA];omega,?_⟩⟩⟩))
  rw [zA]
  refine for_range (lo:=0) (n:=ps.length) (λi σ H9=>∃ xs bs2 rs2 ks2,(∃ v10,σ=[some (.ref sa),some (.ref hd),some (.ref b),some (.ref ll),some (.ref lw),some (.int n),some (.ref st),some (.bl er),some (.ref la),some (.ref lw2),v10])/\PF H hd lb lr lk st bs2 rs2 ks2 H9/\OnceAt H9 la ts/\H9 lw2=some (.lst (xs.map λx:RA=>V.ref x.a))/\(∀ x∈xs,RA.At H9 x/\(x.b≠hd/\x.b≠lb/\x.b≠lr/\x.b≠lk/\x.b≠lw2)/\x.c≠hd/\x.c≠lb/\x.c≠lr/\x.c≠lk/\x.c≠lw2)/\RowsOk rooms (ls.map (·.2)) (ws.map (·.2)) ((ps.map (·.2)).take i) (xs.map (·.r)) (List.replicate rooms.length 0) rs1 ks1 bs2 rs2 ks2) ⟨[],_,_,_,⟨_,rfl⟩,pf8,on8,kw8,nofun,r0⟩ ?_ ?_
  ·rintro i σ H9 hi ⟨xs,bs2,rs2,ks2,⟨v10,rfl⟩,pf,on,kw,ax,ro⟩
   have hsa9:SqL K H9 sa (List.map V.int ns):=SqL.but hsa h0 λc u m e=>pf.kp c u m (sm0 _ _ e)
   have lxs:xs.length=i:=by have:=ro.len;rw [zA,zR,zA] at this;omega
   refine (zr rfl ⟨.inl ⟨rfl,_,SqL.of kw⟩,zr rfl (zr rfl (zr rfl (zr2 rfl rfl ⟨sa,ns,n + i,?_,hsa9,by omega,λpz H10 hpz pu s10=>?_⟩)))⟩)
   ·show [V.ref sa,V.int ((n:Int) + (0 + (i:Int)))]=_
    rw [show ((n:Int) + (0 + (i:Int)))=((n + i:Nat):Int) by omega]
   have pf10:=pf.same s10
   obtain ⟨t1,t2,hb10⟩:=tk pf10
   have hat:(ps.map λa=>V.ref a.1)[i]?=some (V.ref ps[i].1):=by simp [hi]
   have mi:=zj hi
   obtain ⟨a1,a2,a3,_,_,a6,a7⟩:=gd.each ps[i].2 (zS.mpr ⟨_,mi,rfl⟩)
   have nz:∀ {c:Addr}{u:HO},H9 c=some u->c≠pz:=λe=>xA e hpz
   refine (zr rfl (ixt hb10.book rfl (zr rfl (ixt hb10.book rfl (zr rfl (ixt hb10.meets (by rw [yH];exact xh hat) (zr rfl (zr rfl (zr rfl ?_)))))))))
   refine ⟨pz,tr,ps[i].1,ll,lw,st,lb,lr,lk,rooms,ps[i].2,ls,ws,bs2,rs2,ks2,rfl,pu,hb10.rooms,hb10.rows _ mi,t1,t2,pf10.ks,⟨pf10.kb,pf10.kr,pf10.kk⟩,⟨pn.br,pn.bk,pn.rk,nz pf.kb,nz pf.kr,nz pf.kk⟩,⟨⟨nz (tk pf).1.l,xA hl.l flb,xA hl.l flr,xA hl.l flk⟩,nz (tk pf).2.1.l,xA hW.l flb,xA hW.l flr,xA hW.l flk⟩,⟨a1,a2,a3,a6,a7⟩,⟨ro.bl,r12,by have:=ro.rl;rwa [zA] at this,by have:=ro.kl;rwa [zA] at this,l8,w8⟩,ro.r0,ro.k0,ro.b0,ro.br,?_⟩
   rintro x bs3 rs3 ks3 H11 kp11 pu11 kb11 kr11 kk11 xat ⟨xa,xb,xc⟩ rok
   have k11:∀ c u,c≠lb->c≠lr->c≠lk->H9 c=some u->H11 c=some u:=λc u m1 m2 m3 e=>kp11 c u (nz e) m1 m2 m3 (s10 _ _ e)
   have kw11:=k11 _ _ nw2 nw3 nw4 kw
   have k12:∀ c u,c≠lb->c≠lr->c≠lk->c≠lw2->H9 c=some u->upd H11 lw2 (HO.lst (xs.map (λx:RA=>V.ref x.a)++[V.ref x.a])) c=some u:=λc u m1 m2 m3 m4 e=>by rw [xG m4];exact k11 c u m1 m2 m3 e
   have tl:∀ {c:Addr}{us vs:List V},H9 c=some (.tup us)->H9 lw2=some (.lst vs)->c≠lw2:=λe1 e2=>ne_of e1 e2 (by intro z;cases z)
   have tup12:∀ {c:Addr}{us:List V},H9 c=some (.tup us)->upd H11 lw2 (HO.lst (xs.map (λx:RA=>V.ref x.a)++[V.ref x.a])) c=some (.tup us):=λ{c us} e=>k12 c _ (ne_of e pf.kb (by intro z;cases z)) (ne_of e pf.kr (by intro z;cases z)) (ne_of e pf.kk (by intro z;cases z)) (tl e kw) e
   have nx:∀ {c d:Addr}{u:HO},H9 d=some u->H10 c=none->c≠d:=λ{c d u} e f z=>by rw [z,s10 _ _ e] at f;cases f
   have hdx:∃ u,H9 hd=some u:=by obtain ⟨a,b,c,e⟩:=pf.pu;exact ⟨_,e⟩
   obtain ⟨hu,hhd⟩:=hdx
   refine ⟨lw2,zr2 rfl rfl ⟨kw11,by rw [zA];omega,xs++[x],bs3,rs3,ks3,⟨_,rfl⟩,⟨?_,λc u m e=>?_,?_,?_,?_,tup12 pf.ks⟩,⟨k12 _ _ na2 na3 na4 nw5.symm on.l,λy hy=>tup12 (on.e y hy)⟩,by rw [yy,zB];rfl,λy hy=>?_,?_⟩⟩
   ·obtain ⟨a,b,c,e⟩:=pf.pu
    exact ⟨a,b,c,k12 _ _ pn.bp.symm pn.rp.symm pn.kp.symm nw1.symm e⟩
   ·exact k12 c u (xA e flb) (xA e flr) (xA e flk) (xA e flw) (pf.kp c u m e)
   ·rw [xG nw2.symm];exact kb11
   ·rw [xG nw3.symm];exact kr11
   ·rw [xG nw4.symm];exact kk11
   ·rcases zV.mp hy with h | h
    ·obtain ⟨e,⟨b1,b2,b3,b4,b5⟩,c1,c2,c3,c4,c5⟩:=ax y h
     exact ⟨⟨tup12 e.a,k12 _ _ b2 b3 b4 b5 e.b,k12 _ _ c2 c3 c4 c5 e.c⟩,⟨b1,b2,b3,b4,b5⟩,c1,c2,c3,c4,c5⟩
    ·rw [zE.mp h]
     refine ⟨⟨?_,?_,?_⟩,⟨nx hhd xb,nx pf.kb xb,nx pf.kr xb,nx pf.kk xb,nx kw xb⟩,nx hhd xc,nx pf.kb xc,nx pf.kr xc,nx pf.kk xc,nx kw xc⟩
     ·rw [xG (nx kw xa)];exact xat.a
     ·rw [xG (nx kw xb)];exact xat.b
     ·rw [xG (nx kw xc)];exact xat.c
   ·rw [xY (map2_at (show ps[i]?=some ps[i] by simp [hi])),zB]
    exact ro.step rok
  ·rintro σ H9 ⟨xs,bs2,rs2,ks2,⟨v10,rfl⟩,pf,on,kw,ax,ro⟩
   rw [show (ps.map (·.2)).take ps.length=ps.map (·.2) from List.take_of_length_le (by rw [zA];exact zF _)] at ro
   have lxs:xs.length=ps.length:=by have:=ro.len;rwa [zA,zA] at this
   refine (zr rfl (zr rfl ?_))
   refine iteN (fun σ H'=>∃ la ts ks3,(∃ v10,σ=[some (.ref sa),some (.ref hd),some (.ref b),some (.ref ll),some (.ref lw),some (.int n),some (.ref st),some (.bl er),some (.ref la),some (.ref lw2),v10])/\(Purse H' hd/\(∀ c u,c≠hd->H c=some u->H' c=some u)/\H' lk=some (.lst (List.map V.int ks3))/\H' st=some (.tup [.ref lb,.ref lr,.ref lk]))/\OnceAt H' la ts/\ts.length<=64/\H' lw2=some (.lst (xs.map λx:RA=>V.ref x.a))/\(∀ x∈xs,RA.At H' x)/\PlanGood rooms (ps.map (·.2)) (ls.map (·.2)) (ws.map (·.2)) (xs.map (·.r)) (ts.map (·.2)) ks3/\(ts.map λx:Addr×T3=>[x.2.k,x.2.j]).Nodup) ?_ (λc k=>?_) (λc=>?_)
   ·rintro σ H12 ⟨la,ts,ks3,⟨v10,rfl⟩,⟨pu,kp,kk,kst⟩,on,t64,kw,ax,pg,nd3⟩
    refine (zr rfl (zr rfl ⟨by show 2<=_;omega,λp hpn=>?_⟩))
    have s13:=xB (o:=HO.tup [V.ref lw2,V.ref la]) hpn
    have kp13:upd H12 p (HO.tup [V.ref lw2,V.ref la]) p=some (.tup [.ref lw2,.ref la]):=yy
    have pu13:Purse (upd H12 p (HO.tup [V.ref lw2,V.ref la])) hd:=pu.new hpn
    generalize upd H12 p (HO.tup [V.ref lw2,V.ref la])=H13 at s13 kp13 pu13 ⊢
    refine (zr rfl (ixt (s13 _ _ kst) rfl ⟨by show 2<=_;omega,λt ht=>?_⟩))
    have s14:=s13.trans (xB (o:=HO.tup [V.ref p,V.ref lk]) ht)
    refine q t p lw2 la xs ts lk ks3 _ ⟨λc u m e=>s14 _ _ (kp c u m e),pu13.new ht⟩ yy ⟨xB ht _ _ kp13,s14 _ _ kw,s14 _ _ on.l,λx hx=>(ax x hx).same s14,λx hx=>s14 _ _ (on.e x hx)⟩ ⟨lxs,l60,by omega,by omega,by omega,λx hx=>by have:=ro.ok x.r (zS.mpr ⟨x,hx,rfl⟩);rwa [zA,zA] at this,λx hx=>by have:=pg.ones x.2 (zS.mpr ⟨x,hx,rfl⟩);rwa [zA,zA] at this⟩ nd3 (s14 _ _ kk) pg
   ·have c:er=false:=by cases er;rfl;cases c
    obtain ⟨rfl,rfl,rfl⟩:=noe c
    obtain ⟨t1,t2,_⟩:=tk pf
    refine (zr rfl (zr rfl (zr rfl (zr rfl ⟨hd,ll,lw,st,lb,lr,lk,ls,ws,rs2,ks2,rfl,pf.pu,t1,t2,pf.ks,⟨pf.kr,pf.kk⟩,⟨pn.rk,pn.rp,pn.kp⟩,⟨⟨nll,xA hl.l flr,xA hl.l flk⟩,nlw,xA hW.l flr,xA hW.l flk⟩,⟨by have:=ro.rl;rwa [zA] at this,by have:=ro.kl;rwa [zA] at this,l8,w8⟩,λy hy=>⟨ro.r0 y hy,?_⟩,ro.k0,λla2 ts2 rs3 ks3 H10 kp10 pu10 kr10 kk10 hla2 kla2 kts2 t642 so2=>k _ _ ⟨la2,ts2,ks3,⟨_,rfl⟩,⟨pu10,(pf.str pn kp10 pu10 kr10 kk10).kp,kk10,(pf.str pn kp10 pu10 kr10 kk10).ks⟩,⟨kla2,kts2⟩,t642,kp10 _ _ nw1 nw3 nw4 kw,λx hx=>?_,?_,?_⟩⟩))))
    ·obtain ⟨k1,hk1,rfl⟩:=mem_g36 hy
     have kl1:k1 < ls.length:=by have:=ro.rl;rw [zA] at this;omega
     have e1:=ro.re k1 (by rw [zA];exact kl1)
     have e2:=(lm0 _ (wS (show k1 < (ls.map λa=>a.2.m).length by rw [zA];exact kl1))).2
     have e3:0<=((xs.map (·.r)).map λx=>g36 x.bg k1).sum:=sum_pos36 λz hz=>by
      obtain ⟨x,hx,rfl⟩:=zS.mp hz
      have ok:=ro.ok x hx
      exact ok.b0 _ (wS (show k1 < x.bg.length by rw [ok.bl,zA];exact kl1))
     omega
    ·obtain ⟨e,⟨b1,b2,b3,b4,b5⟩,c1,c2,c3,c4,c5⟩:=ax x hx
     exact ⟨kp10 _ _ (pf.pu.tup e.a) (ne_of e.a pf.kr (by intro z;cases z)) (ne_of e.a pf.kk (by intro z;cases z)) e.a,kp10 _ _ b1 b3 b4 e.b,kp10 _ _ c1 c3 c4 e.c⟩
    ·rw [<-map_m36,<- map_m36] at ro
     exact good_late ro so2
    ·have:=so2.nd;rwa [zd] at this
   ·refine ⟨la,ts,ks2,⟨_,rfl⟩,⟨pf.pu,pf.kp,pf.kk,pf.ks⟩,on,t64,kw,λx hx=>(ax x hx).1,?_,by have:=so.nd;rwa [zd] at this⟩
    rw [<-map_m36,<- map_m36] at so
    exact good_early so ro
theorem DW:FnScope ["_law_plan_here"] ["_law_plan_here"] (defScope Cl):=⟨rfl,rfl,rfl,by decide +kernel,rfl,by decide +kernel,by decide +kernel⟩
theorem FD (T:Tx K mg a):FnOk P w K mg base CX0 1 a.A8 a.BR ["_law_plan_here"] (spCopy36):=by
 refine T.Bu.ok DW (λvs H Q E h=>?_) (λcdv A outer s H vs Q E hr h=>?_)
 ·obtain ⟨_,_,_,_,_,rfl,_⟩:=h;rfl
 ·have nd:=DW.nd
  have hu:=hr.units
  obtain ⟨p,lr,lt,xs,ts,rfl,hp,x60,t100,l100,q⟩:=h
  refine ⟨_,(@xI _ _ _ (@xT _ _ _ (@xR _ _ _ _ (@xp _ _ _ _ _ (@yw _ _ _ (@yx _ _ _ _ _ (xt (own:=["_law_there", "_law_back", "_law_begun", "_law_come"]) (caps:=[]) rfl (show CompScope ["_law_there", "_law_back", "_law_begun", "_law_come"] [] ["_law_plan_here"] (defScope Cl) _ from ⟨rfl,by decide +kernel,by decide +kernel,by decide +kernel,by decide +kernel⟩) (@xm _ _ _ _ _ rfl (@xM _ _ _ _ _ _ _ (xQ rfl) (pv 0) yz (λ_ _=>rfl))) (λ_ _ _ _=>(xX (n:=4) rfl rfl (xD (xC (i:=0) (show List.Nodup (["_law_there", "_law_back", "_law_begun", "_law_come"]:List Str) from by decide +kernel) rfl (by first | exact Or.inl rfl | exact Or.inr rfl)) (xD (xC (i:=1) (show List.Nodup (["_law_there", "_law_back", "_law_begun", "_law_come"]:List Str) from by decide +kernel) rfl (by first | exact Or.inl rfl | exact Or.inr rfl)) (xD (xC (i:=2) (show List.Nodup (["_law_there", "_law_back", "_law_begun", "_law_come"]:List Str) from by decide +kernel) rfl (by first | exact Or.inl rfl | exact Or.inr rfl)) (xD (xC (i:=3) (show List.Nodup (["_law_there", "_law_back", "_law_begun", "_law_come"]:List Str) from by decide +kernel) rfl (by first | exact Or.inl rfl | exact Or.inr rfl)) xW)))))) (λ_ _ _ _=>xk) (λ_ _ _ _=>(@xp _ _ _ _ _ (@yw _ _ _ (@yx _ _ _ _ _ (pv 0) (@yx _ _ _ _ _ (pv 1) (@yx _ _ _ _ _ (xu (wK rfl) (by rfl) T.b_list zx (@yw _ _ _ (@yx _ _ _ _ _ (pv 2) xE rfl))) (@yx _ _ _ _ _ (xu (wK rfl) (by rfl) T.b_list zx (@yw _ _ _ (@yx _ _ _ _ _ (pv 3) xE rfl))) xE rfl) rfl) rfl) rfl))))) (@yx _ _ _ _ _ (xu (wK rfl) (by rfl) T.b_list zx (@yw _ _ _ (@yx _ _ _ _ _ (@xM _ _ _ _ _ _ _ (xQ rfl) (pv 0) yz (λ_ _=>rfl)) xE rfl))) xE rfl) rfl)))))),?_⟩
  have line:=line9
  refine (zr rfl (ixt hp.p rfl ⟨lr,rfl,⟨_,SqL.of hp.lr⟩,?_⟩))
  refine xj (K:=K) (a:=lr) (xs:=xs.map λx=>V.ref x.a) (λi τ acc H5=>∃ ys:List RA,(∃ t0 t1 t2 t3,τ=[t0,t1,t2,t3])/\acc=ys.map (λy=>V.ref y.a)/\(∀ y∈ys,RA.At H5 y)/\ys.map (·.r)=(xs.take i).map (·.r)/\Same H H5) ⟨[],⟨_,_,_,_,rfl⟩,rfl,nofun,rfl,Same.refl _⟩ (by rw [zA];omega) ?_ ?_ ?_
  ·rintro i τ acc H5 ⟨ys,_,rfl,_,eq,sm⟩
   refine ⟨?_,SqL.of (sm _ _ hp.lr)⟩
   have:=congrArg List.length eq
   rw [zA,zA,zR] at this
   rw [zA];omega
  ·rintro i v τ acc H5 C hv ⟨ys,⟨t0,t1,t2,t3,rfl⟩,rfl,ky,eq,sm⟩ hC
   obtain ⟨x,hx,rfl⟩:=xU hv
   have mx:=zD hx
   have xat:=(hp.rows x mx).same sm
   refine (un4 xat.a ?_)
   refine (zr rfl (zr rfl (zr rfl ⟨x.b,zr rfl ⟨.inl (SqL.of xat.b),λb hb=>?_⟩⟩)))
   have s1:=xB (o:=HO.lst (x.r.bg.map V.int)) hb
   refine (zr rfl ⟨x.c,zr rfl ⟨.inl (SqL.of (s1 _ _ xat.c)),λc hc=>⟨by show 4<=_;omega,λa ha=>?_⟩⟩⟩)
   have s2:=xB (o:=HO.lst (x.r.cm.map V.int)) hc
   have s3:=xB (o:=HO.tup [V.int x.r.th,V.int x.r.bk,V.ref b,V.ref c]) ha
   have s4:=s1.trans (s2.trans s3)
   refine hC _ _ _ ⟨ys++[⟨a,b,c,x.r⟩],⟨_,_,_,_,rfl⟩,by rw [zB];rfl,λy hy=>?_,?_,sm.trans s4⟩
   ·rcases zV.mp hy with h | h
    ·exact (ky y h).same s4
    ·rw [zE.mp h];exact ⟨yy,s3 _ _ (s2 _ _ yy),s3 _ _ yy⟩
   ·rw [zB,eq,xY hx,zB];rfl
  rintro τ acc H5 ⟨ys,⟨t0,t1,t2,t3,rfl⟩,rfl,ky,eq,sm⟩ lr2 hlr2
  rw [zA,zY] at eq
  have s1:=xB (o:=HO.lst (ys.map λy=>V.ref y.a)) hlr2
  have k1:upd H5 lr2 (HO.lst (ys.map λy=>V.ref y.a)) lr2=some (.lst (ys.map λy=>V.ref y.a)):=yy
  generalize upd H5 lr2 (HO.lst (ys.map λy=>V.ref y.a))=H6 at s1 k1 ⊢
  have sm6:=sm.trans s1
  have hp6:=hp.same sm6
  refine (zr rfl (ixt hp6.p rfl ⟨lt,zr rfl ⟨.inl (SqL.of hp6.ls),λlt2 hlt2=>⟨by show 2<=_;omega,λp2 hp2=>?_⟩⟩⟩))
  have s2:=xB (o:=HO.lst (ts.map λx=>V.ref x.1)) hlt2
  have s3:=xB (o:=HO.tup [V.ref lr2,V.ref lt2]) hp2
  exact q p2 lr2 lt2 ys _ (sm6.trans (s2.trans s3)) ⟨yy,s3 _ _ (s2 _ _ k1),s3 _ _ yy,λy hy=>(ky y hy).same (s1.trans (s2.trans s3)),λx hx=>s3 _ _ (s2 _ _ (hp6.ones x hx))⟩ eq
theorem GM:FnScope ["_law_script", "_law_book_here", "_law_head", "_law_loads", "_law_wants", "_law_plan_here", "_law_lacks", "_law_due", "_law_handed", "_law_sacks_handed", "_law_told", "_law_less", "_law_still"] ["_law_script"] (defScope Fu):=⟨rfl,rfl,rfl,by decide +kernel,rfl,by decide +kernel,by decide +kernel⟩
theorem GP (T:Tx K mg a):FnOk P w K mg base CX0 7 a.Ee a.Fv ["_law_script"] (spLaw K):=by
 have BC:=@Co P w _ _ base _ T
 have Gy:=@FE P w _ _ base _ T
 have Eh:=@Fe P w _ _ base _ T
 have CU:=@Fc P w _ _ base _ T
 have Ei:=@Ff P w _ _ base _ T
 have Gw:=@FB P w _ _ base _ T
 have Gx:=@FD P w _ _ base _ T
 refine T.EG.ok GM (λvs H Q E h=>?_) (λcdv A outer s H vs Q E hr h=>?_)
 ·obtain ⟨_,_,rfl,_⟩:=h;rfl
 ·have nd:=GM.nd
  have hu:=hr.units
  obtain ⟨sa,ns,rfl,hS,n63,q⟩:=h
  refine ⟨_,(@xI _ _ _ (@xO _ _ _ _ _ _ (xK (i:=1) nd rfl (by first | exact Or.inl rfl | exact Or.inr rfl) (xF Gy (hr.mono (by decide)) rfl T.FX T.F6 T.Ge .nil pass0 (@yw _ _ _ (@yx _ _ _ _ _ (xF BC (hr.mono (by decide)) rfl T.Cb T.Cc T.Cd .nil pass0 (@yw _ _ _ (@yx _ _ _ _ _ (pv 0) (@yx _ _ _ _ _ yz xE rfl) rfl))) (@yx _ _ _ _ _ yz (@yx _ _ _ _ _ yz xE rfl) rfl) rfl)))) (@xO _ _ _ _ _ _ (xK (i:=2) nd rfl (by first | exact Or.inl rfl | exact Or.inr rfl) (xF BC (hr.mono (by decide)) rfl T.Cb T.Cc T.Cd .nil pass0 (@yw _ _ _ (@yx _ _ _ _ _ (pv 0) (@yx _ _ _ _ _ yz xE rfl) rfl)))) (@xO _ _ _ _ _ _ (xK (i:=3) nd rfl (by first | exact Or.inl rfl | exact Or.inr rfl) (xF Ei (hr.mono (by decide)) rfl T.D4 T.D8 T.Ec .nil pass0 (@yw _ _ _ (@yx _ _ _ _ _ (pv 0) (@yx _ _ _ _ _ (pv 1) (@yx _ _ _ _ _ (pv 2) (@yx _ _ _ _ _ yz (@yx _ _ _ _ _ yz xE rfl) rfl) rfl) rfl) rfl)))) (@xO _ _ _ _ _ _ (xK (i:=4) nd rfl (by first | exact Or.inl rfl | exact Or.inr rfl) (xF Ei (hr.mono (by decide)) rfl T.D4 T.D8 T.Ec .nil pass0 (@yw _ _ _ (@yx _ _ _ _ _ (pv 0) (@yx _ _ _ _ _ (pv 1) (@yx _ _ _ _ _ (pv 2) (@yx _ _ _ _ _ yz (@yx _ _ _ _ _ yz xE rfl) rfl) rfl) rfl) rfl)))) (@xO _ _ _ _ _ _ (xo (xF Gw (hr.mono (by decide)) rfl T.FV T.F4 T.Gc .nil pass0 (@yw _ _ _ (@yx _ _ _ _ _ (pv 0) (@yx _ _ _ _ _ (pv 2) (@yx _ _ _ _ _ (pv 1) (@yx _ _ _ _ _ (pv 3) (@yx _ _ _ _ _ (pv 4) (@yx _ _ _ _ _ yz xE rfl) rfl) rfl) rfl) rfl) rfl))) (xX (n:=2) rfl rfl (xD (xC (i:=5) nd rfl (by first | exact Or.inl rfl | exact Or.inr rfl)) (xD (xC (i:=6) nd rfl (by first | exact Or.inl rfl | exact Or.inr rfl)) xW)))) (@xO _ _ _ _ _ _ (xK (i:=7) nd rfl (by first | exact Or.inl rfl | exact Or.inr rfl) (@xN _ _ _ _ _ _ _ _ wD (xH (call_sumL rfl) (by rfl) T.b_sum yD (@yw _ _ _ (@yx _ _ _ _ _ (xt (own:=["_law_want"]) (caps:=[]) rfl (show CompScope ["_law_want"] [] ["_law_script", "_law_book_here", "_law_head", "_law_loads", "_law_wants", "_law_plan_here", "_law_lacks", "_law_due", "_law_handed", "_law_sacks_handed", "_law_told", "_law_less", "_law_still"] (defScope Fu) _ from ⟨rfl,by decide +kernel,by decide +kernel,by decide +kernel,by decide +kernel⟩) (@xm _ _ _ _ _ rfl (pv 4)) (λ_ _ _ _=>(xC (i:=0) (show List.Nodup (["_law_want"]:List Str) from by decide +kernel) rfl (by first | exact Or.inl rfl | exact Or.inr rfl))) (λ_ _ _ _=>xk) (λ_ _ _ _=>(@xM _ _ _ _ _ _ _ (xQ rfl) (pv 0) yz (λ_ _=>rfl)))) xE rfl))) (xH (call_sumL rfl) (by rfl) T.b_sum yD (@yw _ _ _ (@yx _ _ _ _ _ (pv 6) xE rfl))))) (@xO _ _ _ _ _ _ (xK (i:=8) nd rfl (by first | exact Or.inl rfl | exact Or.inr rfl) (xF Gx (hr.mono (by decide)) rfl T.FW T.F5 T.Gd .nil pass0 (@yw _ _ _ (@yx _ _ _ _ _ (pv 5) xE rfl)))) (@xO _ _ _ _ _ _ (xK (i:=9) nd rfl (by first | exact Or.inl rfl | exact Or.inr rfl) (@xV _ _ _ _ (@yw _ _ _ (@yx _ _ _ _ _ (xu (wK rfl) (by rfl) T.b_list zx (@yw _ _ _ (@yx _ _ _ _ _ (pv 3) xE rfl))) (@yx _ _ _ _ _ (xu (wK rfl) (by rfl) T.b_list zx (@yw _ _ _ (@yx _ _ _ _ _ (pv 4) xE rfl))) xE rfl) rfl)))) (@xO _ _ _ _ _ _ (xK (i:=10) nd rfl (by first | exact Or.inl rfl | exact Or.inr rfl) (xF CU (hr.mono (by decide)) rfl T.CG T.CJ T.CL .nil pass0 (@yw _ _ _ (@yx _ _ _ _ _ (pv 1) (@yx _ _ _ _ _ (@xM _ _ _ _ _ _ _ (xL rfl) (pv 9) yz (λ_ _=>rfl)) (@yx _ _ _ _ _ (@xM _ _ _ _ _ _ _ (xL rfl) (pv 9) yz (λ_ _=>rfl)) (@yx _ _ _ _ _ (pv 8) xE rfl) rfl) rfl) rfl)))) (@xO _ _ _ _ _ _ (@xZ _ _ _ _ _ _ _ _ (@PW.pt _ _ _ (@pw_or _ _ _ _ _ _ _ (@wC _ _ _ _ (xx (xF Eh (hr.mono (by decide)) rfl T.D3 T.D7 T.Eb .nil pass0 (@yw _ _ _ (@yx _ _ _ _ _ (pv 10) xE rfl))))) (@wO _ _ _ _ (@xP _ _ _ _ _ _ _ _ op_ne (pv 10) (pv 7) (nomark _))))) (@xI _ _ _ (@xT _ _ _ (@xR _ _ _ _ pe_bl))) xS) (@xO _ _ _ _ _ _ (@xZ _ _ _ _ _ _ _ _ (@PW.pt _ _ _ (@pw_or _ _ _ _ _ _ _ (@xP _ _ _ _ _ _ _ _ (op_neE hu) (pv 8) (pv 5) (nomark _)) (@wO _ _ _ _ (@xP _ _ _ _ _ _ _ _ (op_neE hu) (pv 9) (@xV _ _ _ _ (@yw _ _ _ (@yx _ _ _ _ _ (pv 3) (@yx _ _ _ _ _ (pv 4) xE rfl) rfl))) (nomark _))))) (@xI _ _ _ (@xT _ _ _ (@xR _ _ _ _ pe_bl))) xS) (@xO _ _ _ _ _ _ (xK (i:=11) nd rfl (by first | exact Or.inl rfl | exact Or.inr rfl) (xH (call_sumL rfl) (by rfl) T.b_sum yD (@yw _ _ _ (@yx _ _ _ _ _ (xt (own:=["_law_one"]) (caps:=[]) rfl (show CompScope ["_law_one"] [] ["_law_script", "_law_book_here", "_law_head", "_law_loads", "_law_wants", "_law_plan_here", "_law_lacks", "_law_due", "_law_handed", "_law_sacks_handed", "_law_told", "_law_less", "_law_still"] (defScope Fu) _ from ⟨rfl,by decide +kernel,by decide +kernel,by decide +kernel,by decide +kernel⟩) (@xm _ _ _ _ _ rfl (@xM _ _ _ _ _ _ _ (xQ rfl) (pv 5) yz (λ_ _=>rfl))) (λ_ _ _ _=>(xC (i:=0) (show List.Nodup (["_law_one"]:List Str) from by decide +kernel) rfl (by first | exact Or.inl rfl | exact Or.inr rfl))) (λ_ _ _ _=>xk) (λ_ _ _ _=>(@xM _ _ _ _ _ _ _ (xQ rfl) (pv 0) yz (λ_ _=>rfl)))) xE rfl)))) (@xO _ _ _ _ _ _ (@xZ _ _ _ _ _ _ _ _ (@xP _ _ _ _ _ _ _ _ op_ne (xF CU (hr.mono (by decide)) rfl T.CG T.CJ T.CL .nil pass0 (@yw _ _ _ (@yx _ _ _ _ _ (pv 1) (@yx _ _ _ _ _ (pv 3) (@yx _ _ _ _ _ (pv 4) (@yx _ _ _ _ _ (@xp _ _ _ _ _ (@yw _ _ _ (@yx _ _ _ _ _ (@xM _ _ _ _ _ _ _ (xQ rfl) (pv 8) yz (λ_ _=>rfl)) (@yx _ _ _ _ _ (@xV _ _ _ _ wP) xE rfl) rfl))) xE rfl) rfl) rfl) rfl))) (@xN _ _ _ _ _ _ _ _ wD (pv 7) (pv 11)) (nomark _)) (@xI _ _ _ (@xT _ _ _ (@xR _ _ _ _ pe_bl))) xS) (@xO _ _ _ _ _ _ (ps_setComp (ix:=12) nd rfl (by first | exact Or.inl rfl | exact Or.inr rfl) (own:=["_law_meeting"]) (caps:=[3,4]) rfl (show CompScope ["_law_meeting"] [3,4] ["_law_script", "_law_book_here", "_law_head", "_law_loads", "_law_wants", "_law_plan_here", "_law_lacks", "_law_due", "_law_handed", "_law_sacks_handed", "_law_told", "_law_less", "_law_still"] (defScope Fu) _ from ⟨rfl,by decide +kernel,by decide +kernel,by decide +kernel,by decide +kernel⟩) (@pi_tup'' _ _ _ _ _ rfl (@xM _ _ _ _ _ _ _ (xQ rfl) (pv 1) yz (λ_ _=>rfl))) (λ_ _ _ _=>(xC (i:=0) (show List.Nodup (["_law_meeting", "_law_loads", "_law_wants"]:List Str) from by decide +kernel) rfl (by first | exact Or.inl rfl | exact Or.inr rfl))) (λ_ _ _ _=>xk) (λ_ _ _ _=>(@xp _ _ _ _ _ (@yw _ _ _ (@yx _ _ _ _ _ yz (@yx _ _ _ _ _ yz (@yx _ _ _ _ _ (@xN _ _ _ _ _ _ _ _ op_rep (@xV _ _ _ _ (@yw _ _ _ (@yx _ _ _ _ _ yz xE rfl))) (xH (xJ rfl) (by rfl) T.b_len PySem.boot_len (@yw _ _ _ (@yx _ _ _ _ _ (pv 1) xE rfl)))) (@yx _ _ _ _ _ (@xN _ _ _ _ _ _ _ _ op_rep (@xV _ _ _ _ (@yw _ _ _ (@yx _ _ _ _ _ yz xE rfl))) (xH (xJ rfl) (by rfl) T.b_len PySem.boot_len (@yw _ _ _ (@yx _ _ _ _ _ (pv 2) xE rfl)))) xE rfl) rfl) rfl) rfl))))) (@xO _ _ _ _ _ _ (xK (i:=10) nd rfl (by first | exact Or.inl rfl | exact Or.inr rfl) (xF CU (hr.mono (by decide)) rfl T.CG T.CJ T.CL .nil pass0 (@yw _ _ _ (@yx _ _ _ _ _ (pv 1) (@yx _ _ _ _ _ (pv 3) (@yx _ _ _ _ _ (pv 4) (@yx _ _ _ _ _ (@xp _ _ _ _ _ (@yw _ _ _ (@yx _ _ _ _ _ (pv 12) (@yx _ _ _ _ _ (@xV _ _ _ _ wP) xE rfl) rfl))) xE rfl) rfl) rfl) rfl)))) (@xT _ _ _ (@xR _ _ _ _ (@pe_and _ _ _ _ _ _ _ (xF Eh (hr.mono (by decide)) rfl T.D3 T.D7 T.Eb .nil pass0 (@yw _ _ _ (@yx _ _ _ _ _ (pv 10) xE rfl))) (@pe_one _ _ _ _ _ (@wE _ _ _ _ _ _ _ _ wU (pv 10) yz (nomark _)))))))))))))))))))))),?_⟩
  have line:=line9
  refine (zr rfl ⟨sa,ns,0,rfl,hS,by decide,λp H1 hp pu1 s1=>?_⟩)
  refine ⟨p,6,14,rfl,by decide,by decide,by decide,pu1,λb rooms tr tm ps H2 g2 hb r1 r6 rm gd l14=>?_⟩
  have s2:=same_go36 hp s1 g2.1
  have hsa2:SqL K H2 sa (List.map V.int ns):=SqL.but hS hp λc u _ e=>s2 _ _ e
  refine (zr rfl ⟨sa,ns,1,rfl,hsa2,by decide,λhd H3 hhd pu3 s3=>?_⟩)
  have r12:rooms.length<=12:=by omega
  have hb3:=hb.same s3
  have rm0:∀ y∈rooms,(0:Int)<=y:=λy hy=>(rm y hy).1
  refine (zr rfl (zr rfl (zr rfl ⟨sa,b,hd,ex8 0 rooms tr tm ps ns 3 H2 ⟨rfl,hsa2,n63,hhd,s3,by decide,.inl rfl,hb3,gd,r1,r12,pu3,λll ls H4 hll g4 hl4 l8 lb=>?_⟩⟩)))
  have s4:=same_go36 hhd s3 g4.1
  have hb4:=hb.same s4
  have nll:ll≠hd:=pu3.ne hll
  refine (zr rfl (zr rfl (zr rfl ⟨sa,b,hd,ex8 1 rooms tr tm ps ns 4 H2 ⟨rfl,hsa2,n63,hhd,s4,by decide,.inr rfl,hb4,gd,r1,r12,g4.2,λlw ws H5 hlw g5 hw5 w8 wb=>?_⟩⟩)))
  have s5:=same_go36 hhd s3 (g4.1.trans g5.1)
  have hb5:=hb.same s5
  have nlw:lw≠hd:=g4.2.ne hlw
  have hl5:SacksAt H5 ll ls:=⟨g5.1 _ _ nll hl4.l,λa ha=>g5.tups g4.2 _ _ (hl4.each a ha)⟩
  refine (zr rfl (zr rfl (zr rfl (zr rfl (zr rfl ⟨sa,hd,ex12 b ll lw rooms tr tm ps ls ws ns 19 H2 ⟨rfl,hsa2,n63,hhd,s5,by decide,hb5,gd,r1,r12,rm0,g5.2,hl5,hw5,⟨nll,nlw⟩,l8,w8,λa ha=>(lb a ha).2.2,λa ha=>(wb a ha).2.2,λt p lr lt xs ts lk ks2 H6 g6 kt pa pok nd2 kk pg=>?_⟩⟩)))))
  have hb6:=hb.same (same_go36 hhd s3 ((g4.1.trans g5.1).trans g6.1))
  have hl6:SacksAt H6 ll ls:=⟨g6.1 _ _ nll hl5.l,λa ha=>g6.tups g5.2 _ _ (hl5.each a ha)⟩
  have hw6:SacksAt H6 lw ws:=⟨g6.1 _ _ nlw hw5.l,λa ha=>g6.tups g5.2 _ _ (hw5.each a ha)⟩
  refine (un2 kt ?_)
  clear g6 g5 g4 hl5 hw5 hl4 hb5 hb4 hb3
  refine (zr rfl ⟨lw,rfl,⟨_,SqL.of hw6.l⟩,?_⟩)
  refine xj (K:=K) (a:=lw) (xs:=ws.map λa=>V.ref a.1) (λi τ acc H5=>(∃ t0,τ=[t0])/\acc=((ws.take i).map λa=>a.2.m).map V.int/\H6=H5) ⟨⟨_,rfl⟩,rfl,rfl⟩ (by rw [zA];omega) ?_ ?_ ?_
  ·rintro i τ acc H5 ⟨_,rfl,rfl⟩
   exact ⟨by rw [zA,zA,zR];omega,SqL.of hw6.l⟩
  ·rintro i v τ acc H5 C hv ⟨⟨t0,rfl⟩,rfl,rfl⟩ hC
   obtain ⟨x,hx,rfl⟩:=xU hv
   refine (zr rfl (ixt (hw6.each x (zD hx)) rfl (hC _ _ _ ⟨⟨_,rfl⟩,?_,rfl⟩)))
   rw [xY hx,zB,zB];rfl
  rintro τ acc H7 ⟨⟨t0,rfl⟩,rfl,rfl⟩ lc hlc
  rw [zA,zY]
  have s7:=xB (o:=HO.lst ((ws.map λa=>a.2.m).map V.int)) hlc
  have kc7:upd H6 lc (HO.lst ((ws.map λa=>a.2.m).map V.int)) lc=some (.lst ((ws.map λa=>a.2.m).map V.int)):=yy
  generalize upd H6 lc (HO.lst ((ws.map λa=>a.2.m).map V.int))=H7 at s7 kc7 ⊢
  refine ⟨lc,zr rfl ⟨SqL.of kc7,zr rfl ⟨lk,zr rfl ⟨SqL.of (s7 _ _ kk),zr2 rfl rfl ?_⟩⟩⟩⟩
  have pa7:=pa.same s7
  have l100:∀ x∈xs,x.r.bg.length<=100/\x.r.cm.length<=100:=λx hx=>by have:=pok.rows x hx;rw [this.bl,this.cl];omega
  have x60:xs.length<=60:=by have:=pok.n;have:=pok.m60;omega
  refine (zr rfl ⟨p,lr,lt,xs,ts,rfl,pa7,x60,pok.t,l100,λp2 lr2 lt2 ys H8 s8 pb eyx=>?_⟩)
  have s08:=s7.trans s8
  have hl8:=hl6.same s08
  have hw8:=hw6.same s08
  refine (zr rfl ⟨ll,zr rfl ⟨.inl (SqL.of hl8.l),λl2 hl2=>?_⟩⟩)
  have s9:=xB (o:=HO.lst (ls.map λa=>V.ref a.1)) hl2
  have k29:upd H8 l2 (HO.lst (ls.map λa=>V.ref a.1)) l2=some (.lst (ls.map λa=>V.ref a.1)):=yy
  generalize upd H8 l2 (HO.lst (ls.map λa=>V.ref a.1))=H9 at s9 k29 ⊢
  refine (zr rfl ⟨lw,zr rfl ⟨.inl (SqL.of (s9 _ _ hw8.l)),λw2 hw2=>?_⟩⟩)
  have s10:=xB (o:=HO.lst (ws.map λa=>V.ref a.1)) hw2
  have k210:upd H9 w2 (HO.lst (ws.map λa=>V.ref a.1)) w2=some (.lst (ws.map λa=>V.ref a.1)):=yy
  generalize upd H9 w2 (HO.lst (ws.map λa=>V.ref a.1))=H10 at s10 k210 ⊢
  refine ⟨by show 2<=_;omega,λsh hsh=>?_⟩
  have s11:=xB (o:=HO.lst [V.ref l2,V.ref w2]) hsh
  have ksh:upd H10 sh (HO.lst [V.ref l2,V.ref w2]) sh=some (.lst [V.ref l2,V.ref w2]):=yy
  generalize upd H10 sh (HO.lst [V.ref l2,V.ref w2])=H11 at s11 ksh ⊢
  have s011:=s08.trans (s9.trans (s10.trans s11))
  have h2l:SacksAt H11 l2 ls:=⟨s11 _ _ (s10 _ _ k29),(hl6.same s011).each⟩
  have h2w:SacksAt H11 w2 ws:=⟨s11 _ _ k210,(hw6.same s011).each⟩
  have pb11:=pb.same (s9.trans (s10.trans s11))
  have lyx:ys.length=xs.length:=by have:=congrArg List.length eyx;rwa [zA,zA] at this
  have poky:PlanOk ps.length ls.length ws.length ys ts:=⟨by rw [lyx];exact pok.n,pok.m60,pok.l,pok.w,pok.t,λy hy=>by
   have:y.r∈xs.map (·.r):=by rw [<-eyx];exact zS.mpr ⟨y,hy,rfl⟩
   obtain ⟨x,hx,e⟩:=zS.mp this
   rw [<-e];exact pok.rows x hx,pok.ones⟩
  have v1:=pg.worth (ts.map (·.2)) (.inl rfl)
  rw [Int.sub_self,yt,map_m36] at v1
  refine (zr rfl (zr rfl (ixl ksh rfl (zr rfl (ixl ksh rfl (zr rfl ?_))))))
  refine (ex14 b l2 w2 p2 rooms tr tm ps ls ws lr2 lt2 ys ts ⟨rfl,hb6.same s011,gd,by omega,h2l,h2w,pb11,poky,nd2,λH12 s12=>?_⟩)
  rw [eyx,v1]
  refine (zr rfl ⟨_, "int", rfl,rfl,zr rfl (iteB0 rfl (zr rfl (zr rfl ⟨rfl,zr rfl (iteB0 (by show (!decide (V.int _=V.int _))=false;simp) ?_)⟩)))⟩)
  have s012:=s011.trans s12
  refine (zr rfl (zr rfl (PlanAt.ne (pb11.same s12) (pa.same s012) eyx (zr rfl (iteB0 rfl ?_)))))
  refine (zr rfl (zr rfl (zr rfl ⟨by show 2<=_;omega,λu hu=>?_⟩)))
  have s13:=xB (o:=HO.lst [V.ref ll,V.ref lw]) hu
  have ku:upd H12 u (HO.lst [V.ref ll,V.ref lw]) u=some (.lst [V.ref ll,V.ref lw]):=yy
  generalize upd H12 u (HO.lst [V.ref ll,V.ref lw])=H13 at s13 ku ⊢
  have s013:=s012.trans s13
  have mr:∀ qs:List (Addr×S3),(qs.map λa=>V.ref a.1)=(qs.map (·.1)).map V.ref:=λqs=>by rw [zd];rfl
  refine two_ne36 (xs:=ls.map (·.1)) (ys:=ws.map (·.1)) (s13 _ _ (s12 _ _ ksh)) ku (by rw [<-mr];exact s13 _ _ (s12 _ _ h2l.l)) (by rw [<-mr];exact s013 _ _ hl6.l) (by rw [<-mr];exact s13 _ _ (s12 _ _ h2w.l)) (by rw [<-mr];exact s013 _ _ hw6.l) (zr rfl (iteB0 rfl ?_))
  have pa13:=pa.same s013
  refine (zr rfl (ixt pa13.p rfl ⟨lt,rfl,⟨_,SqL.of pa13.ls⟩,?_⟩))
  have t100:=pok.t
  refine xj (K:=K) (a:=lt) (xs:=ts.map λa=>V.ref a.1) (λi τ acc H5=>(∃ t0,τ=[t0])/\acc=((ts.take i).map λa=>a.2.m).map V.int/\H13=H5) ⟨⟨_,rfl⟩,rfl,rfl⟩ (by rw [zA];omega) ?_ ?_ ?_
  ·rintro i τ acc H5 ⟨_,rfl,rfl⟩
   exact ⟨by rw [zA,zA,zR];omega,SqL.of pa13.ls⟩
  ·rintro i v τ acc H5 C hv ⟨⟨t0,rfl⟩,rfl,rfl⟩ hC
   obtain ⟨x,hx,rfl⟩:=xU hv
   refine (zr rfl (ixt (pa13.ones x (zD hx)) rfl (hC _ _ _ ⟨⟨_,rfl⟩,?_,rfl⟩)))
   rw [xY hx,zB,zB];rfl
  rintro τ acc H14 ⟨⟨t0,rfl⟩,rfl,rfl⟩ lc2 hlc2
  rw [zA,zY]
  have s14:=xB (o:=HO.lst ((ts.map λa=>a.2.m).map V.int)) hlc2
  have kc14:upd H13 lc2 (HO.lst ((ts.map λa=>a.2.m).map V.int)) lc2=some (.lst ((ts.map λa=>a.2.m).map V.int)):=yy
  generalize upd H13 lc2 (HO.lst ((ts.map λa=>a.2.m).map V.int))=H14 at s14 kc14 ⊢
  have s014:=s013.trans s14
  refine ⟨lc2,zr rfl ⟨SqL.of kc14,?_⟩⟩
  have pb14:=(pb11.same s12).same (s13.trans s14)
  refine (zr rfl (zr rfl (zr rfl (zr rfl (ixt pb14.p rfl ⟨zg _,λe0 he0=>?_⟩)))))
  have s15:=xB (o:=HO.lst []) he0
  have ke0:upd H14 e0 (HO.lst []) e0=some (.lst []):=yy
  generalize upd H14 e0 (HO.lst [])=H15 at s15 ke0 ⊢
  refine ⟨by show 2<=_;omega,λp3 hp3=>?_⟩
  have s16:=xB (o:=HO.tup [V.ref lr2,V.ref e0]) hp3
  have kp3:upd H15 p3 (HO.tup [V.ref lr2,V.ref e0]) p3=some (.tup [V.ref lr2,V.ref e0]):=yy
  generalize upd H15 p3 (HO.tup [V.ref lr2,V.ref e0])=H16 at s16 kp3 ⊢
  have s1416:=s15.trans s16
  have s016:=s014.trans s1416
  have pb16:=pb14.same s1416
  have v2:=pg.worth [] (.inr rfl)
  have v2:worthF rooms (ps.map (·.2)) (ls.map (·.2)) (ws.map (·.2)) (xs.map (·.r)) []=some ((ws.map λa=>a.2.m).sum - ks2.sum - (ts.map λa=>a.2.m).sum):=by
   rw [v2,map_m36]
   have e1:(ts.map (·.2)).map (·.m)=ts.map λa=>a.2.m:=by rw [zd];rfl
   rw [e1]
   show some (_ - ((ts.map λa=>a.2.m).sum - (0:Int)))=_
   rw [yt]
  refine (ex14 b ll lw p3 rooms tr tm ps ls ws lr2 e0 ys ([]) ⟨rfl,hb6.same s016,gd,by omega,hl6.same s016,hw6.same s016,⟨kp3,pb16.lr,s16 _ _ ke0,pb16.rows,nofun⟩,⟨poky.n,poky.m60,poky.l,poky.w,by show 0<=_;omega,poky.rows,nofun⟩,yu,λH17 s17=>?_⟩)
  have v2':worthF rooms (ps.map (·.2)) (ls.map (·.2)) (ws.map (·.2)) (xs.map (·.r)) (([]:List (Addr×T3)).map (·.2))=some ((ws.map λa=>a.2.m).sum - ks2.sum - (ts.map λa=>a.2.m).sum):=v2
  rw [eyx,v2']
  refine (zr rfl (zr rfl (zr2 rfl rfl ⟨rfl,zr rfl (iteB0 (by show (!decide (V.int _=V.int _))=false;simp) ?_)⟩)))
  have s017:=s016.trans s17
  have hb17:=hb6.same s017
  have hl17:=hl6.same s017
  have hw17:=hw6.same s017
  have l60:=gd.len
  have bnd:∀ n:Nat,n<=100->-(2:Int) ^ 63<=(n:Int)/\(n:Int) < 2 ^ 63:=λn h=>⟨by omega,by omega⟩
  refine (zr rfl (ixt hb17.book rfl ⟨tm,rfl,⟨_,SqT.of hb17.meets⟩,?_⟩))
  refine comp_tup (K:=K) (a:=tm) (xs:=ps.map λa=>V.ref a.1) (λi τ acc H5=>∃ zs:List RA,(∃ t0,τ=[t0,some (.ref ll),some (.ref lw)])/\acc=zs.map (λz=>V.ref z.a)/\(∀ z∈zs,RA.At H5 z)/\zs.map (·.r)=List.replicate i ⟨0,0,List.replicate ls.length 0,List.replicate ws.length 0⟩/\Same H17 H5) ⟨[],⟨_,rfl⟩,rfl,nofun,rfl,Same.refl _⟩ (by rw [zA];omega) ?_ ?_ ?_
  ·rintro i τ acc H5 ⟨zs,_,rfl,_,eq,sm⟩
   refine ⟨?_,SqT.of (sm _ _ hb17.meets)⟩
   have:=congrArg List.length eq
   rw [zA,zX] at this
   rw [zA];omega
  ·rintro i v τ acc H5 C hv ⟨zs,⟨t0,rfl⟩,rfl,kz,eq,sm⟩ hC
   refine ⟨by show 1<=_;omega,λz1 hz1=>(zr rfl ⟨ll,zr rfl ⟨.inl (SqL.of (xB hz1 _ _ (sm _ _ hl17.l))),z1,zr2 rfl rfl ⟨yy,(bnd _ (by rw [zA];omega)).1,(bnd _ (by rw [zA];omega)).2,by rw [zA,zc];show 1 * _<=_;omega,λbg hbg=>?_⟩⟩⟩)⟩
   rw [zA,zc,flat_rep]
   have t2:=(xB (o:=HO.lst [V.int 0]) hz1).trans (xB (o:=HO.lst ((List.replicate ls.length (0:Int)).map V.int)) hbg)
   have kb2:upd (upd H5 z1 (HO.lst [V.int 0])) bg (HO.lst ((List.replicate ls.length (0:Int)).map V.int)) bg=some (.lst ((List.replicate ls.length (0:Int)).map V.int)):=yy
   generalize upd (upd H5 z1 (HO.lst [V.int 0])) bg (HO.lst ((List.replicate ls.length (0:Int)).map V.int))=H6' at t2 kb2 ⊢
   refine ⟨by show 1<=_;omega,λz2 hz2=>(zr rfl ⟨lw,zr rfl ⟨.inl (SqL.of (xB hz2 _ _ (t2 _ _ (sm _ _ hw17.l)))),z2,zr2 rfl rfl ⟨yy,(bnd _ (by rw [zA];omega)).1,(bnd _ (by rw [zA];omega)).2,by rw [zA,zc];show 1 * _<=_;omega,λcm hcm=>?_⟩⟩⟩)⟩
   rw [zA,zc,flat_rep]
   have t3:=(xB (o:=HO.lst [V.int 0]) hz2).trans (xB (o:=HO.lst ((List.replicate ws.length (0:Int)).map V.int)) hcm)
   have kc3:upd (upd H6' z2 (HO.lst [V.int 0])) cm (HO.lst ((List.replicate ws.length (0:Int)).map V.int)) cm=some (.lst ((List.replicate ws.length (0:Int)).map V.int)):=yy
   generalize upd (upd H6' z2 (HO.lst [V.int 0])) cm (HO.lst ((List.replicate ws.length (0:Int)).map V.int))=H7' at t3 kc3 ⊢
   refine ⟨by show 4<=_;omega,λa ha=>?_⟩
   have t4:=xB (o:=HO.tup [V.int 0,V.int 0,V.ref bg,V.ref cm]) ha
   have t5:=t2.trans (t3.trans t4)
   refine hC _ _ _ ⟨zs++[⟨a,bg,cm,⟨0,0,List.replicate ls.length 0,List.replicate ws.length 0⟩⟩],⟨_,rfl⟩,by rw [zB];rfl,λy hy=>?_,?_,sm.trans t5⟩
   ·rcases zV.mp hy with h | h
    ·exact (kz y h).same t5
    ·rw [zE.mp h];exact ⟨yy,t4 _ _ (t3 _ _ kb2),t4 _ _ kc3⟩
   ·rw [zB,eq,ye];rfl
  rintro τ acc H18 ⟨zs,⟨t0,rfl⟩,rfl,kz,eq,sm⟩ sl hsl
  rw [zA] at eq
  have s18:=xB (o:=HO.lst (zs.map λz=>V.ref z.a)) hsl
  have ksl:upd H18 sl (HO.lst (zs.map λz=>V.ref z.a)) sl=some (.lst (zs.map λz=>V.ref z.a)):=yy
  generalize upd H18 sl (HO.lst (zs.map λz=>V.ref z.a))=H19 at s18 ksl ⊢
  have s1719:=sm.trans s18
  refine (zr rfl (zr rfl (zr rfl (zr rfl ⟨zg _,λe1 he1=>?_⟩))))
  have s20:=xB (o:=HO.lst []) he1
  have ke1:upd H19 e1 (HO.lst []) e1=some (.lst []):=yy
  generalize upd H19 e1 (HO.lst [])=H20 at s20 ke1 ⊢
  refine ⟨by show 2<=_;omega,λp4 hp4=>?_⟩
  have s21:=xB (o:=HO.tup [V.ref sl,V.ref e1]) hp4
  have kp4:upd H20 p4 (HO.tup [V.ref sl,V.ref e1]) p4=some (.tup [V.ref sl,V.ref e1]):=yy
  generalize upd H20 p4 (HO.tup [V.ref sl,V.ref e1])=H21 at s21 kp4 ⊢
  have s1721:=s1719.trans (s20.trans s21)
  have lz:zs.length=ps.length:=by have:=congrArg List.length eq;rwa [zA,zX] at this
  have ez:zs.map (·.r)=(ps.map (·.2)).map λ_=>⟨0,0,List.replicate (ls.map (·.2)).length 0,List.replicate (ws.map (·.2)).length 0⟩:=by
   rw [eq,zd,zA,zA]
   exact (List.map_const' ..).symm
  have rz:∀ z∈zs,z.r=⟨0,0,List.replicate ls.length 0,List.replicate ws.length 0⟩:=λz hz=>by
   have:z.r∈zs.map (·.r):=zS.mpr ⟨z,hz,rfl⟩
   rw [eq] at this;exact (zy.mp this).2
  have v3:worthF rooms (ps.map (·.2)) (ls.map (·.2)) (ws.map (·.2)) (zs.map (·.r)) (([]:List (Addr×T3)).map (·.2))=some 0:=by
   rw [ez]
   exact still_worth (λr hr=>by have:=gd.each r hr;exact ⟨this.1,this.2.1,this.2.2.1,this.2.2.2.2.2.1⟩) rm0 (λx hx=>by obtain ⟨a,ha,rfl⟩:=zS.mp hx;have:=(lb a ha).2.2;omega) (λx hx=>by obtain ⟨a,ha,rfl⟩:=zS.mp hx;have:=(wb a ha).2.2;omega)
  refine ⟨b,ll,lw,p4,rooms,tr,tm,ps,ls,ws,sl,e1,zs,[],rfl,hb17.same s1721,gd,by omega,hl17.same s1721,hw17.same s1721,⟨kp4,s21 _ _ (s20 _ _ ksl),s21 _ _ ke1,λz hz=>(kz z hz).same (s18.trans (s20.trans s21)),nofun⟩,⟨lz,l60,by omega,by omega,by show 0<=_;omega,λz hz=>by
   rw [rz z hz]
   exact ⟨zw _,zw _,zX ..,zX ..,λx hx=>by rw [(zy.mp hx).2];exact zw _,λx hx=>by rw [(zy.mp hx).2];exact zw _⟩,nofun⟩,yu,λH22 s22=>?_⟩
  rw [v3]
  exact (zr rfl ⟨_, "int", rfl,rfl,zr rfl (iteB1 rfl (zr rfl ⟨rfl,q _⟩))⟩)
end
theorem all_mk {l:PySem.W.OpenLaw}{w:World}{K:PySem.W.Frag}{h:Heap}{mg:Str->Option Value}{fa CT Dg DM CS Dh B8 Dm Df CP DJ De DK CO Cg BE B5 Cp BT BD Dd Cq B6 E9 BU CN Di CQ Dk DL B7 Dj Dl GO:Addr} (X:K.In h) (G:h.Ns mainGlobals mg) (hfa:mg "law" = some (.ref fa))
  {BB BM BY BA BN AH BS BL By BV BK BW Bx AR An AE Bg Av Am BJ Bh AF Cz AC Bw BO Bz BQ BX AG BP BR Fv:FuncData}
  (AN:zM K mainGlobals "_law_purse" = some (some (.ref CT))) (Bf:Fun K "_law_purse" "_law_purse" CF CT BB)
  (AV:zM K mainGlobals "_law_take" = some (some (.ref Dg))) (Bp:Fun K "_law_take" "_law_take" C6 Dg BM)
  (Bl:zM K mainGlobals "_law_far" = some (some (.ref DM))) (BI:Fun K "_law_far" "_law_far" DH DM BY)
  (AM:zM K mainGlobals "_law_rooms" = some (some (.ref CS))) (Be:Fun K "_law_rooms" "_law_rooms" CD CS BA)
  (AW:zM K mainGlobals "_law_step" = some (some (.ref Dh))) (Bq:Fun K "_law_step" "_law_step" C7 Dh BN)
  (Ar:zM K mainGlobals "_law_meetings" = some (some (.ref B8))) (Az:Fun K "_law_meetings" "_law_meetings" wT B8 AH)
  (A9:zM K mainGlobals "_law_book" = some (some (.ref Dm))) (Bv:Fun K "_law_book" "_law_book" C9 Dm BS)
  (AU:zM K mainGlobals "_law_time" = some (some (.ref Df))) (Bo:Fun K "_law_time" "_law_time" C5 Df BL)
  (AK:zM K mainGlobals "_law_whole" = some (some (.ref CP))) (Bc:Fun K "_law_whole" "_law_whole" CC CP By)
  (Bi:zM K mainGlobals "is_whole" = some (some (.ref DJ))) (BF:Fun K "is_whole" "is_whole" DE DJ BV)
  (AT:zM K mainGlobals "is_within" = some (some (.ref De))) (Bn:Fun K "is_within" "is_within" C4 De BK)
  (Bj:zM K mainGlobals "is_count" = some (some (.ref DK))) (BG:Fun K "is_count" "is_count" DF DK BW)
  (AJ:zM K mainGlobals "are_counts" = some (some (.ref CO))) (Bb:Fun K "are_counts" "are_counts" B9 CO Bx)
  (Au:zM K mainGlobals "has_row_form" = some (some (.ref Cg))) (AD:Fun K "has_row_form" "has_row_form" Cf Cg AR)
  (Ag:zM K mainGlobals "has_straight_form" = some (some (.ref BE))) (Ai:Fun K "has_straight_form" "has_straight_form" wQ BE An)
  (Ao:zM K mainGlobals "has_plan_form" = some (some (.ref B5))) (Aw:Fun K "has_plan_form" "has_plan_form" wI B5 AE)
  (AA:zM K mainGlobals "is_straight" = some (some (.ref Cp))) (AO:Fun K "is_straight" "is_straight" Cm Cp Bg)
  (Aj:zM K mainGlobals "may_be_straight" = some (some (.ref BT))) (Al:Fun K "may_be_straight" "may_be_straight" xw BT Av)
  (Af:zM K mainGlobals "is_within_meeting" = some (some (.ref BD))) (Ah:Fun K "is_within_meeting" "is_within_meeting" wR BD Am)
  (AS:zM K mainGlobals "of_walker" = some (some (.ref Dd))) (Bm:Fun K "of_walker" "of_walker" Cj Dd BJ)
  (AB:zM K mainGlobals "bags_behind" = some (some (.ref Cq))) (AQ:Fun K "bags_behind" "bags_behind" Cn Cq Bh)
  (Ap:zM K mainGlobals "are_rows_kept" = some (some (.ref B6))) (Ax:Fun K "are_rows_kept" "are_rows_kept" wJ B6 AF)
  (B3:zM K mainGlobals "totals" = some (some (.ref E9))) (Ch:Fun K "totals" "totals" DY E9 Cz)
  (Ak:zM K mainGlobals "are_upto_manys" = some (some (.ref BU))) (As:Fun K "are_upto_manys" "are_upto_manys" wN BU AC)
  (AI:zM K mainGlobals "plan_worth" = some (some (.ref CN))) (Ba:Fun K "plan_worth" "plan_worth" wG CN Bw)
  (AX:zM K mainGlobals "_law_sack" = some (some (.ref Di))) (Br:Fun K "_law_sack" "_law_sack" Ck Di BO)
  (AL:zM K mainGlobals "_law_sacks" = some (some (.ref CQ))) (Bd:Fun K "_law_sacks" "_law_sacks" Ca CQ Bz)
  (AZ:zM K mainGlobals "_law_goes" = some (some (.ref Dk))) (Bt:Fun K "_law_goes" "_law_goes" C8 Dk BQ)
  (Bk:zM K mainGlobals "_law_row" = some (some (.ref DL))) (BH:Fun K "_law_row" "_law_row" DG DL BX)
  (Aq:zM K mainGlobals "_law_straight" = some (some (.ref B7))) (Ay:Fun K "_law_straight" "_law_straight" B4 B7 AG)
  (AY:zM K mainGlobals "_law_plan" = some (some (.ref Dj))) (Bs:Fun K "_law_plan" "_law_plan" B2 Dj BP)
  (A8:zM K mainGlobals "_law_copy" = some (some (.ref Dl))) (Bu:Fun K "_law_copy" "_law_copy" Cl Dl BR)
  (Ee:zM K mainGlobals "law" = some (some (.ref GO))) (EG:Fun K "law" "law" Fu GO Fv)
  (z_all:zM K mainGlobals "all" = some none)
  (z_bool:zM K mainGlobals "bool" = some none)
  (z_int:zM K mainGlobals "int" = some none)
  (z_isinstance:zM K mainGlobals "isinstance" = some none)
  (z_len:zM K mainGlobals "len" = some none)
  (z_list:zM K mainGlobals "list" = some none)
  (z_max:zM K mainGlobals "max" = some none)
  (z_min:zM K mainGlobals "min" = some none)
  (z_range:zM K mainGlobals "range" = some none)
  (z_set:zM K mainGlobals "set" = some none)
  (z_sorted:zM K mainGlobals "sorted" = some none)
  (z_sum:zM K mainGlobals "sum" = some none)
  (z_tuple:zM K mainGlobals "tuple" = some none)
  (z_zip:zM K mainGlobals "zip" = some none) :
  ∃ fd:FuncData,(∀ (s:Shared) (v:Value),BindsTo s fd ⟨[v],[]⟩ [("_law_script", v)])/\∀ base:Heap,K.In base->base.Ns mainGlobals mg->FnOk l.prog w K mg base CX0 7 fa fd ["_law_script"] (spLaw K):=by
 have e:=hfa.symm.trans (zQ X G Ee)
 cases e
 have FN:=Bf.binds (ps:=["_law_script", "_law_k"]) λ_ _ _ _ _ _ us hl=>us2 hl λ_ _=>rfl
 have Gi:=Bp.binds (ps:=["_law_purse_here", "_law_many"]) λ_ _ _ _ _ _ us hl=>us2 hl λ_ _=>rfl
 have GI:=BI.binds (ps:=["_law_purse_here"]) λ_ _ _ _ _ _ us hl=>us1 hl λ_=>rfl
 have FM:=Be.binds (ps:=["_law_purse_here", "_law_walkers"]) λ_ _ _ _ _ _ us hl=>us2 hl λ_ _=>rfl
 have Gj:=Bq.binds (ps:=["_law_purse_here"]) λ_ _ _ _ _ _ us hl=>us1 hl λ_=>rfl
 have EV:=Az.binds (ps:=["_law_purse_here", "_law_walkers", "_law_most"]) λ_ _ _ _ _ _ us hl=>us3 hl λ_ _ _=>rfl
 have Gq:=Bv.binds (ps:=["_law_purse_here", "_law_most_walkers", "_law_most_meetings"]) λ_ _ _ _ _ _ us hl=>us3 hl λ_ _ _=>rfl
 have Gh:=Bo.binds (ps:=["_law_purse_here", "_law_book_here", "_law_later"]) λ_ _ _ _ _ _ us hl=>us3 hl λ_ _ _=>rfl
 have FK:=Bc.binds (ps:=["_law_thing"]) λ_ _ _ _ _ _ us hl=>us1 hl λ_=>rfl
 have GF:=BF.binds (ps:=["thing"]) λ_ _ _ _ _ _ us hl=>us1 hl λ_=>rfl
 have Gg:=Bn.binds (ps:=["thing", "least", "most"]) λ_ _ _ _ _ _ us hl=>us3 hl λ_ _ _=>rfl
 have GG:=BG.binds (ps:=["thing"]) λ_ _ _ _ _ _ us hl=>us1 hl λ_=>rfl
 have FJ:=Bb.binds (ps:=["thing", "size"]) λ_ _ _ _ _ _ us hl=>us2 hl λ_ _=>rfl
 have Fa:=AD.binds (ps:=["loads", "wants", "thing"]) λ_ _ _ _ _ _ us hl=>us3 hl λ_ _ _=>rfl
 have Dv:=Ai.binds (ps:=["loads", "wants", "thing"]) λ_ _ _ _ _ _ us hl=>us3 hl λ_ _ _=>rfl
 have ES:=Aw.binds (ps:=["book", "loads", "wants", "thing"]) λ_ _ _ _ _ _ us hl=>us4 hl λ_ _ _ _=>rfl
 have Fo:=AO.binds (ps:=["load", "want"]) λ_ _ _ _ _ _ us hl=>us2 hl λ_ _=>rfl
 have Ed:=Al.binds (ps:=["loads", "wants", "straight"]) λ_ _ _ _ _ _ us hl=>us3 hl λ_ _ _=>rfl
 have Du:=Ah.binds (ps:=["meeting", "loads", "wants", "row"]) λ_ _ _ _ _ _ us hl=>us4 hl λ_ _ _ _=>rfl
 have Gf:=Bm.binds (ps:=["parts", "numbers", "walker"]) λ_ _ _ _ _ _ us hl=>us3 hl λ_ _ _=>rfl
 have Fp:=AQ.binds (ps:=["bags", "meeting", "loads", "wants", "row"]) λ_ _ _ _ _ _ us hl=>us5 hl λ_ _ _ _ _=>rfl
 have ET:=Ax.binds (ps:=["book", "loads", "wants", "rows"]) λ_ _ _ _ _ _ us hl=>us4 hl λ_ _ _ _=>rfl
 have GN:=Ch.binds (ps:=["size", "rows", "straight"]) λ_ _ _ _ _ _ us hl=>us3 hl λ_ _ _=>rfl
 have En:=As.binds (ps:=["sums", "parts"]) λ_ _ _ _ _ _ us hl=>us2 hl λ_ _=>rfl
 have FI:=Ba.binds (ps:=["book", "loads", "wants", "thing"]) λ_ _ _ _ _ _ us hl=>us4 hl λ_ _ _ _=>rfl
 have Gk:=Br.binds (ps:=["_law_purse_here", "_law_book_here", "_law_walkers", "_law_later"]) λ_ _ _ _ _ _ us hl=>us4 hl λ_ _ _ _=>rfl
 have FL:=Bd.binds (ps:=["_law_script", "_law_book_here", "_law_head", "_law_first", "_law_later"]) λ_ _ _ _ _ _ us hl=>us5 hl λ_ _ _ _ _=>rfl
 have Gn:=Bt.binds (ps:=["_law_sacks_here", "_law_rests", "_law_walker", "_law_when", "_law_later"]) λ_ _ _ _ _ _ us hl=>us5 hl λ_ _ _ _ _=>rfl
 have GH:=BH.binds (ps:=["_law_purse_here", "_law_rooms_here", "_law_meeting", "_law_loads", "_law_wants", "_law_state"]) λ_ _ _ _ _ _ us hl=>us6 hl λ_ _ _ _ _ _=>rfl
 have EU:=Ay.binds (ps:=["_law_purse_here", "_law_loads", "_law_wants", "_law_state"]) λ_ _ _ _ _ _ us hl=>us4 hl λ_ _ _ _=>rfl
 have Gm:=Bs.binds (ps:=["_law_script", "_law_head", "_law_book_here", "_law_loads", "_law_wants", "_law_first"]) λ_ _ _ _ _ _ us hl=>us6 hl λ_ _ _ _ _ _=>rfl
 have Gp:=Bu.binds (ps:=["_law_plan_here"]) λ_ _ _ _ _ _ us hl=>us1 hl λ_=>rfl
 have GQ:=EG.binds (ps:=["_law_script"]) λ_ _ _ _ _ _ us hl=>us1 hl λ_=>rfl
 have T:Tx K mg ⟨CT,BB,Dg,BM,DM,BY,CS,BA,Dh,BN,B8,AH,Dm,BS,Df,BL,CP,By,DJ,BV,De,BK,DK,BW,CO,Bx,Cg,AR,BE,An,B5,AE,Cp,Bg,BT,Av,BD,Am,Dd,BJ,Cq,Bh,B6,AF,E9,Cz,BU,AC,CN,Bw,Di,BO,CQ,Bz,Dk,BQ,DL,BX,B7,AG,Dj,BP,Dl,BR,fa,Fv⟩:=⟨Bf,FN,zQ X G AN,Bf.kp,Bp,Gi,zQ X G AV,Bp.kp,BI,GI,zQ X G Bl,BI.kp,Be,FM,zQ X G AM,Be.kp,Bq,Gj,zQ X G AW,Bq.kp,Az,EV,zQ X G Ar,Az.kp,Bv,Gq,zQ X G A9,Bv.kp,Bo,Gh,zQ X G AU,Bo.kp,Bc,FK,zQ X G AK,Bc.kp,BF,GF,zQ X G Bi,BF.kp,Bn,Gg,zQ X G AT,Bn.kp,BG,GG,zQ X G Bj,BG.kp,Bb,FJ,zQ X G AJ,Bb.kp,AD,Fa,zQ X G Au,AD.kp,Ai,Dv,zQ X G Ag,Ai.kp,Aw,ES,zQ X G Ao,Aw.kp,AO,Fo,zQ X G AA,AO.kp,Al,Ed,zQ X G Aj,Al.kp,Ah,Du,zQ X G Af,Ah.kp,Bm,Gf,zQ X G AS,Bm.kp,AQ,Fp,zQ X G AB,AQ.kp,Ax,ET,zQ X G Ap,Ax.kp,Ch,GN,zQ X G B3,Ch.kp,As,En,zQ X G Ak,As.kp,Ba,FI,zQ X G AI,Ba.kp,Br,Gk,zQ X G AX,Br.kp,Bd,FL,zQ X G AL,Bd.kp,Bt,Gn,zQ X G AZ,Bt.kp,BH,GH,zQ X G Bk,BH.kp,Ay,EU,zQ X G Aq,Ay.kp,Bs,Gm,zQ X G AY,Bs.kp,Bu,Gp,zQ X G A8,Bu.kp,EG,GQ,zQ X G Ee,EG.kp,zk X G z_all,zk X G z_bool,zk X G z_int,zk X G z_isinstance,zk X G z_len,zk X G z_list,zk X G z_max,zk X G z_min,zk X G z_range,zk X G z_set,zk X G z_sorted,zk X G z_sum,zk X G z_tuple,zk X G z_zip⟩
 obtain ⟨_,_,_,_,_,_,_,_,_,rfl,_,_⟩:=EG.ex
 exact ⟨_,λs v=>.of_eq rfl,λbase _ _=>GP T⟩
theorem walk {l:PySem.W.OpenLaw}{q:Program}{loose:List Str}{XP:(Str->Option Value)->Heap->Prop}{YP:World->Heap->Prop}{d:DefRec}{K:Params->PySem.W.Frag} (hn:l.most=some 63) (hdf:d.params.defaults=[])
  (hY:∀ (w:World) (h:Heap),YP w h->(K w.params).In h)
  (F:∀ (w:World) (mg:Str->Option Value) (fa:Addr) (h:Heap),(K w.params).In h->h.Ns mainGlobals mg->mg d.name=some (.ref fa) ->
   ∃ fd:FuncData,(∀ (s:Shared) (u:Value),BindsTo s fd ⟨[u],[]⟩ [("_law_script", u)])/\∀ base:Heap,(K w.params).In base->base.Ns mainGlobals mg->FnOk l.prog w (K w.params) mg base CX0 7 fa fd ["_law_script"] (spLaw (K w.params))) :
  PySem.W.WalkO q loose XP YP l.row.toRowW d [] (λf vs=>PySem.call f vs):=
 L2.walk_of (n:=63) (k:=7) (x := "_law_script") (CX:=λ_=>CX0) (sp:=λw=>spLaw (K w.params)) hn (by decide) hdf ⟨rfl,by decide,by decide,rfl⟩ hY F (λ_ _ a ns hl _ hS=>⟨a,ns,rfl,hS,hl,λ_=>rfl⟩) λ_ _ _ _ _ z=>z
end Sm
namespace PySem.W.Fast
def tw11798752388737561417:Nat:=0
def tw5707262371110523236:Nat:=0
def tw17621436365557496390:Nat:=0
def tw12884884140588263397:Nat:=0
def tw6285089419451994383:Nat:=0
def tw807026714323597205:Nat:=0
def tw14518618016395935113:Nat:=0
def tw3320967319806436215:Nat:=0
def tw7060542743797797472:Nat:=0
def tw11601685857786972366:Nat:=0
def tw7885089639977559406:Nat:=0
def tw7309730168227528798:Nat:=0
def tw4424715936459183552:Nat:=0
def tw10297722868904812820:Nat:=0
def tw6457681995964457982:Nat:=0
def tw9677595686732575997:Nat:=0
def tw6867231321689481651:Nat:=0
def tw5759636365228918561:Nat:=0
def tw13830580059671891020:Nat:=0
def tw16625802155979421976:Nat:=0
def tw6531454523195264678:Nat:=0
def tw3525497975463662091:Nat:=0
def tw4432307047001238189:Nat:=0
def tw6043383020818803866:Nat:=0
def tw5853012389573522887:Nat:=0
def tw10174853819480902453:Nat:=0
def tw8568644291350608044:Nat:=0
def tw8800844698074096547:Nat:=0
def tw11871077589173333782:Nat:=0
def tw6802619905683583793:Nat:=0
def tw9654642070200416522:Nat:=0
def tw10192611523527011531:Nat:=0
def tw14149843851708894567:Nat:=0
def tw2675862724176173945:Nat:=0
def tw17916931177336177843:Nat:=0
def tw14406761835077751615:Nat:=0
def tw17325009450497942698:Nat:=0
def tw7085851864338990230:Nat:=0
def tw6635813745920669472:Nat:=0
def tw11568014894607339098:Nat:=0
def tw15846537859544823426:Nat:=0
def tw17601891588492305093:Nat:=0
def tw12466467482365359893:Nat:=0
def tw10942002664489413597:Nat:=0
def tw16828965284685918720:Nat:=0
def tw7291679547128116855:Nat:=0
def tw5767001804703000085:Nat:=0
def tw14031710552174414798:Nat:=0
def tw4203572999425844992:Nat:=0
def tw15859034902784307537:Nat:=0
def tw6839338927395940142:Nat:=0
def tw6960358783786177536:Nat:=0
def tw13132312105415978059:Nat:=0
def tw17182029985849590798:Nat:=0
def tw14248838183691663455:Nat:=0
def tw4927522657930988976:Nat:=0
def tw8551196964892660722:Nat:=0
def tw9999759291716281456:Nat:=0
def tw9345315651010329292:Nat:=0
def tw17107314061130427927:Nat:=0
def tw16001037654649704148:Nat:=0
def tw7962954438432355805:Nat:=0
def tw15400314021322339694:Nat:=0
def tw15536312048019700973:Nat:=0
def tw7515886656861153439:Nat:=0
def tw6462779309100173292:Nat:=0
def tw4965780160089698204:Nat:=0
def tw7256423881637141738:Nat:=0
def tw16812525337449203921:Nat:=0
def tw6604522704735296661:Nat:=0
def tw7284754487085617946:Nat:=0
def tw14637269785872030889:Nat:=0
def tw5487753071642220560:Nat:=0
def tw2975182127912303419:Nat:=0
def tw3682803901081615793:Nat:=0
def tw1309327067540846021:Nat:=0
def tw15196974199692645172:Nat:=0
def tw12533097572149328519:Nat:=0
def tw9305009026503700054:Nat:=0
def tw1285205727448194733:Nat:=0
def tw16557172653163148018:Nat:=0
def tw1519025605108998258:Nat:=0
def tw8649319983380586842:Nat:=0
def tw13000922227763790831:Nat:=0
def tw16100638637079978164:Nat:=0
def tw169659423029355009:Nat:=0
def tw6173138315293952392:Nat:=0
def tw3348497282733983703:Nat:=0
def tw17894639878278511559:Nat:=0
def tw15527675997571021279:Nat:=0
def tw15337439673579876482:Nat:=0
def tw7524781110289389117:Nat:=0
def tw1986043719642153838:Nat:=0
def tw10419409669215543932:Nat:=0
def tw5299689239906790064:Nat:=0
def tw789886161569930539:Nat:=0
def tw4778590411511043428:Nat:=0
def tw15105557220565258826:Nat:=0
def tw16681246425802792979:Nat:=0
end PySem.W.Fast
open PySem PySem.W PyProof.Rows
set_option maxRecDepth 100000 in
set_option maxHeartbeats 0 in
theorem PySem.Challenge.cw_satchelmeet_k36_plans_that_go_holds : PySem.Challenge.rw_satchelmeet_k36_plans_that_go.Holds := by
 w_on;o_law;k_head;(case hw=>w_witness2)
 k_fill
 refine Sm.walk (l:=PySem.Challenge.rw_satchelmeet_k36_plans_that_go) rfl rfl (λw h Y=>PySem.W.kIn_of Y) ?F
 case F=>
  intro w mg fa h KX G hmg
  refine' Sm.all_mk KX G hmg ?AN ?Bf ?AV ?Bp ?Bl ?BI ?AM ?Be ?AW ?Bq ?Ar ?Az ?A9 ?Bv ?AU ?Bo ?AK ?Bc ?Bi ?BF ?AT ?Bn ?Bj ?BG ?AJ ?Bb ?Au ?AD ?Ag ?Ai ?Ao ?Aw ?AA ?AO ?Aj ?Al ?Af ?Ah ?AS ?Bm ?AB ?AQ ?Ap ?Ax ?B3 ?Ch ?Ak ?As ?AI ?Ba ?AX ?Br ?AL ?Bd ?AZ ?Bt ?Bk ?BH ?Aq ?Ay ?AY ?Bs ?A8 ?Bu ?Ee ?EG ?z_all ?z_bool ?z_int ?z_isinstance ?z_len ?z_list ?z_max ?z_min ?z_range ?z_set ?z_sorted ?z_sum ?z_tuple ?z_zip
  (case AN=>k_is)
  (case Bf=>refine' L2.fun_mk ?x1 ?y1 ?z1;(case x1=>k_is);(case y1=>k_is);(case z1=>k_is))
  (case AV=>k_is)
  (case Bp=>refine' L2.fun_mk ?x3 ?y3 ?z3;(case x3=>k_is);(case y3=>k_is);(case z3=>k_is))
  (case Bl=>k_is)
  (case BI=>refine' L2.fun_mk ?x5 ?y5 ?z5;(case x5=>k_is);(case y5=>k_is);(case z5=>k_is))
  (case AM=>k_is)
  (case Be=>refine' L2.fun_mk ?x7 ?y7 ?z7;(case x7=>k_is);(case y7=>k_is);(case z7=>k_is))
  (case AW=>k_is)
  (case Bq=>refine' L2.fun_mk ?x9 ?y9 ?z9;(case x9=>k_is);(case y9=>k_is);(case z9=>k_is))
  (case Ar=>k_is)
  (case Az=>refine' L2.fun_mk ?x11 ?y11 ?z11;(case x11=>k_is);(case y11=>k_is);(case z11=>k_is))
  (case A9=>k_is)
  (case Bv=>refine' L2.fun_mk ?x13 ?y13 ?z13;(case x13=>k_is);(case y13=>k_is);(case z13=>k_is))
  (case AU=>k_is)
  (case Bo=>refine' L2.fun_mk ?x15 ?y15 ?z15;(case x15=>k_is);(case y15=>k_is);(case z15=>k_is))
  (case AK=>k_is)
  (case Bc=>refine' L2.fun_mk ?x17 ?y17 ?z17;(case x17=>k_is);(case y17=>k_is);(case z17=>k_is))
  (case Bi=>k_is)
  (case BF=>refine' L2.fun_mk ?x19 ?y19 ?z19;(case x19=>k_is);(case y19=>k_is);(case z19=>k_is))
  (case AT=>k_is)
  (case Bn=>refine' L2.fun_mk ?x21 ?y21 ?z21;(case x21=>k_is);(case y21=>k_is);(case z21=>k_is))
  (case Bj=>k_is)
  (case BG=>refine' L2.fun_mk ?x23 ?y23 ?z23;(case x23=>k_is);(case y23=>k_is);(case z23=>k_is))
  (case AJ=>k_is)
  (case Bb=>refine' L2.fun_mk ?x25 ?y25 ?z25;(case x25=>k_is);(case y25=>k_is);(case z25=>k_is))
  (case Au=>k_is)
  (case AD=>refine' L2.fun_mk ?x27 ?y27 ?z27;(case x27=>k_is);(case y27=>k_is);(case z27=>k_is))
  (case Ag=>k_is)
  (case Ai=>refine' L2.fun_mk ?x29 ?y29 ?z29;(case x29=>k_is);(case y29=>k_is);(case z29=>k_is))
  (case Ao=>k_is)
  (case Aw=>refine' L2.fun_mk ?x31 ?y31 ?z31;(case x31=>k_is);(case y31=>k_is);(case z31=>k_is))
  (case AA=>k_is)
  (case AO=>refine' L2.fun_mk ?x33 ?y33 ?z33;(case x33=>k_is);(case y33=>k_is);(case z33=>k_is))
  (case Aj=>k_is)
  (case Al=>refine' L2.fun_mk ?x35 ?y35 ?z35;(case x35=>k_is);(case y35=>k_is);(case z35=>k_is))
  (case Af=>k_is)
  (case Ah=>refine' L2.fun_mk ?x37 ?y37 ?z37;(case x37=>k_is);(case y37=>k_is);(case z37=>k_is))
  (case AS=>k_is)
  (case Bm=>refine' L2.fun_mk ?x39 ?y39 ?z39;(case x39=>k_is);(case y39=>k_is);(case z39=>k_is))
  (case AB=>k_is)
  (case AQ=>refine' L2.fun_mk ?x41 ?y41 ?z41;(case x41=>k_is);(case y41=>k_is);(case z41=>k_is))
  (case Ap=>k_is)
  (case Ax=>refine' L2.fun_mk ?x43 ?y43 ?z43;(case x43=>k_is);(case y43=>k_is);(case z43=>k_is))
  (case B3=>k_is)
  (case Ch=>refine' L2.fun_mk ?x45 ?y45 ?z45;(case x45=>k_is);(case y45=>k_is);(case z45=>k_is))
  (case Ak=>k_is)
  (case As=>refine' L2.fun_mk ?x47 ?y47 ?z47;(case x47=>k_is);(case y47=>k_is);(case z47=>k_is))
  (case AI=>k_is)
  (case Ba=>refine' L2.fun_mk ?x49 ?y49 ?z49;(case x49=>k_is);(case y49=>k_is);(case z49=>k_is))
  (case AX=>k_is)
  (case Br=>refine' L2.fun_mk ?x51 ?y51 ?z51;(case x51=>k_is);(case y51=>k_is);(case z51=>k_is))
  (case AL=>k_is)
  (case Bd=>refine' L2.fun_mk ?x53 ?y53 ?z53;(case x53=>k_is);(case y53=>k_is);(case z53=>k_is))
  (case AZ=>k_is)
  (case Bt=>refine' L2.fun_mk ?x55 ?y55 ?z55;(case x55=>k_is);(case y55=>k_is);(case z55=>k_is))
  (case Bk=>k_is)
  (case BH=>refine' L2.fun_mk ?x57 ?y57 ?z57;(case x57=>k_is);(case y57=>k_is);(case z57=>k_is))
  (case Aq=>k_is)
  (case Ay=>refine' L2.fun_mk ?x59 ?y59 ?z59;(case x59=>k_is);(case y59=>k_is);(case z59=>k_is))
  (case AY=>k_is)
  (case Bs=>refine' L2.fun_mk ?x61 ?y61 ?z61;(case x61=>k_is);(case y61=>k_is);(case z61=>k_is))
  (case A8=>k_is)
  (case Bu=>refine' L2.fun_mk ?x63 ?y63 ?z63;(case x63=>k_is);(case y63=>k_is);(case z63=>k_is))
  (case Ee=>k_is)
  (case EG=>refine' L2.fun_mk ?x65 ?y65 ?z65;(case x65=>k_is);(case y65=>k_is);(case z65=>k_is))
  (case z_all=>k_is)
  (case z_bool=>k_is)
  (case z_int=>k_is)
  (case z_isinstance=>k_is)
  (case z_len=>k_is)
  (case z_list=>k_is)
  (case z_max=>k_is)
  (case z_min=>k_is)
  (case z_range=>k_is)
  (case z_set=>k_is)
  (case z_sorted=>k_is)
  (case z_sum=>k_is)
  (case z_tuple=>k_is)
  (case z_zip=>k_is)

