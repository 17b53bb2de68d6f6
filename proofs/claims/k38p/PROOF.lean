import PyProof.Rows.All
import Wide.All
import OpenK.AllK
import Wide.FinOn
import Lean
import PyProof.EqAt
import PyProof.EqKinds
import PyProof.TupleCall
import KE.KDictOf
import PyProof.AttrMissHeap
import PyProof.StrWalks
import PyProof.StrBlockI
import PyProof.FString5
import PyProof.SetRoads
import PyProof.SetNew
import PyProof.TupleKey
import PyProof.InstEq
import PySem.SetOps
import PyProof.Rows.SetFrom
import KE.KTryMore
import PyProof.NsDelKeeps
import KE.KIsAll
import KE.KItemsList
import KE.KSortTup
import KE.KDictSum
import KE.KLam
import KE.KNestM
import KE.KSortTup
import PySem.Challenge.RW_satchelmeet_k38_whole_cuts_looked_at
open List renaming length_map → zA,mem_of_getElem? → zB,map_append → zC,mem_append_right → zD,mem_cons → zE,getElem?_eq_getElem → zG,getElem?_eq_some_iff → zH,not_mem_nil → zI,getElem?_map → zJ,length_append → zK,mem_singleton → zM,size_toArray → zP,getD_eq_getElem?_getD → zS,length_take → zT,take_length → zU,mem_append → zX,filter_append → zZ,mem_cons_of_mem → zc,all_eq_true → zg,length_filter_le → zi,getElem?_of_mem → zn,mem_cons_self → zo,mem_map → zp,mem_append_left → zq,map_cons → zt,mem_range → zx,append_nil → zz,getElem?_append_right → z4,getElem?_zip_eq_some → yA,lookup_cons → yB,length_cons → yC,length_zip → yG,length_drop → yH,getElem_mem → yI,getElem?_append_left → yJ,getElem?_drop → yN,mem_of_mem_drop → yO,filter_cons_of_neg → yP,filter_cons_of_pos → yQ,all_cons → yR,getElem?_set_ne → yW,getElem?_set_self → yY,map_nil → yZ,mem_filterMap → ya,length_singleton → yd,mem_of_mem_take → ye,length_nil → yi,sum_append → yj,map_map → yl,drop_length → yn,length_set → yo,all_map → yr
open Nat renaming le_refl → zF,ne_of_lt → zW,lt_of_lt_of_le → zY,zero_le → za,le_trans → zk,not_lt_zero → z0,lt_irrefl → yL,ne_of_gt → yS,lt_succ_iff → yT,min_self → yf,lt_succ_of_lt → yk,le_add_right → ym,le_succ → yp
open PySem.W renaming nsIn → zL,keepIn → zN,mg_of → zR,mg_none_of → ze,kia_one → yF,fnOf → yq
open Bool renaming false_ne_true → zO,true_and → zQ,and_eq_true → zd,false_eq_true → zj,false_and → yE,and_false → yM,not_false → yX,not_true → yg
open PyProof.Rows renaming boot_isinstance → zV,boot_list → zb,callWith_type1 → zy,boot_tuple → yD,boot_all → yU,boot_sum → yV
open Int renaming eq_ofNat_of_zero_le → zh,zero_add → zu,emod_lt_of_pos → yb,natCast_nonneg → yc,emod_nonneg → yh
open PySem renaming mem_of_lookup → yK
set_option Elab.async false
set_option linter.all false
set_option maxRecDepth 100000
set_option maxHeartbeats 4000000
namespace L2
open PySem PySem.Spec PyProof.Rows
abbrev Key:=Sum Int Str
def keyIs:Key->Value->Bool
 | .inl k,v=>Value.isInt k v
 | .inr x,v=>Value.isStrOf x v
def keyH (w:World):Key->Int
 | .inl k=>hashInt k
 | .inr x=>hashStr w x
theorem wA:∀ {k:Key}{v:Value},keyIs k v=true->(∃ i t,k=Sum.inl i/\v=Value.int i t)\/(∃ x t,k=Sum.inr x/\v=Value.str x t)
 | .inl i,v,h=>by
  obtain ⟨t,e⟩:=Value.isInt_shape (k:=i) (v:=v) h
  exact .inl ⟨i,t,rfl,e⟩
 | .inr x,v,h=>by
  obtain ⟨t,e⟩:=Value.isStrOf_shape (x:=x) (v:=v) h
  exact .inr ⟨x,t,rfl,e⟩
theorem key_ll (a b:Int):decide ((Sum.inl a:Key)=Sum.inl b)=(a == b):=by
 by_cases e:a=b
 ·subst e;simp
 ·have h:¬ (Sum.inl a:Key)=Sum.inl b:=λq=>e (Sum.inl.inj q)
  rw [decide_eq_false h]
  exact (beq_eq_false_iff_ne.mpr e).symm
theorem key_rr (a b:Str):decide ((Sum.inr a:Key)=Sum.inr b)=decide (a=b):=by
 by_cases e:a=b
 ·subst e;simp
 ·have h:¬ (Sum.inr a:Key)=Sum.inr b:=λq=>e (Sum.inr.inj q)
  rw [decide_eq_false h,decide_eq_false e]
theorem key_lr (a:Int) (b:Str):decide ((Sum.inl a:Key)=Sum.inr b)=false:=decide_eq_false (λq=>nomatch q)
theorem key_rl (a:Str) (b:Int):decide ((Sum.inr a:Key)=Sum.inl b)=false:=decide_eq_false (λq=>nomatch q)
def mixKind (prog:Program) (w:World):PySem.KeyKind prog w Key where
 is:=keyIs
 hash:=keyH w
 inj:=λv a b ha hb=>by
  rcases wA ha with ⟨i,t,rfl,rfl⟩ | ⟨x,t,rfl,rfl⟩
  ·rcases wA hb with ⟨j,u,rfl,e⟩ | ⟨y,u,rfl,e⟩
   ·injection e with e1 _;rw [e1]
   ·exact nomatch e
  ·rcases wA hb with ⟨j,u,rfl,e⟩ | ⟨y,u,rfl,e⟩
   ·exact nomatch e
   ·injection e with e1 _;rw [e1]
 byValue:=λk v h=>by
  rcases wA h with ⟨i,t,rfl,rfl⟩ | ⟨x,t,rfl,rfl⟩ <;> rfl
 pyHash:=λhv h=>by
  rcases wA hv with ⟨i,t,rfl,rfl⟩ | ⟨x,t,rfl,rfl⟩
  ·exact wpAny_pyHash_int h
  ·exact wpAny_pyHash_str h
 eqBool:=λhu hv h=>by
  rcases wA hu with ⟨i,t,rfl,rfl⟩ | ⟨x,t,rfl,rfl⟩
  ·rcases wA hv with ⟨j,u,rfl,rfl⟩ | ⟨y,u,rfl,rfl⟩
   ·rw [key_ll] at h;exact wpAny_eqBool_int h
   ·rw [key_lr] at h;exact SeqAt.EqAt.int_str i t y u _ _ _ _ h
  ·rcases wA hv with ⟨j,u,rfl,rfl⟩ | ⟨y,u,rfl,rfl⟩
   ·rw [key_rl] at h;exact SeqAt.EqAt.str_int x t j u _ _ _ _ h
   ·rw [key_rr] at h;exact wpAny_eqBool_str h
 «strs»:=λk x t v h=>by
  rcases wA h with ⟨i,u,rfl,e⟩ | ⟨y,u,rfl,e⟩
  ·exact nomatch e
  ·injection e with e1 _
   subst e1
   cases v <;> rfl
end L2
namespace L2
open PySem PySem.Spec PyProof.Rows
inductive V where
 | non | bl (b:Bool) | int (i:Int) | str (x:Str) | byt (b:Array UInt8) | flt (b:UInt64) | ref (a:Addr) | ty (n:String)
 deriving DecidableEq
def RelV:V->Value->Prop
 | .non,u=>u=Value.none
 | .bl b,u=>u=Value.bool b
 | .int i,u=>∃ t,u=Value.int i t
 | .str x,u=>∃ t,u=Value.str x t
 | .byt b,u=>∃ t,u=Value.bytes b t
 | .flt b,u=>∃ t,u=Value.float b t
 | .ref a,u=>u=Value.ref a
 | .ty n,u=>u=Value.type n
abbrev Vals:List V->List Value->Prop:=Paired RelV
theorem Vals.length {xs:List V}{us:List Value} (r:Vals xs us):xs.length=us.length:=Paired.length r
theorem Vals.get:∀ {xs:List V}{us:List Value}{i:Nat}{x:V},Vals xs us->xs[i]?=some x->∃ u,us[i]?=some u/\RelV x u
 | _,_,_,_,.nil,e=>by simp at e
 | _,_,0,_,.cons r _,e=>by simp at e;subst e;exact ⟨_,rfl,r⟩
 | _,_,i + 1,x,.cons _ t,e=>by
  obtain ⟨u,h1,h2⟩:=Vals.get (i:=i) (x:=x) t (by simpa using e)
  exact ⟨u,by simpa using h1,h2⟩
theorem Vals.set {x:V}{u:Value} (r:RelV x u):∀ {xs:List V}{us:List Value} (i:Nat),Vals xs us->Vals (xs.set i x) (us.set i u)
 | _,_,_,.nil=>.nil
 | _,_,0,.cons _ t=>.cons r t
 | _,_,i + 1,.cons q t=>.cons q (Vals.set r i t)
theorem Vals.append:∀ {xs ys:List V}{us ws:List Value},Vals xs us->Vals ys ws->Vals (xs++ys) (us++ws)
 | _,_,_,_,.nil,s=>s
 | _,_,_,_,.cons r t,s=>.cons r (Vals.append t s)
theorem Vals.take:∀ {xs:List V}{us:List Value} (n:Nat),Vals xs us->Vals (xs.take n) (us.take n)
 | _,_,0,_=>.nil
 | _,_,_ + 1,.nil=>.nil
 | _,_,n + 1,.cons r t=>.cons r (Vals.take n t)
theorem Vals.drop:∀ {xs:List V}{us:List Value} (n:Nat),Vals xs us->Vals (xs.drop n) (us.drop n)
 | _,_,0,r=>r
 | _,_,_ + 1,.nil=>.nil
 | _,_,n + 1,.cons _ t=>Vals.drop n t
def RelO:Option V->Option Value->Prop
 | some v,some u=>RelV v u
 | none,none=>True
 | _,_=>False
def KV {κ:Type}:List (κ×V)->List (κ×Value)->Prop:=Paired λ(p:κ×V) (q:κ×Value)=>p.1=q.1/\RelV p.2 q.2
def kV:Key->V
 | .inl i=>.int i
 | .inr x=>.str x
inductive HO where
  | lst (xs:List V)
  | tup (xs:List V)
  | dK (kvs:List (Key×V)) | dT (kvs:List (List Key×V))
  | set (S:Int->Bool) (n:Nat)
  | ins (C dx:Addr) (fs:List (Str×V))
  | own (x:Addr)
  | xd (fs:List (Str×V))
  | met (f x:Addr)
  | rng (lo hi:Int)
  | frz (o:Obj) (u:HO)
  | tbl (ps:Array Value)
  | ext (φ:Heap->Prop)
abbrev Hp:=Addr->Option HO
def upd (H:Hp) (a:Addr) (o:HO):Hp:=λb=>if b=a then some o else H b
theorem yx {H:Hp}{a:Addr}{o:HO}:upd H a o a=some o:=by unfold upd;rw [if_pos rfl]
theorem xH {H:Hp}{a b:Addr}{o:HO} (h:b≠a):upd H a o b=H b:=by unfold upd;rw [if_neg h]
theorem ne_of {H:Hp}{a b:Addr}{o u:HO} (h:H a=some o) (h':H b=some u) (d:o≠u):a≠b:=by
 intro e;subst e;rw [h] at h';exact d (Option.some.inj h')
theorem yz {H:Hp}{a b:Addr}{o:HO} (h:H a=some o) (h':H b=none):a≠b:=by
 intro e;subst e;rw [h] at h';cases h'
theorem new_bare {h:Heap}{o:Obj} (hf:o.isFreed=false:=by rfl) (hd:o.dict=none:=by rfl):∀ ob,(h.push o).get? h.objs.size=some ob->ob.dict=none:=λob e=>by
 rw [Heap.get?_push_size h hf] at e;cases e;exact hd
section
variable (P:Program) (w:World)
def ObjOk (H:Hp) (h:Heap) (a:Addr):HO->Prop
 | .lst xs=>xs.length<=sizeLine/\∃ (its:List Value) (n:Nat),Vals xs its/\h.get? a=some { cls:=.type "list", data:=.seq its.toArray n }
 | .tup xs=>(xs.length<=sizeLine/\∀ ob,h.get? a=some ob->ob.dict=none)/\∃ its:List Value,Vals xs its/\IsTup h a its.toArray
 | .dK kvs=>kvs.length<=sizeLine/\(a == sysModules)=false/\∃ vs,KV kvs vs/\h.DictOf (mixKind P w) a vs
 | .dT kvs=>kvs.length<=sizeLine/\(a == sysModules)=false/\∃ xs:List (List Key×Addr×Value),
   Paired (λ(p:List Key×V) (q:List Key×Addr×Value)=>p.1=q.1/\H q.2.1=some (.tup (p.1.map kV))/\RelV p.2 q.2.2) kvs xs /\
   ∃ o es ep,h.get? a=some o/\o.ExactDict/\o.data=.dict es ep/\es.toList=xs.map (entryOfKey (tupleKind (mixKind P w)))/\(xs.map (·.1)).Nodup
 | .set S n=>h.SetOf (intKind P w) a S n
 | .ins C dx fs=>H dx=some (.own a)/\fs.length<=1000/\dx≠a/\h.get? a=some (PySem.W.instObj C dx) /\
   ∃ mA,h.Ns1 dx mA/\(∀ f,RelO (fs.lookup f) (mA f))/\PySem.Within mA (fs.map (·.1))
 | .own _=>∃ o,h.get? a=some o
 | .xd fs=>∃ mA,h.Ns1 a mA/\∀ f,RelO (fs.lookup f) (mA f)
 | .rng lo hi=>∃ t u v,h.get? a=some { cls:=.type "range", data:=.fields #[.int lo t,.int hi u,.int 1 v] }
 | .frz o u=>h.get? a=some o/\ObjOk H h a u
 | .tbl ps=>h.get? a=some { cls:=.none,data:=.fields ps }
 | .met f x=>h.get? a=some (PySem.W.methodObj (.ref f) (.ref x))
 | .ext φ=>φ h/\(∃ o,h.get? a=some o)/\∀ h1 h2:Heap,φ h1->(∀ o,h1.get? a=some o->h2.get? a=some o)->φ h2
def HOk (H:Hp) (h:Heap):Prop:=∀ a o,H a=some o->ObjOk P w H h a o
end
section
variable {P:Program}{w:World}{H H':Hp}{h h':Heap}{a:Addr}{o:HO}
theorem ObjOk.lt (x:ObjOk P w H h a o):a < h.objs.size:=by
 cases o with
 | lst xs=>obtain ⟨_,_,_,_,e⟩:=x;exact Heap.lt_size e
 | tup xs=>obtain ⟨_,_,_,p⟩:=x;exact p.lt
 | dK kvs=>obtain ⟨_,_,_,_,o,_,_,e,_⟩:=x;exact Heap.lt_size e
 | dT kvs=>obtain ⟨_,_,_,_,o,_,_,e,_⟩:=x;exact Heap.lt_size e
 | set S n=>obtain ⟨o,_,_,_,e,_⟩:=x;exact Heap.lt_size e
 | ins C dx fs=>obtain ⟨_,_,_,e,_⟩:=x;exact Heap.lt_size e
 | own y=>obtain ⟨_,e⟩:=x;exact Heap.lt_size e
 | xd fs=>obtain ⟨_,⟨_,_,_,e,_⟩,_⟩:=x;exact Heap.lt_size e
 | rng lo hi=>obtain ⟨_,_,_,e⟩:=x;exact Heap.lt_size e
 | frz ob u=>obtain ⟨e,_⟩:=x;exact Heap.lt_size e
 | tbl ps=>exact Heap.lt_size (show h.get? a=some _ from x)
 | met f y=>exact Heap.lt_size (show h.get? a=some _ from x)
 | ext φ=>obtain ⟨_,⟨_,e⟩,_⟩:=x;exact Heap.lt_size e
theorem Paired.mapP {α β:Type}{F G:α->β->Prop}:∀ {l₁:List α}{l₂:List β},Paired F l₁ l₂->(∀ a b,F a b->G a b)->Paired G l₁ l₂
 | _,_,.nil,_=>.nil
 | _,_,.cons r t,f=>.cons (f _ _ r) (Paired.mapP t f)
theorem ObjOk.stay (x:ObjOk P w H h a o) (k:∀ b u,(b=a\/H b=some (.own a))->h.get? b=some u->h'.get? b=some u)
  (ho:∀ b,H b=some (.own a)->H' b=some (.own a)) (ht:∀ b xs,H b=some (.tup xs)->H' b=some (.tup xs)):ObjOk P w H' h' a o:=by
 induction o with
 | lst xs=>obtain ⟨z,its,n,r,e⟩:=x;exact ⟨z,its,n,r,k _ _ (.inl rfl) e⟩
 | tup xs=>obtain ⟨z,its,r,ob,e,c⟩:=x;exact ⟨⟨z.1,λob' e'=>by rw [k _ _ (.inl rfl) e] at e';cases e';exact z.2 _ e⟩,its,r,ob,k _ _ (.inl rfl) e,c⟩
 | dK kvs=>obtain ⟨z,y,vs,r,ob,es,ep,e,c⟩:=x;exact ⟨z,y,vs,r,ob,es,ep,k _ _ (.inl rfl) e,c⟩
 | dT kvs=>
  obtain ⟨z,y,xs,r,ob,es,ep,e,c⟩:=x
  exact ⟨z,y,xs,Paired.mapP r λp q z=>⟨z.1,ht _ _ z.2.1,z.2.2⟩,ob,es,ep,k _ _ (.inl rfl) e,c⟩
 | set S n=>obtain ⟨ob,es,ep,t,e,c⟩:=x;exact ⟨ob,es,ep,t,k _ _ (.inl rfl) e,c⟩
 | ins C dx fs=>
  obtain ⟨d,z,ne,e,mA,⟨od,es,ep,e2,c⟩,r⟩:=x
  exact ⟨ho _ d,z,ne,k _ _ (.inl rfl) e,mA,⟨od,es,ep,k _ _ (.inr d) e2,c⟩,r⟩
 | own y=>obtain ⟨ob,e⟩:=x;exact ⟨ob,k _ _ (.inl rfl) e⟩
 | xd fs=>obtain ⟨mA,⟨od,es,ep,e,c⟩,r⟩:=x;exact ⟨mA,⟨od,es,ep,k _ _ (.inl rfl) e,c⟩,r⟩
 | rng lo hi=>obtain ⟨t,u,v,e⟩:=x;exact ⟨t,u,v,k _ _ (.inl rfl) e⟩
 | frz ob u ih=>obtain ⟨e,q⟩:=x;exact ⟨k _ _ (.inl rfl) e,ih q⟩
 | tbl ps=>
  have e:h.get? a=some { cls:=.none,data:=.fields ps }:=x
  show h'.get? a=some { cls:=.none,data:=.fields ps }
  exact k a _ (.inl rfl) e
 | met f y=>
  have e:h.get? a=some (PySem.W.methodObj (.ref f) (.ref y)):=x
  show h'.get? a=some (PySem.W.methodObj (.ref f) (.ref y))
  exact k a _ (.inl rfl) e
 | ext φ=>obtain ⟨p,⟨o,e⟩,st⟩:=x;exact ⟨st _ _ p λo q=>k _ _ (.inl rfl) q,⟨o,k _ _ (.inl rfl) e⟩,st⟩
theorem HOk.lt (x:HOk P w H h) (e:H a=some o):a < h.objs.size:=(x a o e).lt
theorem HOk.fresh (x:HOk P w H h) (e:h.objs.size<=a):H a=none:=by
 cases q:H a with
 | none=>rfl
 | some u=>exact absurd (zY (x.lt q) e) (yL _)
theorem HOk.kept (x:HOk P w H h) (k:∀ b u,h.get? b=some u->h'.get? b=some u):HOk P w H h':=λa o e=>
 (x a o e).stay (λb u _ q=>k b u q) (λ_ q=>q) λ_ _ q=>q
theorem HOk.laid (x:HOk P w H h) (k:∀ b u,h.get? b=some u->h'.get? b=some u) (hp:h.objs.size<=a) (new:ObjOk P w (upd H a o) h' a o):HOk P w (upd H a o) h':=λb u e=>by
 have hn:=x.fresh hp
 by_cases hb:b=a
 ·subst hb;rw [yx] at e;cases e;exact new
 ·rw [xH hb] at e
  exact (x b u e).stay (λc v _ q=>k c v q) (λc q=>by rw [xH (yz q hn)];exact q) λc xs q=>by rw [xH (yz q hn)];exact q
end
def Rd (H:Hp) (a:Addr) (u:HO):Prop:=H a=some u\/∃ o,H a=some (.frz o u)
theorem Rd.ok {P:Program}{w:World}{H:Hp}{h:Heap}{a:Addr}{u:HO} (r:Rd H a u) (x:HOk P w H h):ObjOk P w H h a u:=by
 rcases r with r | ⟨o,r⟩
 ·exact x a u r
 ·obtain ⟨_,q⟩:=x a _ r
  exact q
def Mut:Option HO->Prop
 | some (.lst _)=>True
 | some (.dK _)=>True
 | some (.dT _)=>True
 | some (.set _ _)=>True
 | some (.ins _ _ _)=>True
 | some (.ext _)=>True
 | _=>False
section
variable {P:Program}{w:World}{H:Hp}{h h':Heap}{x e:Addr}{o':HO}
theorem HOk.write (ok:HOk P w H h) (mu:Mut (H x)) (he:e=x\/H e=some (.own x)) (k:∀ b u,b≠e->h.get? b=some u->h'.get? b=some u) (heo:∃ u,h'.get? e=some u)
  (new:ObjOk P w (upd H x o') h' x o'):HOk P w (upd H x o') h':=λb u q=>by
 have nown:∀ c y,H c=some (.own y)->c≠x:=λc y r z=>by subst z;rw [r] at mu;exact mu
 have ntup:∀ c xs,H c=some (.tup xs)->c≠x:=λc xs r z=>by subst z;rw [r] at mu;exact mu
 by_cases hb:b=x
 ·subst hb;rw [yx] at q;cases q;exact new
 ·rw [xH hb] at q
  by_cases hbe:b=e
  ·have q':H b=some (.own x):=by
    rcases he with z | z
    ·exact absurd (hbe.trans z) hb
    ·rw [hbe];exact z
   rw [q] at q';cases q'
   obtain ⟨v,hv⟩:=heo
   exact ⟨v,by rw [hbe];exact hv⟩
  ·refine (ok b u q).stay (λc v hc r=>k c v ?_ r) (λc r=>by rw [xH (nown c b r)];exact r) λc xs r=>by rw [xH (ntup c xs r)];exact r
   rcases hc with rfl | hc
   ·exact hbe
   ·rintro rfl
    rcases he with z | z
    ·exact nown c b hc z
    ·rw [hc] at z;cases z;exact hb rfl
end
structure Un (fs ex:List Addr) (H H':Hp) (h h':Heap):Prop where
 keep:∀ b o,h.get? b=some o->H b=none->b ∉ fs->b ∉ ex->h'.get? b=some o
 slot:∀ b o,h.get? b=some o->H b=none->b∈fs->b ∉ ex->∃ sl,h'.get? b=some { o with slots:=sl }
 free:∀ b o,h.get? b=some o->H b=none->b ∉ ex->H' b=none
 there:∀ b o,h.get? b=some o->b ∉ ex->∃ o',h'.get? b=some o'
 tups:∀ b xs,H b=some (.tup xs)->H' b=some (.tup xs)
 frzs:∀ b o u,H b=some (.frz o u)->H' b=some (.frz o u)
 tbls:∀ b ps,H b=some (.tbl ps)->∃ more,H' b=some (.tbl (ps++more))
section
variable {fs fs' ex ex':List Addr} {H H1 H2:Hp} {h h1 h2 h':Heap}{a x e:Addr}{o:HO}
theorem Un.any (u:Un fs ex H H1 h h1) {b:Addr}{ob:Obj} (q:h.get? b=some ob) (n:H b=none) (hx:b ∉ ex):∃ sl,h1.get? b=some { ob with slots:=sl }:=by
 by_cases hb:b∈fs
 ·exact u.slot b ob q n hb hx
 ·exact ⟨ob.slots,u.keep b ob q n hb hx⟩
theorem Un.kept (k:∀ b u,h.get? b=some u->h'.get? b=some u):Un fs ex H H h h':=
 ⟨λb ob q _ _ _=>k b ob q,λb ob q _ _ _=>⟨ob.slots,k b ob q⟩,λ_ _ _ n _=>n,λb ob q _=>⟨ob,k b ob q⟩,λ_ _ q=>q,λ_ _ _ q=>q,λ_ ps q=>⟨#[],by rw [q];simp⟩⟩
theorem Un.refl:Un fs ex H H h h:=Un.kept λ_ _ q=>q
theorem Un.laid (k:∀ b u,h.get? b=some u->h'.get? b=some u) (hp:h.objs.size<=a) (hn:H a=none):Un fs ex H (upd H a o) h h' where
 keep:=λb u q _ _ _=>k b u q
 slot:=λb u q _ _ _=>⟨u.slots,k b u q⟩
 free:=λb u q n _=>by rw [xH (zW (zY (Heap.lt_size q) hp))];exact n
 there:=λb u q _=>⟨u,k b u q⟩
 tups:=λb xs q=>by rw [xH (yz q hn)];exact q
 frzs:=λb u xs q=>by rw [xH (yz q hn)];exact q
 tbls:=λb ps q=>⟨#[],by rw [xH (yz q hn),q];simp⟩
theorem Un.write (mu:Mut (H x)) (he:e=x\/H e=some (.own x)) (k:∀ b u,b≠e->h.get? b=some u->h'.get? b=some u) (heo:∃ u,h'.get? e=some u):Un fs ex H (upd H x o) h h':=by
 have hx:∀ b,H b=none->b≠x:=λb n z=>by subst z;rw [n] at mu;exact mu
 have hb:∀ b,H b=none->b≠e:=λb n z=>by
  subst z
  rcases he with r | r
  ·exact hx b n r
  ·rw [n] at r;cases r
 have hm:∀ b u,H b=some u->¬ Mut (some u)->b≠x:=λb u q nm z=>by subst z;rw [q] at mu;exact nm mu
 refine ⟨λb u q n _ _=>k b u (hb b n) q,λb u q n _ _=>⟨u.slots,k b u (hb b n) q⟩,λb u q n _=>by rw [xH (hx b n)];exact n,λb u q _=>?_,
  λb xs q=>by rw [xH (hm b _ q λz=>z)];exact q,λb u xs q=>by rw [xH (hm b _ q λz=>z)];exact q,λb ps q=>⟨#[],by rw [xH (hm b _ q λz=>z),q];simp⟩⟩
 by_cases hbe:b=e
 ·subst hbe;exact heo
 ·exact ⟨u,k b u hbe q⟩
end
def trk (h:Heap) (H:Hp):List Addr:=(List.range h.objs.size).filter λa=>(H a).isSome
def hidT (h:Heap) (H:Hp):Heap:=PySem.W.hideAll h (trk h H)
theorem hidT_size (h:Heap) (H:Hp):(hidT h H).objs.size=h.objs.size:=PySem.W.hideAll_size _ _
theorem hidT_get {h:Heap}{H:Hp}{b:Addr}{o:Obj} (e:h.get? b=some o) (n:H b=none):(hidT h H).get? b=some o:=
 PySem.W.hideAll_get _ e λhm=>by
  have q:(H b).isSome=true:=(List.mem_filter.mp hm).2
  rw [n] at q;simp at q
theorem of_hidT {h:Heap}{H:Hp}{b:Addr}{o:Obj} (e:(hidT h H).get? b=some o):h.get? b=some o/\H b=none:=by
 have e':h.get? b=some o:=PySem.W.of_hideAll (trk h H) e
 refine ⟨e',?_⟩
 cases q:H b with
 | none=>rfl
 | some x=>
  have hm:b∈trk h H:=List.mem_filter.mpr ⟨zx.mpr (Heap.lt_size e'),by simp [q]⟩
  have z:(hidT h H).get? b=none:=PySem.W.hideAll_none (trk h H) hm
  rw [z] at e;cases e
def allNews (g h:Heap) (L:Addr):List (Addr×Obj):=(List.range h.objs.size).filterMap λa=>if a=L\/(g.get? a).isSome=true then none else (h.get? a).map λo=>(a,o)
theorem mem_allNews {g h:Heap}{L a:Addr}{o:Obj} (h1:a≠L) (h2:g.get? a=none) (h3:h.get? a=some o):(a,o)∈allNews g h L:=
 ya.mpr ⟨a,zx.mpr (Heap.lt_size h3),by simp [h1,h2,h3]⟩
theorem of_mem_allNews {g h:Heap}{L:Addr}{p:Addr×Obj} (hp:p∈allNews g h L):p.1≠L/\g.get? p.1=none/\h.get? p.1=some p.2:=by
 obtain ⟨b,_,e⟩:=ya.mp hp
 split at e
 ·cases e
 ·rename_i hn
  cases q:h.get? b with
  | none=>rw [q] at e;simp at e
  | some u=>
   rw [q] at e
   simp only [Option.map_some,Option.some.injEq] at e
   subst e
   refine ⟨λz=>hn (.inl z),?_,q⟩
   show g.get? b=none
   cases r:g.get? b with
   | none=>rfl
   | some v=>exact (hn (.inr (by simp [r]))).elim
theorem news_all {g h:Heap}{L:Addr}:News g L h (allNews g h L):=λp hp=>let ⟨a,b,c⟩:=of_mem_allNews hp;⟨c,a,b⟩
end L2
namespace L2
open PySem PySem.Spec PyProof.Rows
structure Mod (K:PySem.W.Frag) (mg:Str->Option Value) (base:Heap):Prop where
 kin:K.In base
 glob:base.Ns mainGlobals mg
 blt:∃ mb,base.Ns builtinsNs mb/\∀ x:Str,x ≠ "__name__" -> mb x=bootBuiltins x
 nolimit:base.NoLimit
structure Cx where
 prog:Program
 w:World
 K:PySem.W.Frag
 mg:Str->Option Value
 base:Heap
 A:Around
 N:List Str
 s₀:Shared
 H₀:Hp
 env:Env
 outer:List Env
 stack:List Env
 ex:List Addr
 fn:Str->Bool
 calm:Bool
 pn:List (Addr×Obj)
 xe:Value->Shared->Prop
def frs (l:List Env):List Addr:=l.filterMap (·.frame)
abbrev Cx.fs (X:Cx):List Addr:=frs X.outer
def Vis (sc:Scope) (x:Str):Prop:=sc.names.lookup x=some .local\/sc.names.lookup x=some .cell\/sc.names.lookup x=some .free
def Loc (sc:Scope) (x:Str):Prop:=sc.names.lookup x=some .local\/sc.names.lookup x=some .cell
def Look (env:Env) (h:Heap) (m:Str->Option Value) (x:Str) (u:Value):Prop:=
 (env.kindOf x=some .local/\m x=some u)\/((env.kindOf x=some .cell\/env.kindOf x=some .free)/\∃ c,env.cells.lookup x=some c/\h.IsCell c (some u))
structure Cx.Ok (X:Cx):Prop where
 mod:Mod X.K X.mg X.base
 kind:X.env.scope.kind=.function
 glob:X.env.globals=mainGlobals
 blt:X.env.builtins=builtinsNs
 above:X.s₀.heap.objs.size<=X.env.locals
 inj:∀ x y c,X.env.cells.lookup x=some c->X.env.cells.lookup y=some c->x=y
 has:∀ x,(X.env.kindOf x=some .cell\/X.env.kindOf x=some .free)->∃ c,X.env.cells.lookup x=some c
 cab:∀ x c,X.fn x=true->X.env.cells.lookup x=some c->X.s₀.heap.objs.size<=c
 hd:X.calm=true->X.A.handled=none
 frames:X.A.frames=some X.stack
 stk:X.stack=X.outer\/(X.stack=X.env::X.outer/\X.env.frame=some X.env.locals)
 exf:∀ b∈X.ex,b≠X.env.locals/\∀ x c,X.env.cells.lookup x=some c->c≠b
 bs:∀ b o,X.base.get? b=some o->X.s₀.heap.get? b=some o/\X.H₀ b=none
 bsz:X.base.objs.size<=X.s₀.heap.objs.size
 noex:∀ b o,X.base.get? b=some o->b ∉ X.ex
 exfs:∀ b∈X.ex,b ∉ X.fs
 funs:X.s₀.heap.FunFrames X.base X.outer
 frf:∀ b∈X.fs,X.H₀ b=none
structure Inv (X:Cx) (pins:List (Addr×Obj)) (σ:List (Option V)) (H:Hp) (s:Shared):Prop where
 ok:X.Ok
 os:s.os=X.s₀.os
 bare:AllBare s.gens
 base:Un X.fs X.ex X.H₀ H X.s₀.heap s.heap
 loc:∃ m,s.heap.Ns X.env.locals m/\∀ (i:Nat) (x:Str) (v:V),X.N[i]?=some x->σ[i]?=some (some v)->Vis X.env.scope x->∃ u,RelV v u/\Look X.env s.heap m x u
 cell:∀ x c,X.env.cells.lookup x=some c->∃ v,s.heap.IsCell c v
 free:H X.env.locals=none
 freeC:∀ x c,X.env.cells.lookup x=some c->H c=none
 pin:∀ p∈X.pn++pins,s.heap.get? p.1=some p.2/\H p.1=none/\p.1≠X.env.locals/\p.1 ∉ X.fs/\∀ v,p.2.data≠.cell v
 hok:HOk X.prog X.w H s.heap
 len:σ.length=X.N.length
section
variable {X:Cx}{pins:List (Addr×Obj)}{σ:List (Option V)}{H H':Hp}{s:Shared}{h':Heap}
theorem Cx.Ok.nofr (ok:X.Ok) {b:Addr}{o:Obj} (e:X.base.get? b=some o):b ∉ X.fs:=λhb=>by
 have:=(ok.funs.mem hb).1
 rw [e] at this;cases this
theorem Inv.bs (I:Inv X pins σ H s):∀ b o,X.base.get? b=some o->s.heap.get? b=some o/\H b=none:=λb o e=>
 ⟨I.base.keep b o (I.ok.bs b o e).1 (I.ok.bs b o e).2 (I.ok.nofr e) (I.ok.noex b o e),I.base.free b o (I.ok.bs b o e).1 (I.ok.bs b o e).2 (I.ok.noex b o e)⟩
theorem Inv.bk (I:Inv X pins σ H s):∀ b o,X.base.get? b=some o->s.heap.get? b=some o:=λb o e=>(I.bs b o e).1
theorem Inv.mod (I:Inv X pins σ H s):Mod X.K X.mg X.base:=I.ok.mod
theorem Inv.kIn (I:Inv X pins σ H s):X.K.In s.heap:=I.ok.mod.kin.keeps I.bk
theorem Inv.fr (I:Inv X pins σ H s):∃ m,Fr X.base X.env.locals s.heap m:=
 let ⟨m,hn,_⟩:=I.loc
 ⟨m,hn,I.bk,zk I.ok.bsz I.ok.above⟩
theorem Inv.lt (I:Inv X pins σ H s):X.env.locals < s.heap.objs.size:=let ⟨_,hn,_⟩:=I.loc;hn.lt
theorem Inv.sz (I:Inv X pins σ H s):X.s₀.heap.objs.size<=s.heap.objs.size:=zk I.ok.above (Nat.le_of_lt I.lt)
theorem Inv.nofs (I:Inv X pins σ H s) {a:Addr} (h:s.heap.objs.size<=a):a ∉ X.fs:=λhb=>by
 obtain ⟨_,o,ho,_⟩:=I.ok.funs.mem hb
 exact absurd (zY (Heap.lt_size ho) (zk I.sz h)) (yL _)
theorem Inv.cne (I:Inv X pins σ H s):∀ x c,X.env.cells.lookup x=some c->c≠X.env.locals:=λx c e z=>by
 obtain ⟨v,o,ho,hd⟩:=I.cell x c e
 obtain ⟨m,⟨o',es,ep,ho',hd',_⟩,_⟩:=I.loc
 rw [z,ho'] at ho;cases ho;rw [hd'] at hd;cases hd
theorem Inv.funs (I:Inv X pins σ H s):s.heap.FunFrames X.base X.outer:=by
 have all:∀ (l:List Env),(∀ b∈frs l,b∈X.fs)->X.s₀.heap.FunFrames X.base l->s.heap.FunFrames X.base l:=by
  intro l
  induction l with
  | nil=>intro _ _;trivial
  | cons env r ih=>
   intro hs hl
   obtain ⟨hk,⟨L,o,hf,hn,ho,hd⟩,hr⟩:=hl
   have hL:L∈X.fs:=hs L (by unfold frs;rw [List.filterMap_cons,hf];exact zo)
   obtain ⟨sl,e⟩:=I.base.slot L o ho (I.ok.frf L hL) hL λz=>I.ok.exfs L z hL
   exact ⟨hk,⟨L,_,hf,hn,e,hd⟩,ih (λb hb=>hs b (by unfold frs;rw [List.filterMap_cons,hf];exact zc _ hb)) hr⟩
 exact all X.outer (λ_ hb=>hb) I.ok.funs
theorem Inv.stack (I:Inv X pins σ H s):s.heap.FunFrames X.base X.stack:=by
 rcases I.ok.stk with e | ⟨e,hf⟩
 ·rw [e];exact I.funs
 ·rw [e]
  obtain ⟨m,hn,_⟩:=I.loc
  refine .cons (by rw [I.ok.kind];decide) hf hn ?_ I.funs
  exact Heap.get?_none_of_le (zk I.ok.bsz I.ok.above)
theorem Inv.stkSub (I:Inv X pins σ H s):∀ b∈frs X.stack,b∈X.env.locals::X.fs:=λb hb=>by
 rcases I.ok.stk with e | ⟨e,hf⟩
 ·rw [e] at hb;exact zc _ hb
 ·rw [e] at hb
  unfold frs at hb
  rw [List.filterMap_cons,hf] at hb
  exact hb
theorem Inv.stkFree (I:Inv X pins σ H s):∀ b∈frs X.stack,H b=none:=λb hb=>by
 rcases zE.mp (I.stkSub b hb) with e | hb
 ·rw [e];exact I.free
 ·obtain ⟨_,o,ho,_⟩:=I.ok.funs.mem hb
  exact I.base.free b o ho (I.ok.frf b hb) λz=>I.ok.exfs b z hb
theorem Inv.step {g':Array GenState}{t':Nat}{d':Drawn}{ch:List Addr} (I:Inv X pins σ H s)
  (hch:∀ b∈ch,(b∈X.ex\/X.s₀.heap.objs.size<=b)/\b≠X.env.locals/\(∀ x c,X.env.cells.lookup x=some c->c≠b)/\∀ p∈X.pn++pins,p.1≠b)
  (keep:∀ b o,b≠X.env.locals->b ∉ X.fs->b ∉ ch->s.heap.get? b=some o->H b=none->h'.get? b=some o)
  (slot:∀ b o,b≠X.env.locals->b∈X.fs->b ∉ ch->s.heap.get? b=some o->H b=none->∃ sl,h'.get? b=some { o with slots:=sl }) (free:∀ b o,b ∉ ch->s.heap.get? b=some o->H b=none->H' b=none)
  (there:∀ b o,b ∉ ch->s.heap.get? b=some o->∃ o',h'.get? b=some o')
  (tups:∀ b xs,H b=some (.tup xs)->H' b=some (.tup xs)) (frzs:∀ b o u,H b=some (.frz o u)->H' b=some (.frz o u)) (tbls:∀ b ps,H b=some (.tbl ps)->∃ more,H' b=some (.tbl (ps++more)))
  (ns:∀ m,s.heap.Ns X.env.locals m->h'.Ns X.env.locals m) (hok:HOk X.prog X.w H' h') (hg:AllBare g') :
  Inv X pins σ H' { s with heap:=h',gens:=g',drawn:=d',toks:=t' }:=by
 have neL:∀ b o,X.s₀.heap.get? b=some o->b≠X.env.locals:=λb o e=>zW (zY (Heap.lt_size e) I.ok.above)
 have neC:∀ b o,X.s₀.heap.get? b=some o->b ∉ X.ex->b ∉ ch:=λb o e hx hb=>by
  rcases (hch b hb).1 with z | z
  ·exact hx z
  ·exact absurd (zY (Heap.lt_size e) z) (yL _)
 have cellK:∀ x c,X.env.cells.lookup x=some c->∀ v,s.heap.IsCell c v->h'.IsCell c v:=λx c e v ⟨o,ho,hd⟩=>by
  have nch:c ∉ ch:=λz=>(hch c z).2.2.1 x c e rfl
  by_cases hc:c∈X.fs
  ·obtain ⟨sl,q⟩:=slot c o (I.cne x c e) hc nch ho (I.freeC x c e)
   exact ⟨_,q,hd⟩
  ·exact ⟨o,keep c o (I.cne x c e) hc nch ho (I.freeC x c e),hd⟩
 refine ⟨I.ok,I.os,hg,⟨λb o e n hb hx=>?_,λb o e n hb hx=>?_,λb o e n hx=>?_,λb o e hx=>?_,λb xs e=>tups b xs (I.base.tups b xs e),λb o xs e=>frzs b o xs (I.base.frzs b o xs e),λb ps e=>?_⟩,?_,λx c e=>?_,?_,λx c e=>?_,λp hp=>?_,hok,I.len⟩
 ·exact keep b o (neL b o e) hb (neC b o e hx) (I.base.keep b o e n hb hx) (I.base.free b o e n hx)
 ·obtain ⟨sl,e1⟩:=I.base.slot b o e n hb hx
  obtain ⟨sl',e2⟩:=slot b _ (neL b o e) hb (neC b o e hx) e1 (I.base.free b o e n hx)
  exact ⟨sl',e2⟩
 ·obtain ⟨o',e1⟩:=I.base.there b o e hx
  exact free b o' (neC b o e hx) e1 (I.base.free b o e n hx)
 ·obtain ⟨o',e1⟩:=I.base.there b o e hx
  exact there b o' (neC b o e hx) e1
 ·obtain ⟨m1,e1⟩:=I.base.tbls b ps e
  obtain ⟨m2,e2⟩:=tbls b _ e1
  exact ⟨m1++m2,by rw [e2,Array.append_assoc]⟩
 ·obtain ⟨m,hn,hl⟩:=I.loc
  refine ⟨m,ns m hn,λi x v e1 e2 e3=>?_⟩
  obtain ⟨u,r,l⟩:=hl i x v e1 e2 e3
  refine ⟨u,r,?_⟩
  rcases l with l | ⟨k,c,e,z⟩
  ·exact .inl l
  ·exact .inr ⟨k,c,e,cellK x c e _ z⟩
 ·obtain ⟨v,z⟩:=I.cell x c e
  exact ⟨v,cellK x c e v z⟩
 ·obtain ⟨m,⟨o,_,_,ho,_⟩,_⟩:=I.loc
  exact free _ o (λz=>(hch _ z).2.1 rfl) ho I.free
 ·obtain ⟨v,o,ho,hd⟩:=I.cell x c e
  exact free c o (λz=>(hch c z).2.2.1 x c e rfl) ho (I.freeC x c e)
 ·obtain ⟨e,n,ne,nf,d⟩:=I.pin p hp
  have nch:p.1 ∉ ch:=λz=>(hch p.1 z).2.2.2 p hp rfl
  exact ⟨keep p.1 p.2 ne nf nch e n,free p.1 p.2 nch e n,ne,nf,d⟩
theorem Inv.un {t':Nat} (I:Inv X pins σ H s) (u:Un X.fs [] H H' s.heap h') (hok:HOk X.prog X.w H' h'):Inv X pins σ H' { s with heap:=h',toks:=t' }:=by
 obtain ⟨m,⟨o,es,ep,ho,r⟩,_⟩:=id I.loc
 obtain ⟨sl,hL⟩:=u.any ho I.free (by simp)
 exact I.step (g':=s.gens) (d':=s.drawn) (ch:=[]) (λ_ z=>nomatch z) (λb o _ hb _ e n=>u.keep b o e n hb (by simp)) (λb o _ hb _ e n=>u.slot b o e n hb (by simp)) (λb o _ e n=>u.free b o e n (by simp)) (λb o _ e=>u.there b o e (by simp)) u.tups u.frzs u.tbls (λm' hm=>by
  obtain ⟨o',es',ep',ho',r'⟩:=hm
  rw [ho] at ho';cases ho'
  exact ⟨_,es',ep',hL,r'⟩) hok I.bare
theorem Inv.call {g':Array GenState}{t':Nat}{d':Drawn}{ch:List Addr} (I:Inv X pins σ H s) (u:Un (frs X.stack) ch H H' s.heap h') (hok:HOk X.prog X.w H' h') (hg:AllBare g')
  (hch:∀ b∈ch,(b∈X.ex\/X.s₀.heap.objs.size<=b)/\b≠X.env.locals/\(∀ x c,X.env.cells.lookup x=some c->c≠b)/\∀ p∈X.pn++pins,p.1≠b) :
  Inv X pins σ H' { s with heap:=h',gens:=g',drawn:=d',toks:=t' }:=by
 obtain ⟨m,⟨o,es,ep,ho,r⟩,_⟩:=id I.loc
 obtain ⟨sl,hL⟩:=u.any ho I.free λz=>(hch _ z).2.1 rfl
 exact I.step (ch:=ch) hch (λb o hL hb hc e n=>u.keep b o e n (λz=>(zE.mp (I.stkSub b z)).elim hL hb) hc) (λb o _ _ hc e n=>u.any e n hc) (λb o hc e n=>u.free b o e n hc) (λb o hc e=>u.there b o e hc) u.tups u.frzs u.tbls (λm' hm=>by
  obtain ⟨o',es',ep',ho',r'⟩:=hm
  rw [ho] at ho';cases ho'
  exact ⟨_,es',ep',hL,r'⟩) hok hg
theorem Inv.turned {t':Nat}{it:Addr} (I:Inv X pins σ H s) (k:∀ b o,b≠it->s.heap.get? b=some o->h'.get? b=some o) (hn:H it=none) (hL:it≠X.env.locals)
  (h1:it∈X.ex\/X.s₀.heap.objs.size<=it) (h2:∀ x c,X.env.cells.lookup x=some c->c≠it) (h3:∀ p∈X.pn++pins,p.1≠it):Inv X pins σ H { s with heap:=h',toks:=t' }:=by
 have nit:∀ b u,H b=some u->b≠it:=λb u e z=>by rw [z,hn] at e;cases e
 refine I.step (g':=s.gens) (d':=s.drawn) (ch:=[it]) (λb hb=>?_) (λb o _ _ hc e _=>k b o (λz=>hc (by simp [z])) e) (λb o _ _ hc e _=>⟨o.slots,k b o (λz=>hc (by simp [z])) e⟩) (λ_ _ _ _ n=>n)
  (λb o hc e=>⟨o,k b o (λz=>hc (by simp [z])) e⟩) (λ_ _ e=>e) (λ_ _ _ e=>e) (λb ps e=>⟨#[],by rw [e];simp⟩) (λm hm=>?_) (λb u e=>?_) I.bare
 ·have e:b=it:=by simpa using hb
  subst e
  exact ⟨h1,hL,h2,h3⟩
 ·obtain ⟨o,es,ep,ho,r⟩:=hm
  exact ⟨o,es,ep,k _ o (Ne.symm hL) ho,r⟩
 ·refine (I.hok b u e).stay (λc v hc q=>k c v ?_ q) (λ_ q=>q) λ_ _ q=>q
  rcases hc with z | z
  ·rw [z];exact nit b u e
  ·exact nit c _ z
theorem Inv.tok (I:Inv X pins σ H s) (t:Nat):Inv X pins σ H { s with toks:=t }:=I.un (h':=s.heap) (t':=t) Un.refl I.hok
theorem Inv.kept {t':Nat} (I:Inv X pins σ H s) (k:∀ b u,s.heap.get? b=some u->h'.get? b=some u):Inv X pins σ H { s with heap:=h',toks:=t' }:=I.un (Un.kept k) (I.hok.kept k)
theorem Inv.laid {a:Addr}{o:HO}{t':Nat} (I:Inv X pins σ H s) (k:∀ b u,s.heap.get? b=some u->h'.get? b=some u) (hp:s.heap.objs.size<=a) (new:ObjOk X.prog X.w (upd H a o) h' a o) :
  Inv X pins σ (upd H a o) { s with heap:=h',toks:=t' }:=I.un (Un.laid k hp (I.hok.fresh hp)) (I.hok.laid k hp new)
theorem Inv.write {x e:Addr}{o:HO}{t':Nat} (I:Inv X pins σ H s) (mu:Mut (H x)) (he:e=x\/H e=some (.own x)) (k:∀ b u,b≠e->s.heap.get? b=some u->h'.get? b=some u) (heo:∃ u,h'.get? e=some u)
  (new:ObjOk X.prog X.w (upd H x o) h' x o):Inv X pins σ (upd H x o) { s with heap:=h',toks:=t' }:=I.un (Un.write mu he k heo) (I.hok.write mu he k heo new)
theorem Inv.pins_of {pins':List (Addr×Obj)} (I:Inv X pins σ H s) (h:∀ p∈pins',s.heap.get? p.1=some p.2/\H p.1=none/\p.1≠X.env.locals/\p.1 ∉ X.fs/\∀ v,p.2.data≠.cell v):Inv X pins' σ H s:=
 ⟨I.ok,I.os,I.bare,I.base,I.loc,I.cell,I.free,I.freeC,λp hp=>(zX.mp hp).elim (λz=>I.pin p (zq _ z)) (h p),I.hok,I.len⟩
theorem nodup_ix {N:List Str} (hN:N.Nodup) {i j:Nat}{x:Str} (a:N[i]?=some x) (b:N[j]?=some x):i=j:=by
 obtain ⟨h1,e1⟩:=zH.mp a
 obtain ⟨h2,e2⟩:=zH.mp b
 exact (List.getElem_inj hN).mp (e1.trans e2.symm)
def locB (sc:Scope) (x:Str):Bool:=match sc.names.lookup x with | some .local=>true | some .cell=>true | _=>false
theorem locB_of {sc:Scope}{x:Str} (h:locB sc x=true):Loc sc x:=by
 unfold locB at h;unfold Loc
 revert h
 cases sc.names.lookup x with
 | none=>intro h;cases h
 | some k=>cases k <;> intro h <;> first | exact .inl rfl | exact .inr rfl | cases h
def fnLoc (X:Cx) (x:Str):Bool:=X.fn x || (match X.env.scope.names.lookup x with | some .local=>true | _=>false)
theorem fnLoc_or {X:Cx}{x:Str} (h:fnLoc X x=true):X.fn x=true\/X.env.scope.names.lookup x=some .local:=by
 unfold fnLoc at h
 cases e:X.fn x with
 | true=>exact .inl rfl
 | false=>
  rw [e,Bool.false_or] at h
  revert h
  cases X.env.scope.names.lookup x with
  | none=>intro h;cases h
  | some k=>cases k <;> intro h <;> first | exact .inr rfl | cases h
def visB (sc:Scope) (x:Str):Bool:=match sc.names.lookup x with | some .local=>true | some .cell=>true | some .free=>true | _=>false
theorem visB_of {sc:Scope}{x:Str} (h:visB sc x=true):Vis sc x:=by
 unfold visB at h;unfold Vis
 revert h
 cases sc.names.lookup x with
 | none=>intro h;cases h
 | some k=>cases k <;> intro h <;> first | exact .inl rfl | exact .inr (.inl rfl) | exact .inr (.inr rfl) | cases h
theorem store_ok2 {M:Model}{A:Around}{E:Value->Shared->Prop}{i:Nat}{x:Str}{v:V}{u:Value}{Q:Unit->Shared->Prop} (I:Inv X pins σ H s) (hN:X.N.Nodup) (hi:X.N[i]?=some x) (hx:Loc X.env.scope x) (r:RelV v u)
  (h:∀ s',Inv X pins (σ.set i (some v)) H s'->(∃ a,Heap.SameBut a s.heap s'.heap/\(a=X.env.locals\/X.env.cells.lookup x=some a))->Q () s') (hf:fnLoc X x=true:=by rfl):wpAny M A (storeName X.env x u) Q E s:=by
 have hf:=fnLoc_or hf
 obtain ⟨m,hn,hl⟩:=id I.loc
 have hcls:(X.env.scope.kind == .class || (X.env.scope.kind == .module && X.env.locals != X.env.globals))=false:=by rw [I.ok.kind];rfl
 have hiσ:i < σ.length:=by rw [I.len];exact (zH.mp hi).1
 have cne:=I.cne
 have tracked:∀ {a:Addr}{h':Heap},(∃ o,s.heap.get? a=some o/\H a=none)->Heap.SameBut a s.heap h'->HOk X.prog X.w H h':=λ{a h'} ha hs b ob e=>by
  obtain ⟨_,_,hfree⟩:=ha
  refine (I.hok b ob e).stay (λc w' hc q=>(hs.2 c ?_).trans q) (λ_ q=>q) λ_ _ q=>q
  rintro rfl
  rcases hc with rfl | hc
  ·rw [hfree] at e;cases e
  ·rw [hfree] at hc;cases hc
 rcases hx with hk | hk
 ·refine wpAny_storeName_local hk hn (λh' hn' hs=>?_) hcls
  obtain ⟨oL,_,_,hoL,_⟩:=id hn
  refine h _ ⟨I.ok,I.os,I.bare,⟨λb o e n hb hx=>?_,λb o e n hb hx=>?_,I.base.free,λb o e hx=>?_,I.base.tups,I.base.frzs,I.base.tbls⟩,⟨_,hn',λj y v' e1 e2 e3=>?_⟩,λy c e=>?_,I.free,I.freeC,λp hp=>?_,tracked ⟨oL,hoL,I.free⟩ hs,by simpa using I.len⟩ ⟨_,hs,.inl rfl⟩
  ·exact (hs.2 b (zW (zY (Heap.lt_size e) I.ok.above))).trans (I.base.keep b o e n hb hx)
  ·obtain ⟨sl,e1⟩:=I.base.slot b o e n hb hx
   exact ⟨sl,(hs.2 b (zW (zY (Heap.lt_size e) I.ok.above))).trans e1⟩
  ·obtain ⟨o',e1⟩:=I.base.there b o e hx
   exact ⟨o',(hs.2 b (zW (zY (Heap.lt_size e) I.ok.above))).trans e1⟩
  ·by_cases hj:j=i
   ·subst hj
    rw [hi] at e1;cases e1
    rw [yY hiσ] at e2
    cases e2
    exact ⟨u,r,.inl ⟨hk,by simp⟩⟩
   ·rw [yW (Ne.symm hj)] at e2
    obtain ⟨u',r',q⟩:=hl j y v' e1 e2 e3
    refine ⟨u',r',?_⟩
    rcases q with ⟨k,e⟩ | ⟨k,c,e,z⟩
    ·refine .inl ⟨k,?_⟩
     have:y≠x:=λe=>hj (nodup_ix hN e1 (e ▸ hi))
     simp [this,e]
    ·exact .inr ⟨k,c,e,z.sameBut hs (cne y c e)⟩
  ·obtain ⟨w',z⟩:=I.cell y c e
   exact ⟨w',z.sameBut hs (cne y c e)⟩
  ·obtain ⟨e,n,ne,nf,d⟩:=I.pin p hp
   exact ⟨(hs.2 p.1 ne).trans e,n,ne,nf,d⟩
 ·have hfn:X.fn x=true:=by
   rcases hf with z | z
   ·exact z
   ·rw [z] at hk;cases hk
  obtain ⟨c,hc⟩:=I.ok.has x (.inl hk)
  obtain ⟨w',z⟩:=I.cell x c hc
  refine wpAny_storeName_cell I.ok.kind hk hc z (λh' hc' hs=>?_)
  obtain ⟨oc,hoc,hocd⟩:=id z
  refine h { s with heap:=h' } ⟨I.ok,I.os,I.bare,⟨λb o e n hb hx=>?_,λb o e n hb hx=>?_,I.base.free,λb o e hx=>?_,I.base.tups,I.base.frzs,I.base.tbls⟩,⟨m,hn.sameBut hs (Ne.symm (cne x c hc)),λj y v' e1 e2 e3=>?_⟩,λy c' e=>?_,I.free,I.freeC,λp hp=>?_,tracked ⟨oc,hoc,I.freeC x c hc⟩ hs,by simpa using I.len⟩ ⟨c,hs,.inr hc⟩
  ·exact (hs.2 b (zW (zY (Heap.lt_size e) (I.ok.cab x c hfn hc)))).trans (I.base.keep b o e n hb hx)
  ·obtain ⟨sl,e1⟩:=I.base.slot b o e n hb hx
   exact ⟨sl,(hs.2 b (zW (zY (Heap.lt_size e) (I.ok.cab x c hfn hc)))).trans e1⟩
  ·obtain ⟨o',e1⟩:=I.base.there b o e hx
   exact ⟨o',(hs.2 b (zW (zY (Heap.lt_size e) (I.ok.cab x c hfn hc)))).trans e1⟩
  ·by_cases hj:j=i
   ·subst hj
    rw [hi] at e1;cases e1
    rw [yY hiσ] at e2
    cases e2
    exact ⟨u,r,.inr ⟨.inl hk,c,hc,hc'⟩⟩
   ·rw [yW (Ne.symm hj)] at e2
    obtain ⟨u',r',q⟩:=hl j y v' e1 e2 e3
    refine ⟨u',r',?_⟩
    rcases q with q | ⟨k,c',e,z'⟩
    ·exact .inl q
    ·refine .inr ⟨k,c',e,z'.sameBut hs ?_⟩
     rintro rfl
     exact hj (nodup_ix hN e1 (I.ok.inj _ _ _ e hc ▸ hi))
  ·by_cases hcc:c'=c
   ·subst hcc;exact ⟨_,hc'⟩
   ·obtain ⟨w2,z2⟩:=I.cell y c' e
    exact ⟨w2,z2.sameBut hs hcc⟩
  ·obtain ⟨e,n,ne,nf,d⟩:=I.pin p hp
   refine ⟨(hs.2 p.1 ?_).trans e,n,ne,nf,d⟩
   intro q
   rw [q,hoc] at e
   have q':oc=p.2:=Option.some.inj e
   exact d w' (by rw [<-q'];exact hocd)
theorem store_ok {M:Model}{A:Around}{E:Value->Shared->Prop}{i:Nat}{x:Str}{v:V}{u:Value}{Q:Unit->Shared->Prop} (I:Inv X pins σ H s) (hN:X.N.Nodup) (hi:X.N[i]?=some x) (hx:Loc X.env.scope x) (r:RelV v u)
  (h:∀ s',Inv X pins (σ.set i (some v)) H s'->Q () s') (hf:fnLoc X x=true:=by rfl):wpAny M A (storeName X.env x u) Q E s:=
 store_ok2 I hN hi hx r (λs' I' _=>h s' I') hf
theorem Inv.call' {s':Shared}{ch:List Addr} (I:Inv X pins σ H s) (ho:s'.os=s.os) (u:Un (frs X.stack) ch H H' s.heap s'.heap) (hok:HOk X.prog X.w H' s'.heap) (hg:AllBare s'.gens)
  (hch:∀ b∈ch,(b∈X.ex\/X.s₀.heap.objs.size<=b)/\b≠X.env.locals/\(∀ x c,X.env.cells.lookup x=some c->c≠b)/\∀ p∈X.pn++pins,p.1≠b):Inv X pins σ H' s':=by
 obtain ⟨h',g',d',t',o'⟩:=s'
 have e:o'=s.os:=ho
 subst e
 exact I.call (g':=g') (t':=t') (d':=d') u hok hg hch
end
abbrev XK:=Value->Option Addr->Hp->Prop
abbrev St:=List (Option V)
abbrev VK:=V->Hp->Prop
abbrev TE:=St->Hp->VK->Prop
abbrev TT:=St->Hp->(Bool->Hp->Prop)->Prop
abbrev TA:=St->Hp->(List V->Hp->Prop)->Prop
structure Ends where
 nx:St->Hp->Prop
 rt:VK
 bk:St->Hp->Prop:=λ_ _=>False
 ct:St->Hp->Prop:=λ_ _=>False
abbrev Ends.go (D:Ends) (n:St->Hp->Prop):Ends:={ D with nx:=n }
abbrev Ends.lp (D:Ends) (n:St->Hp->Prop):Ends:={ D with nx:=n,ct:=n,bk:=D.nx }
abbrev TS:=Ends->St->Hp->Prop
def EP (X:Cx) (pins:List (Addr×Obj)) (σ:St) (Q:VK) (u:Value) (s':Shared):Prop:=∃ v H',Inv X pins σ H' s'/\RelV v u/\Q v H'
def TP (X:Cx) (pins:List (Addr×Obj)) (σ:St) (Q:Bool->Hp->Prop) (b:Bool) (s':Shared):Prop:=∃ H',Inv X pins σ H' s'/\Q b H'
def AP (X:Cx) (pins:List (Addr×Obj)) (σ:St) (Q:List V->Hp->Prop) (us:List Value) (s':Shared):Prop:=∃ vs H',Inv X pins σ H' s'/\Vals vs us/\Q vs H'
def SP (X:Cx) (pins:List (Addr×Obj)) (D:Ends) (f:Flow) (s':Shared):Prop:=
 match f with
 | .next=>∃ σ' H',Inv X pins σ' H' s'/\D.nx σ' H'
 | .brk=>∃ σ' H',Inv X pins σ' H' s'/\D.bk σ' H'
 | .cont=>∃ σ' H',Inv X pins σ' H' s'/\D.ct σ' H'
 | .ret u=>∃ v σ' H',Inv X pins σ' H' s'/\RelV v u/\D.rt v H'
def PE (X:Cx) (e:Expr) (t:TE):Prop:=
 ∀ (pins:List (Addr×Obj)) (s:Shared) (σ:St) (H:Hp) (Q:VK),Inv X pins σ H s->t σ H Q->wpAny (model X.prog X.w) X.A (eval e X.env) (EP X pins σ Q) X.xe s
def PT (X:Cx) (e:Expr) (t:TT):Prop:=
 ∀ (pins:List (Addr×Obj)) (s:Shared) (σ:St) (H:Hp) (Q:Bool->Hp->Prop),Inv X pins σ H s->t σ H Q->wpAny (model X.prog X.w) X.A (isTrue e X.env (eval e X.env)) (TP X pins σ Q) X.xe s
def PW (X:Cx) (e:Expr) (t:TT):Prop:=
 ∀ (whole:Sem Value) (pins:List (Addr×Obj)) (s:Shared) (σ:St) (H:Hp) (Q:Bool->Hp->Prop),Inv X pins σ H s->t σ H Q->wpAny (model X.prog X.w) X.A (isTrue e X.env whole) (TP X pins σ Q) X.xe s
theorem PW.pt {X:Cx}{e:Expr}{t:TT} (h:PW X e t):PT X e t:=h _
def PA (X:Cx) (es:List Expr) (t:TA):Prop:=
 ∀ (pos:Pos) (pins:List (Addr×Obj)) (s:Shared) (σ:St) (H:Hp) (Q:List V->Hp->Prop),Inv X pins σ H s->t σ H Q->wpAny (model X.prog X.w) X.A (spliced (backTo pos (starEach es X.env))) (AP X pins σ Q) X.xe s
def PS (X:Cx) (st:Stmt) (t:TS):Prop:=
 ∀ (pins:List (Addr×Obj)) (s:Shared) (σ:St) (H:Hp) (D:Ends),Inv X pins σ H s->t D σ H->wpAny (model X.prog X.w) X.A (exec st X.env) (SP X pins D) X.xe s
def PSs (X:Cx) (st:List Stmt) (t:TS):Prop:=
 ∀ (pins:List (Addr×Obj)) (s:Shared) (σ:St) (H:Hp) (D:Ends),Inv X pins σ H s->t D σ H->wpAny (model X.prog X.w) X.A (execs st X.env) (SP X pins D) X.xe s
theorem thn {α:Type}{t:Sem α}{Q Q':α->Shared->Prop}{M:Model}{A:Around}{E:Value->Shared->Prop}{s:Shared} (h:wpAny M A t Q E s) (hQ:∀ a s,Q a s->Q' a s):wpAny M A t Q' E s:=wpAny_mono h hQ λ_ _ x=>x
end L2
namespace L2
open PySem PySem.Spec PyProof.Rows
section
variable {X:Cx}
def tVar (i:Nat):TE:=fun σ H Q=>∃ v,σ[i]?=some (some v)/\Q v H
def tC (v:V):TE:=λ_ H Q=>Q v H
theorem pe_var {i:Nat}{x:Str}{pos:Pos} (hN:X.N[i]?=some x) (hv:Vis X.env.scope x) (hd:(x == ("__debug__" : Str))=false:=by decide) (hcd:(x == ("__classdict__" : Str))=false:=by decide):PE X (.Name x pos) (tVar i):=by
 intro pins s σ H Q I h
 obtain ⟨v,e,h⟩:=h
 obtain ⟨m,hn,hl⟩:=I.loc
 obtain ⟨u,r,l⟩:=hl i x v hN e hv
 have fin:EP X pins σ Q u s:=⟨v,H,I,r,h⟩
 rcases l with ⟨hk,hm⟩ | ⟨hk,c,hc,hcell⟩
 ·exact wpAny_Name (wpAny_loadName_local I.ok.kind hk hn hm fin) hd
 ·rcases hk with hk | hk
  ·exact wpAny_Name (wpAny_loadName_cell I.ok.kind hk hc hcell fin) hd
  ·exact wpAny_Name (wpAny_loadName_free I.ok.kind hk hc hcell fin hcd) hd
theorem yt {i j pos}:PE X (.Constant (.int i) j pos) (tC (.int i)):=λ_ _ _ H _ I h=>wpAny_Constant_int ⟨.int i,H,I.tok _,⟨_,rfl⟩,h⟩
theorem wB {b j pos}:PE X (.Constant (.bool b) j pos) (tC (.bl b)):=λ_ _ _ H _ I h=>Constant_bool ⟨.bl b,H,I,rfl,h⟩
theorem pe_non {j pos}:PE X (.Constant .none j pos) (tC .non):=λ_ _ _ H _ I h=>Constant_none ⟨.non,H,I,rfl,h⟩
theorem pe_str {x j pos}:PE X (.Constant (.str x) j pos) (tC (.str x)):=λ_ _ _ H _ I h=>Calls.Constant_str ⟨.str x,H,I.tok _,⟨_,rfl⟩,h⟩
def Gl (X:Cx) (x:Str):Prop:=X.env.kindOf x=some .globalImplicit
theorem ld_glob {E:Value->Shared->Prop}{pins:List (Addr×Obj)}{s:Shared}{σ:St}{H:Hp}{x:Str}{u:Value}{pos:Pos}{Q:Value->Shared->Prop} (I:Inv X pins σ H s) (hg:Gl X x) (hm:X.mg x=some u) (h:Q u s)
  (hd:(x == ("__debug__" : Str))=false:=by decide):wpAny (model X.prog X.w) X.A (eval (.Name x pos) X.env) Q E s:=
 Calls.Name_function_global I.ok.kind hg (Calls.loadGlobal_global (by rw [I.ok.glob];exact I.mod.glob.keeps I.bk) hm h) hd
theorem ld_blt {E:Value->Shared->Prop}{pins:List (Addr×Obj)}{s:Shared}{σ:St}{H:Hp}{x:Str}{u:Value}{pos:Pos}{Q:Value->Shared->Prop} (I:Inv X pins σ H s) (hg:Gl X x) (hm:X.mg x=none) (hv:bootBuiltins x=some u) (h:Q u s)
  (hn:x ≠ "__name__" := by decide) (hd:(x == ("__debug__" : Str))=false:=by decide):wpAny (model X.prog X.w) X.A (eval (.Name x pos) X.env) Q E s:=by
 obtain ⟨mb,h1,h2⟩:=I.mod.blt
 exact Calls.Name_function_global I.ok.kind hg (Calls.loadGlobal_builtin (by rw [I.ok.glob];exact I.mod.glob.keeps I.bk) hm (by rw [I.ok.blt];exact h1.keeps I.bk) ((h2 x hn).trans hv) h) hd
theorem wP {x:Str}{v:V}{u:Value}{pos:Pos} (hg:Gl X x) (hm:X.mg x=none) (hv:bootBuiltins x=some u) (r:RelV v u) (hn:x ≠ "__name__" := by decide) (hd:(x == ("__debug__" : Str))=false:=by decide):PE X (.Name x pos) (tC v):=
 λ_ _ _ H _ I h=>ld_blt I hg hm hv ⟨v,H,I,r,h⟩ hn hd
variable {a b:Expr}{ta tb:TE}{pos:Pos}
def PC (X:Cx) (op:CmpOp) (a b:Expr) (t:TE):Prop:=
 ∀ (pins:List (Addr×Obj)) (s:Shared) (σ:St) (H:Hp) (Q:VK),Inv X pins σ H s->t σ H Q ->
  wpAny (model X.prog X.w) X.A (eval a X.env) (λv s₁=>wpAny (model X.prog X.w) X.A (eval b X.env) (λu s₂=>wpAny (model X.prog X.w) X.A (compareOp op v u) (EP X pins σ Q) X.xe s₂) X.xe s₁) X.xe s
def tIsN (ta:TE):TE:=fun σ H Q=>ta σ H λx H1=>Q (.bl (decide (x=.non))) H1
theorem RelV.none_iff {x:V}{v:Value} (r:RelV x v):(v == Value.none)=decide (x=.non):=by
 cases x with
 | non=>cases r;rfl
 | bl _=>cases r;rfl
 | int _=>obtain ⟨t,rfl⟩:=r;rfl
 | str _=>obtain ⟨t,rfl⟩:=r;rfl
 | byt _=>obtain ⟨t,rfl⟩:=r;rfl
 | flt _=>obtain ⟨t,rfl⟩:=r;rfl
 | ref _=>cases r;rfl
 | ty _=>cases r;rfl
theorem pc_isN {j pos'} (ha:PE X a ta):PC X .Is a (.Constant .none j pos') (tIsN ta):=by
 intro pins s σ H Q I h
 refine thn (ha pins s σ H _ I h) λv s1 ⟨x,H1,I1,r1,q1⟩=>?_
 exact Constant_none (is_none_gen ⟨.bl _,H1,I1,by rw [r1.none_iff];rfl,q1⟩)
def tB (t:TE):TT:=fun σ H Q=>t σ H λx H1=>∃ c,x=.bl c/\Q c H1
theorem pe_cmp {op:CmpOp}{t:TE} (h:PC X op a b t) (h1:behindInMarks op b=false:=by rfl):PE X (.Compare a [op] [b] pos) t:=λpins s σ H Q I hw=>wpAny_Compare1 (h pins s σ H Q I hw) h1
theorem pt_cmp {op:CmpOp}{t:TE} (h:PC X op a b t) (h1:behindInMarks op b=false:=by rfl):PT X (.Compare a [op] [b] pos) (tB t):=by
 intro pins s σ H Q I hw
 refine wpAny_isTrue_Compare1 (thn (h pins s σ H _ I hw) λv s1 h1=>thn h1 λu s2 h2=>thn h2 λc s3 ⟨x,H1,I1,r1,q1⟩=>?_) h1
 obtain ⟨d,rfl,q⟩:=q1
 cases r1
 exact wpAny_truthy_bool ⟨H1,I1,q⟩
theorem xV {e:Expr}{t:TE} (h:PE X e t) (he:∀ whole,isTrue e X.env whole=(do let v <- whole;standAt e.pos;holding [v] (truthy v)):=by intro _;rfl):PT X e (tB t):=by
 intro pins s σ H Q I hw
 refine isTrue_plain (thn (h pins s σ H _ I hw) λv s1 ⟨x,H1,I1,r1,q1⟩=>?_) (he _)
 obtain ⟨d,rfl,q⟩:=q1
 cases r1
 exact wpAny_truthy_bool ⟨H1,I1,q⟩
variable {tA tB':TT}{rest:List Expr}
def tAnd (t u:TT):TT:=fun σ H Q=>t σ H λc H1=>if c=true then u σ H1 Q else Q false H1
def tOr (t u:TT):TT:=fun σ H Q=>t σ H λc H1=>if c=true then Q true H1 else u σ H1 Q
def tNot (t:TT):TT:=fun σ H Q=>t σ H λc H1=>Q (!c) H1
theorem wC (ha:PT X a tA):PW X (.BoolOp .And [a] pos) tA:=by
 intro wh pins s σ H Q I h
 refine isTrue_and (thn (ha pins s σ H Q I h) λc s1 e=>?_)
 cases c with
 | true=>exact isTrue_and_nil e
 | false=>exact e
theorem wf (ha:PT X a tA):PW X (.BoolOp .Or [a] pos) tA:=by
 intro wh pins s σ H Q I h
 refine isTrue_or (thn (ha pins s σ H Q I h) λc s1 e=>?_)
 cases c with
 | false=>exact isTrue_or_nil e
 | true=>exact e
theorem wI (ha:PT X a tA) (hb:PW X (.BoolOp .And (b::rest) pos) tB'):PW X (.BoolOp .And (a::b::rest) pos) (tAnd tA tB'):=by
 intro wh pins s σ H Q I h
 refine isTrue_and (thn (ha pins s σ H _ I h) λc s1 ⟨H1,I1,q1⟩=>?_)
 cases c with
 | true=>exact hb wh pins s1 σ H1 Q I1 q1
 | false=>exact ⟨H1,I1,q1⟩
theorem pw_or (ha:PT X a tA) (hb:PW X (.BoolOp .Or (b::rest) pos) tB'):PW X (.BoolOp .Or (a::b::rest) pos) (tOr tA tB'):=by
 intro wh pins s σ H Q I h
 refine isTrue_or (thn (ha pins s σ H _ I h) λc s1 ⟨H1,I1,q1⟩=>?_)
 cases c with
 | true=>exact ⟨H1,I1,q1⟩
 | false=>exact hb wh pins s1 σ H1 Q I1 q1
theorem xh (ha:PT X a tA):PT X (.UnaryOp .Not a pos) (tNot tA):=by
 intro pins s σ H Q I h
 exact isTrue_not (ha pins s σ H (λc H1=>Q (!c) H1) I h)
def tAndV (ta tb:TE):TE:=fun σ H Q=>ta σ H λx H1=>∃ c,x=.bl c/\if c=true then tb σ H1 Q else Q (.bl false) H1
def tOrV (ta tb:TE):TE:=fun σ H Q=>ta σ H λx H1=>∃ c,x=.bl c/\if c=true then Q (.bl true) H1 else tb σ H1 Q
def tNotV (ta:TE):TE:=fun σ H Q=>ta σ H λx H1=>∃ c,x=.bl c/\Q (.bl (!c)) H1
theorem pe_one {op}{t:TE} (h:PE X a t):PE X (.BoolOp op [a] pos) t:=λpins s σ H Q I hw=>BoolOp_one (h pins s σ H Q I hw)
theorem wg (ha:PE X a ta) (hb:PE X (.BoolOp .And (b::rest) pos) tb):PE X (.BoolOp .And (a::b::rest) pos) (tAndV ta tb):=by
 intro pins s σ H Q I h
 refine BoolOp_and (thn (ha pins s σ H _ I h) λv s1 ⟨x,H1,I1,r1,q1⟩=>?_)
 obtain ⟨c,rfl,q1⟩:=q1
 cases r1
 refine wpAny_truthy_bool ?_
 cases c with
 | true=>exact hb pins s1 σ H1 Q I1 q1
 | false=>exact ⟨.bl false,H1,I1,rfl,q1⟩
theorem pe_not (ha:PE X a ta):PE X (.UnaryOp .Not a pos) (tNotV ta):=by
 intro pins s σ H Q I h
 refine UnaryOp_ (thn (ha pins s σ H _ I h) λv s1 ⟨x,H1,I1,r1,q1⟩=>?_)
 obtain ⟨c,rfl,q1⟩:=q1
 cases r1
 exact not_of (wpAny_truthy_bool ⟨.bl (!c),H1,I1,rfl,q1⟩)
end
end L2
namespace L2
open PySem PySem.Spec PyProof.Rows
def SqL (K:PySem.W.Frag) (H:Hp) (a:Addr) (xs:List V):Prop:=
 Rd H a (.lst xs) \/
  ∃ (o:Obj) (its:Array Value) (n:Nat),K.lookup a=some o/\o.cls=.type "list" /\ o.dict=none/\o.data=.seq its n/\its.size<=sizeLine/\Vals xs its.toList
def SqT (K:PySem.W.Frag) (H:Hp) (a:Addr) (xs:List V):Prop:=
 Rd H a (.tup xs) \/
  ∃ (o:Obj) (its:Array Value) (n:Nat),K.lookup a=some o/\o.cls=.type "tuple" /\ o.data=.seq its n/\its.size<=sizeLine/\Vals xs its.toList
def absV:Value->Option V
 | .none=>some .non
 | .bool b=>some (.bl b)
 | .int i _=>some (.int i)
 | .str x _=>some (.str x)
 | .bytes b _=>some (.byt b)
 | .float b _=>some (.flt b)
 | .ref a=>some (.ref a)
 | .type n=>some (.ty n)
 | _=>none
theorem RelV.abs {x:V}{u:Value} (r:RelV x u):absV u=some x:=by
 cases x with
 | non=>cases r;rfl
 | bl _=>cases r;rfl
 | int _=>obtain ⟨t,rfl⟩:=r;rfl
 | str _=>obtain ⟨t,rfl⟩:=r;rfl
 | byt _=>obtain ⟨t,rfl⟩:=r;rfl
 | flt _=>obtain ⟨t,rfl⟩:=r;rfl
 | ref _=>cases r;rfl
 | ty _=>cases r;rfl
theorem RelV.inj {x y:V}{u:Value} (r:RelV x u) (q:RelV y u):x=y:=Option.some.inj (r.abs.symm.trans q.abs)
theorem Vals.inj:∀ {xs ys:List V}{us:List Value},Vals xs us->Vals ys us->xs=ys
 | _,_,_,.nil,.nil=>rfl
 | _,_,_,.cons r t,.cons r' t'=>by rw [r.inj r',Vals.inj t t']
section
variable {X:Cx}{pins:List (Addr×Obj)}{σ:St}{H:Hp}{s:Shared}{a:Addr}{xs ys:List V}
theorem SqL.of {K:PySem.W.Frag} (h:H a=some (.lst xs)):SqL K H a xs:=.inl (.inl h)
theorem SqT.of {K:PySem.W.Frag} (h:H a=some (.tup xs)):SqT K H a xs:=.inl (.inl h)
theorem Inv.list (I:Inv X pins σ H s) (h:SqL X.K H a xs):∃ its:List Value,Vals xs its/\PlainL s.heap a its.toArray/\xs.length<=sizeLine:=by
 rcases h with h | ⟨o,its,n,hk,hc,hd,hs,hz,r⟩
 ·obtain ⟨z,its,n,r,e⟩:=h.ok I.hok
  exact ⟨its,r,⟨_,n,e,rfl,rfl,rfl⟩,z⟩
 ·refine ⟨its.toList,r,⟨o,n,I.kIn a o hk,hc,hd,by simpa using hs⟩,?_⟩
  have e:=r.length
  simp only [Array.length_toList] at e
  omega
theorem Inv.tuple (I:Inv X pins σ H s) (h:SqT X.K H a xs):∃ its:List Value,Vals xs its/\IsTup s.heap a its.toArray/\xs.length<=sizeLine:=by
 rcases h with h | ⟨o,its,n,hk,hc,hs,hz,r⟩
 ·obtain ⟨z,its,r,p⟩:=h.ok I.hok
  exact ⟨its,r,p,z.1⟩
 ·refine ⟨its.toList,r,⟨o,I.kIn a o hk,hc,n,by simpa using hs⟩,?_⟩
  have e:=r.length
  simp only [Array.length_toList] at e
  omega
theorem Inv.list_inj (I:Inv X pins σ H s) (h:SqL X.K H a xs) (h':SqL X.K H a ys):xs=ys:=by
 obtain ⟨its,r,⟨o,n,e,_,_,d⟩,_⟩:=I.list h
 obtain ⟨its',r',⟨o',n',e',_,_,d'⟩,_⟩:=I.list h'
 rw [e] at e';cases e'
 rw [d] at d'
 injection d' with d1 _
 have:its=its':=by simpa using congrArg Array.toList d1
 subst this
 exact r.inj r'
theorem Inv.tuple_inj (I:Inv X pins σ H s) (h:SqT X.K H a xs) (h':SqT X.K H a ys):xs=ys:=by
 obtain ⟨its,r,⟨o,e,_,n,d⟩,_⟩:=I.tuple h
 obtain ⟨its',r',⟨o',e',_,n',d'⟩,_⟩:=I.tuple h'
 rw [e] at e';cases e'
 rw [d] at d'
 injection d' with d1 _
 have:its=its':=by simpa using congrArg Array.toList d1
 subst this
 exact r.inj r'
end
abbrev Cx.wish (X:Cx) (E:Value->Shared->Prop):Cx:={ X with xe:=E }
abbrev Cx.nox (X:Cx):Cx:=X.wish λ_ _=>False
theorem Cx.Ok.wish {X:Cx} (ok:X.Ok) (E:Value->Shared->Prop):(X.wish E).Ok:=
 ⟨ok.mod,ok.kind,ok.glob,ok.blt,ok.above,ok.inj,ok.has,ok.cab,ok.hd,ok.frames,ok.stk,ok.exf,ok.bs,ok.bsz,ok.noex,ok.exfs,ok.funs,ok.frf⟩
theorem Cx.Ok.unwish {X:Cx}{E:Value->Shared->Prop} (ok:(X.wish E).Ok):X.Ok:=
 ⟨ok.mod,ok.kind,ok.glob,ok.blt,ok.above,ok.inj,ok.has,ok.cab,ok.hd,ok.frames,ok.stk,ok.exf,ok.bs,ok.bsz,ok.noex,ok.exfs,ok.funs,ok.frf⟩
section
variable {X:Cx}{pins:List (Addr×Obj)}{σ:St}{H:Hp}{s:Shared}{E:Value->Shared->Prop}
theorem Inv.wish (I:Inv X pins σ H s) (E:Value->Shared->Prop):Inv (X.wish E) pins σ H s:=⟨I.ok.wish E,I.os,I.bare,I.base,I.loc,I.cell,I.free,I.freeC,I.pin,I.hok,I.len⟩
theorem Inv.unwish (I:Inv (X.wish E) pins σ H s):Inv X pins σ H s:=⟨I.ok.unwish,I.os,I.bare,I.base,I.loc,I.cell,I.free,I.freeC,I.pin,I.hok,I.len⟩
theorem SP.unwish {D:Ends}{f:Flow}{s':Shared} (h:SP (X.wish E) pins D f s'):SP X pins D f s':=by
 cases f with
 | next=>obtain ⟨σ',H',I,q⟩:=h;exact ⟨σ',H',I.unwish,q⟩
 | brk=>obtain ⟨σ',H',I,q⟩:=h;exact ⟨σ',H',I.unwish,q⟩
 | cont=>obtain ⟨σ',H',I,q⟩:=h;exact ⟨σ',H',I.unwish,q⟩
 | ret u=>obtain ⟨v,σ',H',I,r,q⟩:=h;exact ⟨v,σ',H',I.unwish,r,q⟩
theorem PSs.nox {st:List Stmt}{t:TS} (h:PSs X.nox st t):PSs X st t:=λpins s σ H D I hw=>
 wpAny_mono (h pins s σ H D (I.wish _) hw) (λ_ _ q=>q.unwish) λ_ _ z=>False.elim z
end
section
variable {X:Cx}{st:Stmt}{rest:List Stmt}{t u:TS}{e:Expr}{te:TE}{pos:Pos}
def tNext:TS:=λD σ H=>D.nx σ H
def tSeq (t u:TS):TS:=λD σ H=>t (D.go (u D)) σ H
theorem xO:PSs X [] tNext:=λ_ _ σ H _ I h=>wpAny_execs_nil ⟨σ,H,I,h⟩
theorem pss_cons (h1:PS X st t) (h2:PSs X rest u):PSs X (st::rest) (tSeq t u):=by
 intro pins s σ H D I h
 refine wpAny_execs_cons (thn (h1 pins s σ H (D.go (u D)) I h) λf s1 q=>?_)
 cases f with
 | next=>
  obtain ⟨σ',H',I',q⟩:=q
  exact h2 pins s1 σ' H' D I' q
 | ret v=>exact q
 | brk=>exact q
 | cont=>exact q
theorem pss_one (h1:PS X st t):PSs X [st] t:=by
 intro pins s σ H D I h
 refine wpAny_execs_cons (thn (h1 pins s σ H D I h) λf s1 q=>?_)
 cases f with
 | next=>exact wpAny_execs_nil q
 | ret v=>exact q
 | brk=>exact q
 | cont=>exact q
theorem Inv.quiet {pins:List (Addr×Obj)}{σ:St}{H:Hp}{s:Shared} (I:Inv X pins σ H s):interactive X.env=false:=by simp [interactive,I.ok.kind]
def tDrop (te:TE):TS:=λD σ H=>te σ H λ_ H1=>D.nx σ H1
theorem ps_expr (he:PE X e te) (hs:swapsWith e none pos.line X.env=pure false:=by rfl):PS X (.Expr e pos) (tDrop te):=by
 intro pins s σ H D I h
 exact wpAny_Expr_any (thn (he pins s σ H _ I h) λv s1 ⟨x,H1,I1,r1,q1⟩=>⟨σ,H1,I1,q1⟩) I.quiet hs
def tRet (te:TE):TS:=λD σ H=>te σ H D.rt
theorem xN (he:PE X e te):PS X (.Return (some e) pos) (tRet te):=by
 intro pins s σ H D I h
 exact wpAny_Return_some (thn (he pins s σ H _ I h) λv s1 ⟨x,H1,I1,r1,q1⟩=>⟨x,σ,H1,I1,r1,q1⟩)
def tIfS (c:TT) (t u:TS):TS:=λD σ H=>c σ H λb H1=>if b=true then t D σ H1 else u D σ H1
theorem xW {c:Expr}{a b:List Stmt}{tc:TT} (hc:PT X c tc) (ha:PSs X a t) (hb:PSs X b u):PS X (.If c a b pos) (tIfS tc t u):=by
 intro pins s σ H D I h
 refine wpAny_If (thn (hc pins s σ H _ I h) λd s1 ⟨H1,I1,q1⟩=>?_)
 cases d with
 | true=>exact ha pins s1 σ H1 D I1 q1
 | false=>exact hb pins s1 σ H1 D I1 q1
end
abbrev TG:=V->St->Hp->(St->Hp->Prop)->Prop
abbrev TGs:=List V->St->Hp->(St->Hp->Prop)->Prop
def PG (X:Cx) (target:Expr) (t:TG):Prop:=
 ∀ (pins:List (Addr×Obj)) (s:Shared) (σ:St) (H:Hp) (v:V) (u:Value) (Q:St->Hp->Prop),Inv X pins σ H s->RelV v u->t v σ H Q ->
  wpAny (model X.prog X.w) X.A (assign target X.env u) (λ_ s'=>∃ σ' H',Inv X pins σ' H' s'/\Q σ' H') X.xe s
def PGs (X:Cx) (ts:List Expr) (t:TGs):Prop:=
 ∀ (pins:List (Addr×Obj)) (s:Shared) (σ:St) (H:Hp) (vs:List V) (us:List Value) (Q:St->Hp->Prop),Inv X pins σ H s->Vals vs us->t vs σ H Q ->
  wpAny (model X.prog X.w) X.A (assignInOrder ((assignEach ts X.env).map (·.2)) us) (λ_ s'=>∃ σ' H',Inv X pins σ' H' s'/\Q σ' H') X.xe s
abbrev TSet:=V->V->V->Hp->(Hp->Prop)->Prop
def PSet (X:Cx) (t:TSet):Prop:=
 ∀ (pins:List (Addr×Obj)) (s:Shared) (σ:St) (H:Hp) (o i v:V) (ov iv u:Value) (Q:Hp->Prop),Inv X pins σ H s->RelV o ov->RelV i iv->RelV v u->t o i v H Q ->
  wpAny (model X.prog X.w) X.A (setItem ov iv u) (λ_ s'=>∃ H',Inv X pins σ H' s'/\Q H') X.xe s
abbrev TIp:=V->V->Hp->VK->Prop
def PIp (X:Cx) (op:Operator) (t:TIp):Prop:=
 ∀ (pins:List (Addr×Obj)) (s:Shared) (σ:St) (H:Hp) (x y:V) (v u:Value) (Q:VK),Inv X pins σ H s->RelV x v->RelV y u->t x y H Q ->
  wpAny (model X.prog X.w) X.A (inplaceOp op v u) (EP X pins σ Q) X.xe s
section
variable {X:Cx}{pos:Pos}
def gName (i:Nat):TG:=λv σ H Q=>Q (σ.set i (some v)) H
theorem xA {i:Nat}{x:Str} (hN:X.N.Nodup) (hi:X.N[i]?=some x) (hx:locB X.env.scope x=true) (hf:fnLoc X x=true:=by rfl):PG X (.Name x pos) (gName i):=by
 have hx:=locB_of hx
 intro pins s σ H v u Q I r h
 exact wpAny_assign_Name (store_ok I hN hi hx r (λs' I'=>⟨_,H,I',h⟩) hf)
def gNil:TGs:=λvs σ H Q=>vs=[]/\Q σ H
def gCons (t:TG) (u:TGs):TGs:=λvs σ H Q=>∃ v r,vs=v::r/\t v σ H fun σ' H'=>u r σ' H' Q
theorem xY:PGs X [] gNil:=by
 intro pins s σ H vs us Q I r h
 obtain ⟨e,h⟩:=h
 subst e
 cases r
 exact assignInOrder_nil ⟨σ,H,I,h⟩
theorem xE {e:Expr}{es:List Expr}{t:TG}{u:TGs} (h1:PG X e t) (h2:PGs X es u)
  (hs:(assignEach (e::es) X.env).map (·.2)=assign e X.env::(assignEach es X.env).map (·.2):=by rfl):PGs X (e::es) (gCons t u):=by
 intro pins s σ H vs us Q I r h
 obtain ⟨v,vr,e1,h⟩:=h
 subst e1
 cases r with
 | cons r rr=>
  rw [hs]
  refine assignInOrder_cons (thn (h1 pins s σ H _ _ _ I r h) λ_ s1 ⟨σ1,H1,I1,q1⟩=>?_)
  exact h2 pins s1 σ1 H1 _ _ Q I1 rr q1
def gTup (K:PySem.W.Frag) (n:Nat) (t:TGs):TG:=λv σ H Q=>∃ a xs,v=.ref a/\SqT K H a xs/\xs.length=n/\t xs σ H Q
theorem pg_tup {es:List Expr}{k:Nat}{t:TGs}{n:Nat} (hc:X.calm=true) (h:PGs X es t)
  (hn:(assignEach es X.env).length=n:=by rfl) (hst:(assignEach es X.env).findIdx? (·.1)=none:=by rfl):PG X (.Tuple es k pos) (gTup X.K n t):=by
 intro pins s σ H v u Q I r hw
 obtain ⟨a,xs,e1,hq,hl,hw⟩:=hw
 subst e1
 cases r
 obtain ⟨its,rv,ht,hz⟩:=I.tuple hq
 refine assign_Tuple_tuple (I.ok.hd hc) ht (by simp [hn,<- hl,rv.length]) hst λh' hx=>?_
 have I1:Inv X pins σ H { s with heap:=h' }:=I.kept (t':=s.toks) λb o e=>hx b o (zW (Heap.lt_size e)) e
 exact h pins _ σ H xs _ Q I1 (by simpa using rv) hw
def gSub (to ti:TE) (t:TSet):TG:=λv σ H Q=>to σ H λo H1=>ti σ H1 λi H2=>t o i v H2 λH3=>Q σ H3
theorem pg_sub {o i:Expr}{to ti:TE}{t:TSet} (ho:PE X o to) (hi:PE X i ti) (hs:PSet X t)
  (ha:∀ v,assign (.Subscript o i pos) X.env v=(do
   let ov <- holding [v] (eval o X.env)
   let iv <- holding [v,ov] (eval i X.env)
   standAt pos
   holding [v,ov,iv] (setItem ov iv v)
   release [v,ov,iv] []):=by intro _;rfl):PG X (.Subscript o i pos) (gSub to ti t):=by
 intro pins s σ H v u Q I r h
 rw [ha]
 refine wpAny_bind (wpAny_holding (thn (ho pins s σ H _ I h) λov s1 ⟨x,H1,I1,r1,q1⟩=>?_))
 refine wpAny_bind (wpAny_holding (thn (hi pins s1 σ H1 _ I1 q1) λiv s2 ⟨y,H2,I2,r2,q2⟩=>?_))
 refine wpAny_bind (wpAny_standAt (wpAny_bind (wpAny_holding (thn (hs pins s2 σ H2 x y v ov iv u _ I2 r1 r2 r q2) λ_ s3 ⟨H3,I3,q3⟩=>?_))))
 exact wpAny_release ⟨σ,H3,I3,q3⟩
def tAsg (te:TE) (g:TG):TS:=λD σ H=>te σ H λx H1=>g x σ H1 D.nx
theorem ps_asg {tg e:Expr}{te:TE}{g:TG} (he:PE X e te) (hg:PG X tg g) (hs:swapsWithSole [tg] e pos.line X.env=pure false:=by rfl) (hw:swappedStores [tg] e X.env=pure none:=by rfl)
  (h1:(assignEach [tg] X.env).map (·.2)=[assign tg X.env]:=by rfl):PS X (.Assign [tg] e pos) (tAsg te g):=by
 intro pins s σ H D I h
 refine wpAny_Assign_stores (thn (he pins s σ H _ I h) λv s1 ⟨x,H1,I1,r1,q1⟩=>?_) hs hw
 rw [h1]
 exact thn (hg pins s1 σ H1 x v _ I1 r1 q1) λ_ s2 q=>q
theorem xL {i:Nat}{x:Str}{e:Expr}{te:TE}{pos':Pos} (hN:X.N.Nodup) (hi:X.N[i]?=some x) (hx:locB X.env.scope x=true) (he:PE X e te) (hs:swapsWith e (some (.Name x pos')) pos.line X.env=pure false:=by rfl) (hf:fnLoc X x=true:=by rfl) :
  PS X (.Assign [.Name x pos'] e pos) (tAsg te (gName i)):=by
 have hx:=locB_of hx
 intro pins s σ H D I h
 refine wpAny_Assign_Name (thn (he pins s σ H _ I h) λv s1 ⟨y,H1,I1,r1,q1⟩=>?_) hs
 exact store_ok I1 hN hi hx r1 (λs2 I2=>⟨_,H1,I2,q1⟩) hf
def tAug (i:Nat) (te:TE) (ti:TIp):TS:=λD σ H=>∃ x,σ[i]?=some (some x)/\te σ H λy H1=>ti x y H1 λz H2=>D.nx (σ.set i (some z)) H2
theorem ps_aug {i:Nat}{x:Str}{e:Expr}{te:TE}{op:Operator}{ti:TIp}{pos':Pos} (hN:X.N.Nodup) (hi:X.N[i]?=some x) (hx:locB X.env.scope x=true) (he:PE X e te) (ho:PIp X op ti) (hf:fnLoc X x=true:=by rfl) :
  PS X (.AugAssign (.Name x pos') op e pos) (tAug i te ti):=by
 have hx:=locB_of hx
 intro pins s σ H D I h
 obtain ⟨v,e1,h⟩:=h
 obtain ⟨m,hn,hl⟩:=I.loc
 have vis:Vis X.env.scope x:=by rcases hx with k | k;exact .inl k;exact .inr (.inl k)
 obtain ⟨u,r,l⟩:=hl i x v hi e1 vis
 refine wpAny_AugAssign_Name ?_
 have go:wpAny (model X.prog X.w) X.A (eval e X.env) (λw s₂=>wpAny (model X.prog X.w) X.A (inplaceOp op u w) (λr s₃=>wpAny (model X.prog X.w) X.A (storeName X.env x r) (λ_=>SP X pins D .next) X.xe s₃) X.xe s₂) X.xe s:=by
  refine thn (he pins s σ H _ I h) λw s1 ⟨y,H1,I1,r1,q1⟩=>?_
  refine thn (ho pins s1 σ H1 v y u w _ I1 r r1 q1) λz s2 ⟨zv,H2,I2,r2,q2⟩=>?_
  exact store_ok I2 hN hi hx r2 (λs3 I3=>⟨_,H2,I3,q2⟩) hf
 rcases l with ⟨hk,hm⟩ | ⟨hk,c,hc,hcell⟩
 ·exact wpAny_loadName_local I.ok.kind hk hn hm go
 ·rcases hk with hk | hk
  ·exact wpAny_loadName_cell I.ok.kind hk hc hcell go
  ·rcases hx with k | k
   ·have:X.env.scope.names.lookup x=some .free:=hk
    rw [k] at this;cases this
   ·have:X.env.scope.names.lookup x=some .free:=hk
    rw [k] at this;cases this
def tAugS (to ti te:TE) (tget:V->V->Hp->VK->Prop) (tip:TIp) (tset:TSet):TS:=λD σ H=>to σ H λo H1=>ti σ H1 λi H2=>tget o i H2 λx H3=>te σ H3 λy H4=>tip x y H4 λz H5=>tset o i z H5 λH6=>D.nx σ H6
def PGet (X:Cx) (t:V->V->Hp->VK->Prop):Prop:=
 ∀ (pins:List (Addr×Obj)) (s:Shared) (σ:St) (H:Hp) (o i:V) (ov iv:Value) (Q:VK),Inv X pins σ H s->RelV o ov->RelV i iv->t o i H Q ->
  wpAny (model X.prog X.w) X.A (getItem ov iv) (EP X pins σ Q) X.xe s
theorem ps_augS {o i e:Expr}{to ti te:TE}{tget:V->V->Hp->VK->Prop}{tip:TIp}{tset:TSet}{op:Operator}{tpos:Pos} (ho:PE X o to) (hi:PE X i ti) (hg:PGet X tget) (he:PE X e te) (hp:PIp X op tip) (hs:PSet X tset)
  (ha:∀ ov iv new,augStore i ov iv new=(do holding [new,ov,iv] (setItem ov iv new);release [new,ov,iv] [];pure .next):=by intros;rfl):PS X (.AugAssign (.Subscript o i tpos) op e pos) (tAugS to ti te tget tip tset):=by
 intro pins s σ H D I h
 refine wpAny_AugAssign_SubscriptAny (thn (ho pins s σ H _ I h) λov s1 ⟨x1,H1,I1,r1,q1⟩=>?_) ha
 refine thn (hi pins s1 σ H1 _ I1 q1) λiv s2 ⟨x2,H2,I2,r2,q2⟩=>?_
 refine thn (hg pins s2 σ H2 x1 x2 ov iv _ I2 r1 r2 q2) λold s3 ⟨x3,H3,I3,r3,q3⟩=>?_
 refine thn (he pins s3 σ H3 _ I3 q3) λv s4 ⟨x4,H4,I4,r4,q4⟩=>?_
 refine thn (hp pins s4 σ H4 x3 x4 old v _ I4 r3 r4 q4) λnew s5 ⟨x5,H5,I5,r5,q5⟩=>?_
 exact thn (hs pins s5 σ H5 x1 x2 x5 ov iv new _ I5 r1 r2 r5 q5) λ_ s6 ⟨H6,I6,q6⟩=>⟨σ,H6,I6,q6⟩
def ipI (f:Int->Int->Int):TIp:=λx y H Q=>∃ i j,x=.int i/\y=.int j/\Q (.int (f i j)) H
theorem ip_add:PIp X .Add (ipI λi j=>i + j):=by
 intro pins s σ H x y v u Q I r1 r2 h
 obtain ⟨i,j,e1,e2,q⟩:=h
 subst e1;subst e2
 obtain ⟨t,rfl⟩:=r1
 obtain ⟨t',rfl⟩:=r2
 exact iadd_int ⟨.int _,H,I.tok _,⟨_,rfl⟩,q⟩
end
section
variable {X:Cx}{pos:Pos}
end
structure It where
 go:Nat->Hp->Prop
 yld:Nat->Hp->V->Hp->Prop
 stop:Nat->Hp->Prop
def FpOk (X:Cx) (pins:List (Addr×Obj)) (H:Hp) (b:Addr):Prop:=
 H b=none/\b≠X.env.locals/\b ∉ X.fs/\(b∈X.ex\/X.s₀.heap.objs.size<=b)/\(∀ x c,X.env.cells.lookup x=some c->c≠b)/\∀ p∈X.pn++pins,p.1≠b
theorem Inv.fpOk {X:Cx}{pins:List (Addr×Obj)}{σ:St}{H H':Hp}{s:Shared}{b:Addr} (I:Inv X pins σ H s) (hb:s.heap.objs.size<=b) (hn:H' b=none):FpOk X pins H' b:=by
 refine ⟨hn,yS (zY I.lt hb),I.nofs hb,.inr (zk I.sz hb),λx c e z=>?_,λp hp z=>?_⟩
 ·obtain ⟨v,q⟩:=I.cell x c e
  exact absurd (zY q.lt (by rw [z];exact hb)) (yL _)
 ·exact absurd (zY (Heap.lt_size (I.pin p hp).1) (by rw [z];exact hb)) (yL _)
structure Turn (P:Program) (w:World) (K:PySem.W.Frag) (tg:Expr) (J:It) (fp:List Addr) (it:Addr) (tn:Nat->Heap->Prop):Prop where
 mem:it∈fp
 obj:∀ i h,tn i h->∀ b∈fp,∃ o,h.get? b=some o/\∀ v,o.data≠.cell v
 keep:∀ i h h',tn i h->(∀ b∈fp,∀ o,h.get? b=some o->h'.get? b=some o)->tn i h'
 item:∀ (X:Cx),X.prog=P->X.w=w->X.K=K->X.calm=true->∀ (i:Nat) (pins:List (Addr×Obj)) (s:Shared) (σ:St) (H:Hp) (E:Value->Shared->Prop),Inv X pins σ H s->(∀ b∈fp,FpOk X pins H b)->tn i s.heap->J.go i H ->
  wpAny (model P w) X.A (pyNext (.ref it)) (λr s1=>∃ u,r=some u /\
   wpAny (model P w) X.A (letOwnedTupleGo tg (.ref it) u) (λ_ s2=>∃ x H',Inv X pins σ H' s2/\RelV x u/\J.yld i H x H'/\tn (i + 1) s2.heap/\∀ b∈fp,H' b=none) E s1) E s
 done:∀ (X:Cx),X.prog=P->X.w=w->X.K=K->X.calm=true->∀ (i:Nat) (pins:List (Addr×Obj)) (s:Shared) (σ:St) (H:Hp) (E:Value->Shared->Prop),Inv X pins σ H s->(∀ b∈fp,FpOk X pins H b)->tn i s.heap->J.stop i H ->
  wpAny (model P w) X.A (pyNext (.ref it)) (λr s1=>r=none/\Inv X pins σ H s1) E s
 self:∀ (A:Around) (i:Nat) (s:Shared) (Q:Value->Shared->Prop) (E:Value->Shared->Prop),tn i s.heap->Q (.ref it) s->wpAny (model P w) A (pyIter (.ref it)) Q E s
abbrev TI:=St->Hp->(It->Hp->Prop)->Prop
def PIE (X:Cx) (pins:List (Addr×Obj)) (σ:St) (tg:Expr) (R:It->Hp->Prop) (itv:Value) (s2:Shared):Prop:=
 ∃ (it:Addr) (fp:List Addr) (tn:Nat->Heap->Prop) (J:It) (H':Hp),itv=.ref it/\Inv X pins σ H' s2/\Turn X.prog X.w X.K tg J fp it tn/\tn 0 s2.heap/\(∀ b∈fp,FpOk X pins H' b)/\R J H'
def PI (X:Cx) (tg iter:Expr) (wi:TI):Prop:=
 ∀ (pins:List (Addr×Obj)) (s:Shared) (σ:St) (H:Hp) (R:It->Hp->Prop),Inv X pins σ H s->wi σ H R ->
  wpAny (model X.prog X.w) X.A (eval iter X.env) (λv s1=>wpAny (model X.prog X.w) X.A (pyIter v) (PIE X pins σ tg R) X.xe s1) X.xe s
theorem go_of {M:Model}{A:Around}{E:Value->Shared->Prop}{s:Shared}{tg:Expr}{it:Addr}{u:Value}{o:Obj}{n:String}{vs:Array Value}{Q:Unit->Shared->Prop} (ho:s.heap.get? it=some o) (hc:o.cls=.type n) (hd:o.data=.fields vs)
    (hn:["enumerate", "zip", "dict_itemiterator", "dict_reverseitemiterator", "odict_iterator", "itertools.zip_longest", "itertools.pairwise"].contains n=false) (hQ:Q () s):wpAny M A (letOwnedTupleGo tg (.ref it) u) Q E s:=by
  unfold letOwnedTupleGo
  cases tg <;> first
    | exact wpAny_pure hQ
    | (cases u <;> first
        | exact wpAny_pure hQ
        | (refine wpAny_bind (wpAny_load ho ?_)
           rw [hc,hd]
           show wpAny M A (if (["enumerate", "zip", "dict_itemiterator", "dict_reverseitemiterator", "odict_iterator", "itertools.zip_longest", "itertools.pairwise"].contains n && vs[0]? == some (rawInt _))=true then _ else _) Q E s
           rw [if_neg (by intro h;rw [hn,yE] at h;cases h)]
           exact wpAny_pure hQ))
def Itl (K:PySem.W.Frag) (a:Addr):It:=
 ⟨λi H=>∃ xs x,SqL K H a xs/\xs[i]?=some x,λi H x H'=>H'=H/\∀ xs,SqL K H a xs->xs[i]?=some x,λi H=>∃ xs,SqL K H a xs/\xs.length<=i⟩
def Itt (K:PySem.W.Frag) (a:Addr):It:=
 ⟨λi H=>∃ xs x,SqT K H a xs/\xs[i]?=some x,λi H x H'=>H'=H/\∀ xs,SqT K H a xs->xs[i]?=some x,λi H=>∃ xs,SqT K H a xs/\xs.length<=i⟩
def Itr (lo:Int) (n:Nat):It:=⟨λi _=>i < n,λi H x H'=>H'=H/\x=.int (lo + i),λi _=>n<=i⟩
theorem turn_list {P:Program}{w:World}{K:PySem.W.Frag}{tg:Expr} (a it:Addr):Turn P w K tg (Itl K a) [it] it (λi h=>h.IsListIter it a i) where
 mem:=by simp
 obj:=λi h st b hb=>by
  have e:b=it:=by simpa using hb
  subst e
  obtain ⟨o,e,c,d⟩:=st
  exact ⟨o,e,λv z=>by rw [d] at z;cases z⟩
 keep:=λi h h' st k=>st.at λo e=>k it (by simp) o e
 item:=by
  intro X hP hw hK hc i pins s σ H E I hf st hg
  subst hP hw hK
  obtain ⟨xs,x,hq,hx⟩:=hg
  obtain ⟨its,rv,p,hz⟩:=I.list hq
  obtain ⟨u,hu,ru⟩:=rv.get hx
  obtain ⟨f0,f1,f2,f3,f4,f5⟩:=hf it (by simp)
  refine wpAny_pyNext_list_item st p.isList (x:=u) (by simpa using hu) λh' st' sb=>?_
  have I1:Inv X pins σ H { s with heap:=h' }:=I.turned (t':=s.toks) (λb o hb e=>(sb.2 b hb).trans e) f0 f1 f3 f4 f5
  obtain ⟨o,e,c,d⟩:=id st'
  exact ⟨u,rfl,go_of (s:={ s with heap:=h' }) e c d (by decide) ⟨x,H,I1,ru,⟨rfl,λys hy=>by rw [I.list_inj hy hq];exact hx⟩,st',λb hb=>(hf b hb).1⟩⟩
 done:=by
  intro X hP hw hK hc i pins s σ H E I hf st hg
  subst hP hw hK
  obtain ⟨xs,hq,hx⟩:=hg
  obtain ⟨its,rv,p,hz⟩:=I.list hq
  obtain ⟨f0,f1,f2,f3,f4,f5⟩:=hf it (by simp)
  have hl:=rv.length
  exact wpAny_pyNext_list_end (I.ok.hd hc) st p.isList (by simp;omega) λh' eb=>⟨rfl,I.turned (t':=s.toks) (λb o hb e=>eb b o hb e) f0 f1 f3 f4 f5⟩
 self:=λ_ _ _ _ _ st h=>wpAny_pyIter_listiter st h
theorem turn_tuple {P:Program}{w:World}{K:PySem.W.Frag}{tg:Expr} (a it:Addr):Turn P w K tg (Itt K a) [it] it (λi h=>h.IsTupleIter it a i) where
 mem:=by simp
 obj:=λi h st b hb=>by
  have e:b=it:=by simpa using hb
  subst e
  obtain ⟨o,e,c,d⟩:=st
  exact ⟨o,e,λv z=>by rw [d] at z;cases z⟩
 keep:=λi h h' st k=>st.at λo e=>k it (by simp) o e
 item:=by
  intro X hP hw hK hc i pins s σ H E I hf st hg
  subst hP hw hK
  obtain ⟨xs,x,hq,hx⟩:=hg
  obtain ⟨its,rv,p,hz⟩:=I.tuple hq
  obtain ⟨u,hu,ru⟩:=rv.get hx
  obtain ⟨f0,f1,f2,f3,f4,f5⟩:=hf it (by simp)
  refine wpAny_pyNext_tuple_item st (show s.heap.IsTuple a its.toArray from p) (x:=u) (by simpa using hu) λh' st' sb=>?_
  have I1:Inv X pins σ H { s with heap:=h' }:=I.turned (t':=s.toks) (λb o hb e=>(sb.2 b hb).trans e) f0 f1 f3 f4 f5
  obtain ⟨o,e,c,d⟩:=id st'
  exact ⟨u,rfl,go_of (s:={ s with heap:=h' }) e c d (by decide) ⟨x,H,I1,ru,⟨rfl,λys hy=>by rw [I.tuple_inj hy hq];exact hx⟩,st',λb hb=>(hf b hb).1⟩⟩
 done:=by
  intro X hP hw hK hc i pins s σ H E I hf st hg
  subst hP hw hK
  obtain ⟨xs,hq,hx⟩:=hg
  obtain ⟨its,rv,p,hz⟩:=I.tuple hq
  obtain ⟨f0,f1,f2,f3,f4,f5⟩:=hf it (by simp)
  have hl:=rv.length
  exact wpAny_pyNext_tuple_end (I.ok.hd hc) st (show s.heap.IsTuple a its.toArray from p) (by simp;omega) λh' eb=>⟨rfl,I.turned (t':=s.toks) (λb o hb e=>eb b o hb e) f0 f1 f3 f4 f5⟩
 self:=λ_ _ _ _ _ st h=>wpAny_pyIter_tupleiter st h
theorem turn_range {P:Program}{w:World}{K:PySem.W.Frag}{tg:Expr} (it:Addr) (lo:Int) (n:Nat):Turn P w K tg (Itr lo n) [it] it (λi h=>IsRangeIter h it (lo + (i:Nat) * 1) ((n:Int) - (i:Nat)) 1) where
 mem:=by simp
 obj:=λi h st b hb=>by
  have e:b=it:=by simpa using hb
  subst e
  exact ⟨_,st,λv z=>by
   have z':Data.fields _=Data.cell v:=z
   cases z'⟩
 keep:=λi h h' st k=>k it (by simp) _ st
 item:=by
  intro X hP hw hK hc i pins s σ H E I hf st hg
  subst hP hw hK
  obtain ⟨f0,f1,f2,f3,f4,f5⟩:=hf it (by simp)
  have W:=Walks.range (prog:=X.prog) (w:=X.w) (I.ok.hd hc) it lo 1 n
  refine W.item i s _ _ hg st λv h' tk hv st' kk=>?_
  obtain ⟨t,rfl⟩:=hv
  have I1:Inv X pins σ H { s with heap:=h',toks:=tk }:=I.turned (λb o hb e=>kk b o (by simpa using hb) e) f0 f1 f3 f4 f5
  refine ⟨_,rfl,go_of (s:={ s with heap:=h',toks:=tk }) (n := "range_iterator") st' rfl rfl (by decide) ⟨.int (lo + i),H,I1,⟨t,?_⟩,⟨rfl,rfl⟩,st',λb hb=>(hf b hb).1⟩⟩
  rw [Int.mul_one]
 done:=by
  intro X hP hw hK hc i pins s σ H E I hf st hg
  subst hP hw hK
  obtain ⟨f0,f1,f2,f3,f4,f5⟩:=hf it (by simp)
  exact wpAny_pyNext_range_end (I.ok.hd hc) st (by have:n<=i:=hg;omega) λh' eb=>⟨rfl,I.turned (t':=s.toks) (λb o hb e=>eb b o hb e) f0 f1 f3 f4 f5⟩
 self:=λ_ _ _ _ _ st h=>wpAny_pyIter_rangeiter st h
end L2
namespace L2
open PySem PySem.Spec PyProof.Rows
section
variable {X:Cx}{tg:Expr}
def iList (K:PySem.W.Frag) (tl:TE):TI:=fun σ H R=>tl σ H λx H1=>∃ a,x=.ref a/\(∃ xs,SqL K H1 a xs)/\R (Itl K a) H1
def iTup (K:PySem.W.Frag) (tl:TE):TI:=fun σ H R=>tl σ H λx H1=>∃ a,x=.ref a/\(∃ xs,SqT K H1 a xs)/\R (Itt K a) H1
theorem pi_list {l:Expr}{tl:TE} (hl:PE X l tl):PI X tg l (iList X.K tl):=by
 intro pins s σ H R I h
 refine thn (hl pins s σ H _ I h) λv s1 ⟨x,H1,I1,r1,q1⟩=>?_
 obtain ⟨a,e,⟨xs,hq⟩,q⟩:=q1
 subst e
 cases r1
 obtain ⟨its,rv,p,hz⟩:=I1.list hq
 refine wpAny_pyIter_list p.isList ?_
 refine ⟨s1.heap.objs.size,[s1.heap.objs.size],_,_,H1,rfl,I1.kept (t':=s1.toks) λb o e=>Heap.get?_push_of_some _ e,turn_list a _,⟨_,Heap.get?_push_size _ rfl,rfl,rfl⟩,λb hb=>?_,q⟩
 have e:b=s1.heap.objs.size:=by simpa using hb
 subst e
 exact I1.fpOk (zF _) (I1.hok.fresh (zF _))
theorem pi_tup {l:Expr}{tl:TE} (hl:PE X l tl):PI X tg l (iTup X.K tl):=by
 intro pins s σ H R I h
 refine thn (hl pins s σ H _ I h) λv s1 ⟨x,H1,I1,r1,q1⟩=>?_
 obtain ⟨a,e,⟨xs,hq⟩,q⟩:=q1
 subst e
 cases r1
 obtain ⟨its,rv,p,hz⟩:=I1.tuple hq
 refine wpAny_pyIter_tuple (show s1.heap.IsTuple a its.toArray from p) ?_
 refine ⟨s1.heap.objs.size,[s1.heap.objs.size],_,_,H1,rfl,I1.kept (t':=s1.toks) λb o e=>Heap.get?_push_of_some _ e,turn_tuple a _,⟨_,Heap.get?_push_size _ rfl,rfl,rfl⟩,λb hb=>?_,q⟩
 have e:b=s1.heap.objs.size:=by simpa using hb
 subst e
 exact I1.fpOk (zF _) (I1.hok.fresh (zF _))
theorem range_it {pins:List (Addr×Obj)}{σ:St}{H:Hp}{s:Shared}{R:It->Hp->Prop}{E:Value->Shared->Prop}{lo hi:Int}{t u v:Tok}{tk:Nat} (I:Inv X pins σ H s) (h1:-(2 ^ 62)<=lo) (h2:lo < 2 ^ 62) (h3:-(2 ^ 62)<=hi) (h4:hi < 2 ^ 62)
  (q:R (Itr lo (hi - lo).toNat) H):wpAny (model X.prog X.w) X.A (pyIter (.ref s.heap.objs.size)) (PIE X pins σ tg R) E { s with heap:=s.heap.push { cls:=.type "range", data:=.fields #[.int lo t,.int hi u,.int 1 v] },toks:=tk }:=by
 refine wpAny_pyIter_range (IsRange.new ..) (small_one h1 h2 h3 h4) ?_
 have I1:Inv X pins σ H { s with heap:=s.heap.push { cls:=.type "range", data:=.fields #[.int lo t,.int hi u,.int 1 v] },toks:=tk }:=I.kept λb o e=>Heap.get?_push_of_some _ e
 refine ⟨(s.heap.push { cls:=.type "range", data:=.fields #[.int lo t,.int hi u,.int 1 v] }).objs.size,[(s.heap.push { cls:=.type "range", data:=.fields #[.int lo t,.int hi u,.int 1 v] }).objs.size],_,_,H,rfl,
  I1.kept (t':=tk) λb o e=>Heap.get?_push_of_some _ e,turn_range _ lo (hi - lo).toNat,?_,λb hb=>?_,q⟩
 ·have e1:lo + ((0:Nat):Int) * 1=lo:=by simp
  have e2:(((hi - lo).toNat:Nat):Int) - ((0:Nat):Int)=Builtin.Range.rangeSize lo hi 1:=by rw [rangeSize_one];split <;> omega
  show IsRangeIter _ _ (lo + ((0:Nat):Int) * 1) ((((hi - lo).toNat:Nat):Int) - ((0:Nat):Int)) 1
  rw [e1,e2]
  exact Heap.get?_push_size _ rfl
 ·have e:b=(s.heap.push { cls:=.type "range", data:=.fields #[.int lo t,.int hi u,.int 1 v] }).objs.size:=by simpa using hb
  subst e
  exact I1.fpOk (zF _) (I1.hok.fresh (zF _))
def iRng1 (ta:TA):TI:=fun σ H R=>ta σ H λvs H1=>∃ j:Int,vs=[.int j]/\-(2 ^ 62)<=j/\j < 2 ^ 62/\R (Itr 0 j.toNat) H1
def iRng2 (ta:TA):TI:=fun σ H R=>ta σ H λvs H1=>∃ i j:Int,vs=[.int i,.int j]/\(-(2 ^ 62)<=i/\i < 2 ^ 62/\-(2 ^ 62)<=j/\j < 2 ^ 62)/\R (Itr i (j - i).toNat) H1
theorem xq {a:Expr}{ta:TA}{p pos:Pos} (hg:Gl X "range") (hm:X.mg "range" = none) (ha:PA X [a] ta) (hs:starEach [a] X.env=[(false,eval a X.env)]:=by rfl):PI X tg (.Call (.Name "range" p) [a] [] pos) (iRng1 ta):=by
 intro pins s σ H R I h
 refine Call_ (ld_blt I hg hm boot_range (zy (thn (ha pos pins s σ H _ I h) λus s1 ⟨vs,H1,I1,r1,q1⟩=>?_) hs rfl))
 obtain ⟨j,e,q1,q2,q⟩:=q1
 subst e
 cases r1 with
 | cons r rr=>
  cases rr
  obtain ⟨t,rfl⟩:=r
  exact call_range_1 (range_it I1 (by omega) (by omega) q1 q2 (by simpa using q))
theorem pi_range2 {a b:Expr}{ta:TA}{p pos:Pos} (hg:Gl X "range") (hm:X.mg "range" = none) (ha:PA X [a,b] ta) (hs:starEach [a,b] X.env=[(false,eval a X.env),(false,eval b X.env)]:=by rfl) (hs2:starEach [b] X.env=[(false,eval b X.env)]:=by rfl) :
  PI X tg (.Call (.Name "range" p) [a,b] [] pos) (iRng2 ta):=by
 intro pins s σ H R I h
 refine Call_ (ld_blt I hg hm boot_range (zy (thn (ha pos pins s σ H _ I h) λus s1 ⟨vs,H1,I1,r1,q1⟩=>?_) (by rw [hs,hs2]) (by rw [hs2];rfl)))
 obtain ⟨i,j,e,⟨q1,q2,q3,q4⟩,q⟩:=q1
 subst e
 cases r1 with
 | cons r rr=>
  cases rr with
  | cons r' rr=>
   cases rr
   obtain ⟨t,rfl⟩:=r
   obtain ⟨t',rfl⟩:=r'
   exact call_range_2 (range_it I1 q1 q2 q3 q4 q)
def tFor (wi:TI) (g:TG) (tb:TS):TS:=λD σ H=>wi σ H λJ H1=>∃ W:Nat->Nat->St->Hp->Prop,(∃ m,W 0 m σ H1)/\∀ i m σ H,W i m σ H ->
 (J.stop i H/\D.nx σ H)\/(J.go i H/\∃ N:St->Hp->Prop,(∀ σ' H',N σ' H'->∃ m',m' < m/\W (i + 1) m' σ' H')/\∀ x H',J.yld i H x H'->g x σ H' fun σ2 H2=>tb (D.lp N) σ2 H2)
def pinsAt (fp:List Addr) (h:Heap):List (Addr×Obj):=fp.filterMap λb=>(h.get? b).map λo=>(b,o)
theorem xk {fp:List Addr}{h:Heap}{b:Addr}{o:Obj} (hb:b∈fp) (e:h.get? b=some o):(b,o)∈pinsAt fp h:=ya.mpr ⟨b,hb,by rw [e];rfl⟩
theorem of_pinsAt {fp:List Addr}{h:Heap}{p:Addr×Obj} (hp:p∈pinsAt fp h):p.1∈fp/\h.get? p.1=some p.2:=by
 obtain ⟨b,hb,e⟩:=ya.mp hp
 cases q:h.get? b with
 | none=>rw [q] at e;cases e
 | some o=>
  rw [q] at e
  have e':(b,o)=p:=Option.some.inj e
  subst e'
  exact ⟨hb,q⟩
theorem Inv.pinned {pins:List (Addr×Obj)}{σ:St}{H:Hp}{s:Shared}{fp:List Addr} (I:Inv X pins σ H s) (hf:∀ b∈fp,FpOk X pins H b) (ho:∀ b∈fp,∃ o,s.heap.get? b=some o/\∀ v,o.data≠.cell v):Inv X (pins++pinsAt fp s.heap) σ H s:=
 I.pins_of λp hp=>(zX.mp hp).elim (λz=>I.pin p (zD _ z)) λz=>by
  obtain ⟨hb,e⟩:=of_pinsAt z
  obtain ⟨f0,f1,f2,_⟩:=hf p.1 hb
  obtain ⟨o,e',d⟩:=ho p.1 hb
  rw [e] at e';cases e'
  exact ⟨e,f0,f1,f2,d⟩
theorem Inv.unpinned {pins pl:List (Addr×Obj)}{σ:St}{H:Hp}{s:Shared} (I:Inv X (pins++pl) σ H s):Inv X pins σ H s:=I.pins_of λp hp=>I.pin p (zD _ (zq _ hp))
theorem xm {iter:Expr}{body:List Stmt}{wi:TI}{g:TG}{tb:TS}{pos:Pos} (hp:PassesOwn (model X.prog X.w) X.A X.env X.xe) (hc:X.calm=true) (hi:PI X tg iter wi) (hg:PG X tg g) (hb:PSs X body tb)
  (hs:∀ x,foldedSetIterable iter X.env x=pure x:=by intro _;rfl):PS X (.For tg iter body [] pos) (tFor wi g tb):=by
 intro pins s σ H D I h
 refine wpAny_For (thn (hi pins s σ H _ I h) λv s1 h1=>thn h1 λitv s2 h2=>?_) hs
 obtain ⟨it,fp,tn,J,H2,e,I2,T,st2,f2,W,⟨m0,w0⟩,turn⟩:=h2
 subst e
 -- what stays true of the iterator's objects through the loop
 have stat:∀ {H':Hp},(∀ b∈fp,H' b=none)->∀ b∈fp,FpOk X pins H' b:=λhn b hb=>⟨hn b hb,(f2 b hb).2⟩
 refine codeAny_forLoop_any (λn s'=>∃ i σ' H',Inv X pins σ' H' s'/\tn i s'.heap/\(∀ b∈fp,H' b=none)/\W i n σ' H') ?_ m0 ⟨0,σ,H2,I2,st2,λb hb=>(f2 b hb).1,w0⟩
 rintro n s3 ⟨i,σ3,H3,I3,st3,fr3,w3⟩
 rcases turn i n σ3 H3 w3 with ⟨stop,qn⟩ | ⟨go,N,hN,step⟩
 ·refine wpAny_passesOwn hp (thn (T.done X rfl rfl rfl hc i pins s3 σ3 H3 X.xe I3 (stat fr3) st3 stop) λr s4 ⟨hr,I4⟩=>?_)
  subst hr
  exact wpAny_execs_nil ⟨σ3,H3,I4,qn⟩
 ·refine wpAny_passesOwn hp (thn (T.item X rfl rfl rfl hc i pins s3 σ3 H3 X.xe I3 (stat fr3) st3 go) λr s4 ⟨u,hr,h4⟩=>?_)
  subst hr
  refine wpAny_passesOwn hp (thn h4 λ_ s5 ⟨x,H5,I5,r5,y5,st5,fr5⟩=>?_)
  have I5':=I5.pinned (stat fr5) (T.obj _ _ st5)
  refine wpAny_passesOwn hp (thn (hg _ s5 σ3 H5 x u _ I5' r5 (step x H5 y5)) λ_ s6 ⟨σ6,H6,I6,q6⟩=>?_)
  refine wpAny_passesOwn hp (thn (hb _ s6 σ6 H6 _ I6 q6) λf s7 q7=>?_)
  have again:∀ {σ7:St} {H7:Hp},Inv X (pins++pinsAt fp s5.heap) σ7 H7 s7->N σ7 H7->∃ m,m < n/\∃ i σ' H',Inv X pins σ' H' s7/\tn i s7.heap/\(∀ b∈fp,H' b=none)/\W i m σ' H':=λ{σ7 H7} I7 n7=>by
   obtain ⟨m',hm,w7⟩:=hN σ7 H7 n7
   refine ⟨m',hm,i + 1,σ7,H7,I7.unpinned,T.keep _ _ _ st5 λb hb o e=>(I7.pin (b,o) (zD _ (zD _ (xk hb e)))).1,λb hb=>?_,w7⟩
   obtain ⟨o,e,d⟩:=T.obj _ _ st5 b hb
   exact (I7.pin (b,o) (zD _ (zD _ (xk hb e)))).2.1
  cases f with
  | next=>obtain ⟨σ7,H7,I7,n7⟩:=q7;exact again I7 n7
  | cont=>obtain ⟨σ7,H7,I7,n7⟩:=q7;exact again I7 n7
  | brk=>obtain ⟨σ7,H7,I7,q7⟩:=q7;exact ⟨σ7,H7,I7.unpinned,q7⟩
  | ret v=>obtain ⟨x7,σ7,H7,I7,r7,q7⟩:=q7;exact ⟨x7,σ7,H7,I7.unpinned,r7,q7⟩
end
theorem for_list {K:PySem.W.Frag}{a:Addr}{xs:List V}{g:TG}{tb:TS}{D:Ends}{σ:St}{H:Hp} (Pv:Nat->St->Hp->Prop) (h0:Pv 0 σ H) (hl:∀ i σ H,i<=xs.length->Pv i σ H->SqL K H a xs)
  (hs:∀ i x σ H,xs[i]?=some x->Pv i σ H->g x σ H fun σ2 H2=>tb (D.lp (Pv (i + 1))) σ2 H2) (hd:∀ σ H,Pv xs.length σ H->D.nx σ H) :
  ∃ W:Nat->Nat->St->Hp->Prop,(∃ m,W 0 m σ H)/\∀ i m σ H,W i m σ H ->
   ((Itl K a).stop i H/\D.nx σ H)\/((Itl K a).go i H/\∃ N:St->Hp->Prop,(∀ σ' H',N σ' H'->∃ m',m' < m/\W (i + 1) m' σ' H')/\∀ x H',(Itl K a).yld i H x H'->g x σ H' fun σ2 H2=>tb (D.lp N) σ2 H2):=by
 refine ⟨λi m σ H=>m=xs.length - i/\i<=xs.length/\Pv i σ H,⟨xs.length,by simp,za _,h0⟩,?_⟩
 rintro i m σ H ⟨rfl,hi,p⟩
 have q:=hl i σ H hi p
 by_cases hlt:i < xs.length
 ·refine .inr ⟨⟨xs,xs[i],q,by simp [hlt]⟩,Pv (i + 1),fun σ' H' p'=>⟨xs.length - (i + 1),by omega,rfl,hlt,p'⟩,λx H' y=>?_⟩
  obtain ⟨e,y⟩:=y
  subst e
  exact hs i x σ _ (y xs q) p
 ·have e:i=xs.length:=by omega
  subst e
  exact .inl ⟨⟨xs,q,zF _⟩,hd σ H p⟩
theorem xy {lo:Int}{n:Nat}{g:TG}{tb:TS}{D:Ends}{σ:St}{H:Hp} (Pv:Nat->St->Hp->Prop) (h0:Pv 0 σ H)
  (hs:∀ i σ H,i < n->Pv i σ H->g (.int (lo + i)) σ H fun σ2 H2=>tb (D.lp (Pv (i + 1))) σ2 H2) (hd:∀ σ H,Pv n σ H->D.nx σ H) :
  ∃ W:Nat->Nat->St->Hp->Prop,(∃ m,W 0 m σ H)/\∀ i m σ H,W i m σ H ->
   ((Itr lo n).stop i H/\D.nx σ H)\/((Itr lo n).go i H/\∃ N:St->Hp->Prop,(∀ σ' H',N σ' H'->∃ m',m' < m/\W (i + 1) m' σ' H')/\∀ x H',(Itr lo n).yld i H x H'->g x σ H' fun σ2 H2=>tb (D.lp N) σ2 H2):=by
 refine ⟨λi m σ H=>m=n - i/\i<=n/\Pv i σ H,⟨n,by simp,za _,h0⟩,?_⟩
 rintro i m σ H ⟨rfl,hi,p⟩
 by_cases hlt:i < n
 ·refine .inr ⟨hlt,Pv (i + 1),fun σ' H' p'=>⟨n - (i + 1),by omega,rfl,hlt,p'⟩,λx H' y=>?_⟩
  obtain ⟨e,y⟩:=y
  subst e y
  exact hs i σ _ hlt p
 ·have e:i=n:=by omega
  subst e
  exact .inl ⟨zF _,hd σ H p⟩
end L2
namespace L2
open PySem PySem.Spec PyProof.Rows
abbrev R2:=V->V->Hp->VK->Prop
def OpR (X:Cx) (f:Value->Value->Sem Value) (r:R2):Prop:=
 ∀ (pins:List (Addr×Obj)) (s:Shared) (σ:St) (H:Hp) (x y:V) (v u:Value) (Q:VK),Inv X pins σ H s->RelV x v->RelV y u->r x y H Q ->
  wpAny (model X.prog X.w) X.A (f v u) (EP X pins σ Q) X.xe s
def UnR (X:Cx) (f:Value->Sem Value) (r:V->Hp->VK->Prop):Prop:=
 ∀ (pins:List (Addr×Obj)) (s:Shared) (σ:St) (H:Hp) (x:V) (v:Value) (Q:VK),Inv X pins σ H s->RelV x v->r x H Q ->
  wpAny (model X.prog X.w) X.A (f v) (EP X pins σ Q) X.xe s
def CallR (X:Cx) (f:Value) (r:List V->Hp->VK->Prop):Prop:=
 ∀ (pins:List (Addr×Obj)) (s:Shared) (σ:St) (H:Hp) (xs:List V) (us:List Value) (Q:VK),Inv X pins σ H s->Vals xs us->r xs H Q ->
  wpAny (model X.prog X.w) X.A (call f us) (EP X pins σ Q) X.xe s
def tOp (r:R2) (ta tb:TE):TE:=fun σ H Q=>ta σ H λx H1=>tb σ H1 λy H2=>r x y H2 Q
def tUn (r:V->Hp->VK->Prop) (ta:TE):TE:=fun σ H Q=>ta σ H λx H1=>r x H1 Q
def rI (C:Int->Int->Prop) (g:Int->Int->V):R2:=λx y H Q=>∃ i j,x=.int i/\y=.int j/\C i j/\Q (g i j) H
def rI0 (g:Int->Int->V):R2:=λx y H Q=>∃ i j,x=.int i/\y=.int j/\Q (g i j) H
def rU (g:Int->V):V->Hp->VK->Prop:=λx H Q=>∃ i,x=.int i/\Q (g i) H
section
variable {X:Cx}{a b c:Expr}{ta tb tc:TE}{pos:Pos}
theorem binT (ha:PE X a ta) (hb:PE X b tb) {pins:List (Addr×Obj)}{s:Shared}{σ:St}{H:Hp}{R:V->V->Hp->Prop} (I:Inv X pins σ H s)
  (h:ta σ H λx H1=>tb σ H1 λy H2=>R x y H2) {Q:Value->Shared->Prop}{f:Value->Value->Sem Value}
  (hf:∀ v u s2 x y H2,Inv X pins σ H2 s2->RelV x v->RelV y u->R x y H2->wpAny (model X.prog X.w) X.A (f v u) Q X.xe s2) :
  wpAny (model X.prog X.w) X.A (eval a X.env) (λv s₁=>wpAny (model X.prog X.w) X.A (eval b X.env) (λu s₂=>wpAny (model X.prog X.w) X.A (f v u) Q X.xe s₂) X.xe s₁) X.xe s:=by
 refine thn (ha pins s σ H _ I h) λv s1 ⟨x,H1,I1,r1,q1⟩=>?_
 refine thn (hb pins s1 σ H1 _ I1 q1) λu s2 ⟨y,H2,I2,r2,q2⟩=>?_
 exact hf v u s2 x y H2 I2 r1 r2 q2
theorem xM {op:Operator}{r:R2} (ho:OpR X (binaryOp op) r) (ha:PE X a ta) (hb:PE X b tb):PE X (.BinOp a op b pos) (tOp r ta tb):=by
 intro pins s σ H Q I h
 exact wpAny_BinOp (binT ha hb I h λv u s2 x y H2 I2 rx ry q=>ho pins s2 σ H2 x y v u Q I2 rx ry q)
theorem pe_un {op:UnaryOp}{r:V->Hp->VK->Prop} (ho:UnR X (unaryOp op) r) (ha:PE X a ta):PE X (.UnaryOp op a pos) (tUn r ta):=by
 intro pins s σ H Q I h
 exact UnaryOp_ (thn (ha pins s σ H _ I h) λv s1 ⟨x,H1,I1,r1,q1⟩=>ho pins s1 σ H1 x v Q I1 r1 q1)
theorem opI {f:Value->Value->Sem Value}{C:Int->Int->Prop}{g:Int->Int->Int}
  (rule:∀ (i j:Int) (t u:Tok) (s:Shared) (Q:Value->Shared->Prop) (E:Value->Shared->Prop),C i j->Q (.int (g i j) s.toks) { s with toks:=s.toks + 1 }->wpAny (model X.prog X.w) X.A (f (.int i t) (.int j u)) Q E s) :
  OpR X f (rI C λi j=>.int (g i j)):=by
 intro pins s σ H x y v u Q I rx ry h
 obtain ⟨i,j,rfl,rfl,hc,q⟩:=h
 obtain ⟨t,rfl⟩:=rx
 obtain ⟨t',rfl⟩:=ry
 exact rule i j t t' s _ _ hc ⟨.int (g i j),H,I.tok _,⟨_,rfl⟩,q⟩
theorem opI0 {f:Value->Value->Sem Value}{g:Int->Int->Int}
  (rule:∀ (i j:Int) (t u:Tok) (s:Shared) (Q:Value->Shared->Prop) (E:Value->Shared->Prop),Q (.int (g i j) s.toks) { s with toks:=s.toks + 1 }->wpAny (model X.prog X.w) X.A (f (.int i t) (.int j u)) Q E s) :
  OpR X f (rI0 λi j=>.int (g i j)):=by
 intro pins s σ H x y v u Q I rx ry h
 obtain ⟨i,j,rfl,rfl,q⟩:=h
 obtain ⟨t,rfl⟩:=rx
 obtain ⟨t',rfl⟩:=ry
 exact rule i j t t' s _ _ ⟨.int (g i j),H,I.tok _,⟨_,rfl⟩,q⟩
theorem opB0 {f:Value->Value->Sem Value}{g:Int->Int->Bool}
  (rule:∀ (i j:Int) (t u:Tok) (s:Shared) (Q:Value->Shared->Prop) (E:Value->Shared->Prop),Q (.bool (g i j)) s->wpAny (model X.prog X.w) X.A (f (.int i t) (.int j u)) Q E s) :
  OpR X f (rI0 λi j=>.bl (g i j)):=by
 intro pins s σ H x y v u Q I rx ry h
 obtain ⟨i,j,rfl,rfl,q⟩:=h
 obtain ⟨t,rfl⟩:=rx
 obtain ⟨t',rfl⟩:=ry
 exact rule i j t t' s _ _ ⟨.bl (g i j),H,I,rfl,q⟩
def CPow (i j:Int):Prop:=0<=j/\j<=1000000/\i.natAbs < 2 ^ 64
def CMul (i j:Int):Prop:=(-(2 ^ 64) < i/\i < 2 ^ 64)\/(-(2 ^ 64) < j/\j < 2 ^ 64)
theorem CMul.ok {i j:Int} (h:CMul i j):IntMulOk i j:=by
 rcases h with ⟨h1,h2⟩ | ⟨h1,h2⟩
 ·exact .of_left (intBits_le_64 h1 h2)
 ·exact .of_right (intBits_le_64 h1 h2)
theorem xU:OpR X (binaryOp .Add) (rI0 λi j=>.int (i + j)):=opI0 λ_ _ _ _ _ _ _ q=>add_int q
theorem op_sub:OpR X (binaryOp .Sub) (rI0 λi j=>.int (i - j)):=opI0 λ_ _ _ _ _ _ _ q=>sub_int q
theorem op_mul:OpR X (binaryOp .Mult) (rI CMul λi j=>.int (i * j)):=opI λ_ _ _ _ _ _ _ hc q=>mul_int q hc.ok
theorem wj:OpR X (binaryOp .Mod) (rI (λ_ j=>0 < j) λi j=>.int (i % j)):=opI λi j _ _ _ _ _ hc q=>by
 have h1:(0:Int) < j:=hc
 exact mod_int' (by omega) (by rw [Int.fmod_eq_emod_of_nonneg i (by omega)];exact q)
theorem op_pow:OpR X (binaryOp .Pow) (rI CPow λi j=>.int (i ^ j.toNat)):=opI λ_ _ _ _ _ _ _ hc q=>pow_int_small hc.1 hc.2.1 hc.2.2 q
theorem op_xor:OpR X (binaryOp .BitXor) (rI0 λi j=>.int (Builtin.bitXor i j)):=opI0 λ_ _ _ _ _ _ _ q=>xor_int q
theorem unI {f:Value->Sem Value}{g:Int->Int}
  (rule:∀ (i:Int) (t:Tok) (s:Shared) (Q:Value->Shared->Prop) (E:Value->Shared->Prop),Q (.int (g i) s.toks) { s with toks:=s.toks + 1 }->wpAny (model X.prog X.w) X.A (f (.int i t)) Q E s) :
  UnR X f (rU λi=>.int (g i)):=by
 intro pins s σ H x v Q I rx h
 obtain ⟨i,rfl,q⟩:=h
 obtain ⟨t,rfl⟩:=rx
 exact rule i t s _ _ ⟨.int (g i),H,I.tok _,⟨_,rfl⟩,q⟩
theorem un_neg:UnR X (unaryOp .USub) (rU λi=>.int (-i)):=unI λ_ _ _ _ _ q=>neg_int q
end
def scal:V->V->Bool
 | .non,.non=>true | .non,.int _=>true | .int _,.non=>true | .non,.bl _=>true | .bl _,.non=>true | .non,.str _=>true | .str _,.non=>true
 | .int _,.int _=>true | .bl _,.bl _=>true | .str _,.str _=>true | .byt _,.byt _=>true
 | .int _,.str _=>true | .str _,.int _=>true | .bl _,.str _=>true | .str _,.bl _=>true
 | _,_=>false
def rEq:R2:=λx y H Q=>scal x y=true/\Q (.bl (decide (x=y))) H
def rNe:R2:=λx y H Q=>scal x y=true/\Q (.bl (!decide (x=y))) H
theorem dec_int {i j:Int}:decide (V.int i=V.int j)=(i == j):=by
 rw [Bool.eq_iff_iff]
 simp
theorem dec_bl {i j:Bool}:decide (V.bl i=V.bl j)=(i == j):=by
 rw [Bool.eq_iff_iff]
 simp
theorem dec_str {i j:Str}:decide (V.str i=V.str j)=(i == j):=by
 rw [Bool.eq_iff_iff]
 simp
theorem dec_byt {i j:Array UInt8}:decide (V.byt i=V.byt j)=(i.toList == j.toList):=by
 rw [Bool.eq_iff_iff]
 cases i
 cases j
 simp
section
variable {X:Cx}{a b c:Expr}{ta tb tc:TE}{pos:Pos}
theorem xg {pins:List (Addr×Obj)}{σ:St}{H:Hp}{s:Shared}{Q:VK}{k k':Bool} (I:Inv X pins σ H s) (q:Q (.bl k) H) (e:k=k'):EP X pins σ Q (.bool k') s:=by
 subst e
 exact ⟨.bl k,H,I,rfl,q⟩
theorem xw:OpR X (compareOp .Eq) rEq:=by
 intro pins s σ H x y v u Q I rx ry h
 obtain ⟨hs,q⟩:=h
 cases x with
 | non=>
  cases rx
  cases y with
  | non=>cases ry;exact PySem.EqNone.eq_none_none (xg I q (by simp))
  | bl j=>cases ry;exact PySem.EqNone.eq_none_bool (xg I q (by simp))
  | int j=>obtain ⟨t',rfl⟩:=ry;exact PySem.EqNone.eq_none_int (xg I q (by simp))
  | str j=>obtain ⟨t',rfl⟩:=ry;exact PySem.EqNone.eq_none_str (xg I q (by simp))
  | _=>exact absurd (show false=true from hs) zO
 | bl i=>
  cases rx
  cases y with
  | non=>cases ry;exact PySem.EqNone.eq_bool_none (xg I q (by simp))
  | bl j=>cases ry;exact eq_bool (xg I q dec_bl)
  | str j=>obtain ⟨t',rfl⟩:=ry;exact PySem.EqMixed.eq_bool_str (xg I q (by simp))
  | _=>exact absurd (show false=true from hs) zO
 | int i=>
  obtain ⟨t,rfl⟩:=rx
  cases y with
  | non=>cases ry;exact PySem.EqNone.eq_int_none (xg I q (by simp))
  | int j=>obtain ⟨t',rfl⟩:=ry;exact eq_int (xg I q dec_int)
  | str j=>obtain ⟨t',rfl⟩:=ry;exact PySem.EqMixed.eq_int_str (xg I q (by simp))
  | _=>exact absurd (show false=true from hs) zO
 | str i=>
  obtain ⟨t,rfl⟩:=rx
  cases y with
  | non=>cases ry;exact PySem.EqNone.eq_str_none (xg I q (by simp))
  | bl j=>cases ry;exact PySem.EqMixed.eq_str_bool (xg I q (by simp))
  | int j=>obtain ⟨t',rfl⟩:=ry;exact PySem.EqMixed.eq_str_int (xg I q (by simp))
  | str j=>obtain ⟨t',rfl⟩:=ry;exact eq_str (xg I q dec_str)
  | _=>exact absurd (show false=true from hs) zO
 | byt i=>
  obtain ⟨t,rfl⟩:=rx
  cases y with
  | byt j=>obtain ⟨t',rfl⟩:=ry;exact PySem.W.eq_bytes (xg I q dec_byt)
  | _=>exact absurd (show false=true from hs) zO
 | _=>cases y <;> exact absurd (show false=true from hs) zO
theorem op_ne:OpR X (compareOp .NotEq) rNe:=by
 intro pins s σ H x y v u Q I rx ry h
 obtain ⟨hs,q⟩:=h
 cases x with
 | non=>
  cases rx
  cases y with
  | non=>cases ry;exact PySem.EqNone.ne_none_none (xg I q (by simp))
  | bl j=>cases ry;exact PySem.EqNone.ne_none_bool (xg I q (by simp))
  | int j=>obtain ⟨t',rfl⟩:=ry;exact PySem.EqNone.ne_none_int (xg I q (by simp))
  | str j=>obtain ⟨t',rfl⟩:=ry;exact PySem.EqNone.ne_none_str (xg I q (by simp))
  | _=>exact absurd (show false=true from hs) zO
 | bl i=>
  cases rx
  cases y with
  | non=>cases ry;exact PySem.EqNone.ne_bool_none (xg I q (by simp))
  | bl j=>cases ry;exact ne_bool (xg I q (congrArg not dec_bl))
  | str j=>obtain ⟨t',rfl⟩:=ry;exact PySem.EqMixed.ne_bool_str (xg I q (by simp))
  | _=>exact absurd (show false=true from hs) zO
 | int i=>
  obtain ⟨t,rfl⟩:=rx
  cases y with
  | non=>cases ry;exact PySem.EqNone.ne_int_none (xg I q (by simp))
  | int j=>obtain ⟨t',rfl⟩:=ry;exact ne_int (xg I q (congrArg not dec_int))
  | str j=>obtain ⟨t',rfl⟩:=ry;exact PySem.EqMixed.ne_int_str (xg I q (by simp))
  | _=>exact absurd (show false=true from hs) zO
 | str i=>
  obtain ⟨t,rfl⟩:=rx
  cases y with
  | non=>cases ry;exact PySem.EqNone.ne_str_none (xg I q (by simp))
  | bl j=>cases ry;exact PySem.EqMixed.ne_str_bool (xg I q (by simp))
  | int j=>obtain ⟨t',rfl⟩:=ry;exact PySem.EqMixed.ne_str_int (xg I q (by simp))
  | str j=>obtain ⟨t',rfl⟩:=ry;exact ne_str (xg I q (congrArg not dec_str))
  | _=>exact absurd (show false=true from hs) zO
 | byt i=>
  obtain ⟨t,rfl⟩:=rx
  cases y with
  | byt j=>obtain ⟨t',rfl⟩:=ry;exact PySem.W.ne_bytes (xg I q (congrArg not dec_byt))
  | _=>exact absurd (show false=true from hs) zO
 | _=>cases y <;> exact absurd (show false=true from hs) zO
theorem op_lt:OpR X (compareOp .Lt) (rI0 λi j=>.bl (decide (i < j))):=opB0 λ_ _ _ _ _ _ _ q=>lt_int q
theorem op_le:OpR X (compareOp .LtE) (rI0 λi j=>.bl (decide (i<=j))):=opB0 λ_ _ _ _ _ _ _ q=>le_int q
theorem op_gt:OpR X (compareOp .Gt) (rI0 λi j=>.bl (decide (j < i))):=opB0 λ_ _ _ _ _ _ _ q=>gt_int q
theorem op_ge:OpR X (compareOp .GtE) (rI0 λi j=>.bl (decide (j<=i))):=opB0 λ_ _ _ _ _ _ _ q=>ge_int q
theorem nomark (b:Expr) {op:CmpOp} (h:op≠.In:=by decide) (h2:op≠.NotIn:=by decide):behindInMarks op b=false:=by
 have e1:(op == CmpOp.In)=false:=by cases op <;> first | rfl | exact absurd rfl h
 have e2:(op == CmpOp.NotIn)=false:=by cases op <;> first | rfl | exact absurd rfl h2
 cases b <;> simp [behindInMarks,e1,e2]
theorem wD {op:CmpOp}{r:R2} (ho:OpR X (compareOp op) r) (ha:PE X a ta) (hb:PE X b tb) (hm:behindInMarks op b=false):PE X (.Compare a [op] [b] pos) (tOp r ta tb):=by
 intro pins s σ H Q I h
 exact wpAny_Compare1 (binT ha hb I h λv u s2 x y H2 I2 rx ry q=>ho pins s2 σ H2 x y v u Q I2 rx ry q) hm
def tTest (t:TE):TT:=fun σ H Q=>t σ H λx H'=>∃ k,x=.bl k/\Q k H'
theorem xP {op:CmpOp}{r:R2} (ho:OpR X (compareOp op) r) (ha:PE X a ta) (hb:PE X b tb) (hm:behindInMarks op b=false):PT X (.Compare a [op] [b] pos) (tTest (tOp r ta tb)):=by
 intro pins s σ H Q I h
 refine wpAny_isTrue_Compare1 (thn (ha pins s σ H _ I h) λv s1 ⟨x,H1,I1,r1,q1⟩=>thn (hb pins s1 σ H1 _ I1 q1) λu s2 ⟨y,H2,I2,r2,q2⟩=>
  thn (ho pins s2 σ H2 x y v u _ I2 r1 r2 q2) λc s3 ⟨z,H3,I3,r3,k,e,q3⟩=>?_) hm
 subst e
 cases r3
 exact wpAny_truthy_bool ⟨H3,I3,q3⟩
def tChain (r r':R2) (ta tb tc:TE):TE:=fun σ H Q=>ta σ H λx H1=>tb σ H1 λy H2=>r x y H2 λz H3=>∃ k,z=.bl k /\
 (if k=true then tc σ H3 λw' H4=>r' y w' H4 Q else Q (.bl false) H3)
theorem pe_chain {op op':CmpOp}{r r':R2} (ho:OpR X (compareOp op) r) (ho':OpR X (compareOp op') r') (ha:PE X a ta) (hb:PE X b tb) (hc:PE X c tc)
  (hm:lastMarks [op,op'] [b,c]=false:=by with_unfolding_all rfl):PE X (.Compare a [op,op'] [b,c] pos) (tChain r r' ta tb tc):=by
 intro pins s σ H Q I h
 refine Compare_chain (thn (ha pins s σ H _ I h) λv s1 ⟨x,H1,I1,r1,q1⟩=>chain_link (thn (hb pins s1 σ H1 _ I1 q1) λu s2 ⟨y,H2,I2,r2,q2⟩=>
  thn (ho pins s2 σ H2 x y v u _ I2 r1 r2 q2) λd s3 ⟨z,H3,I3,r3,k,e,q3⟩=>?_)) hm
 subst e
 cases r3
 refine wpAny_truthy_bool ?_
 cases k with
 | false=>exact ite_ff ⟨.bl false,H3,I3,rfl,q3⟩
 | true=>exact ite_tt (chain_last (thn (hc pins s3 σ H3 _ I3 q3) λw' s4 ⟨z',H4,I4,r4,q4⟩=>ho' pins s4 σ H4 y z' u w' Q I4 r2 r4 q4))
theorem line63:(sizeLine:Nat) < 2 ^ 63:=by rw [sizeLine_eq];decide
theorem vals1 {x:V}{us:List Value} (r:Vals [x] us):∃ u,us=[u]/\RelV x u:=by
 cases r with
 | cons r1 r2=>cases r2;exact ⟨_,rfl,r1⟩
theorem vals2 {x y:V}{us:List Value} (r:Vals [x,y] us):∃ u w',us=[u,w']/\RelV x u/\RelV y w':=by
 cases r with
 | cons r1 r2=>
  cases r2 with
  | cons r3 r4=>cases r4;exact ⟨_,_,rfl,r1,r3⟩
theorem call_max2 (hc:X.calm=true):CallR X (.builtin "max") (λxs H Q=>∃ i j,xs=[.int i,.int j]/\Q (.int (if j > i then j else i)) H):=by
 intro pins s σ H xs us Q I r h
 obtain ⟨i,j,rfl,q⟩:=h
 obtain ⟨u,w',rfl,⟨t,rfl⟩,⟨t',rfl⟩⟩:=vals2 r
 refine max_two_ints (I.ok.hd hc) λh' tk k=>⟨_,H,I.kept k,?_,q⟩
 by_cases hj:j > i
 ·rw [if_pos hj,if_pos hj];exact ⟨_,rfl⟩
 ·rw [if_neg hj,if_neg hj];exact ⟨_,rfl⟩
theorem call_min2 (hc:X.calm=true):CallR X (.builtin "min") (λxs H Q=>∃ i j,xs=[.int i,.int j]/\Q (.int (if j < i then j else i)) H):=by
 intro pins s σ H xs us Q I r h
 obtain ⟨i,j,rfl,q⟩:=h
 obtain ⟨u,w',rfl,⟨t,rfl⟩,⟨t',rfl⟩⟩:=vals2 r
 refine min_two_ints (I.ok.hd hc) λh' tk k=>⟨_,H,I.kept k,?_,q⟩
 by_cases hj:j < i
 ·rw [if_pos hj,if_pos hj];exact ⟨_,rfl⟩
 ·rw [if_neg hj,if_neg hj];exact ⟨_,rfl⟩
theorem call_int1:CallR X (.type "int") (λxs H Q=>(∃ i,xs=[.int i]/\Q (.int i) H)\/∃ k,xs=[.bl k]/\Q (.int (if k then 1 else 0)) H):=by
 intro pins s σ H xs us Q I r h
 rcases h with ⟨i,rfl,q⟩ | ⟨k,rfl,q⟩
 ·obtain ⟨u,rfl,t,rfl⟩:=vals1 r
  exact call_int_int ⟨.int i,H,I,⟨_,rfl⟩,q⟩
 ·obtain ⟨u,rfl,r1⟩:=vals1 r
  cases r1
  exact call_int_bool ⟨.int (if k then 1 else 0),H,I.tok _,⟨_,rfl⟩,q⟩
end
end L2
namespace L2
open PySem PySem.Spec PyProof.Rows
structure ObjM (h:Heap) (x dx C:Addr) (mA:Str->Option Value):Prop where
 obj:h.get? x=some (PySem.W.instObj C dx)
 ns:h.Ns1 dx mA
 ne:dx≠x
theorem lookIn_ns {h:Heap}{dx:Addr}{mA:Str->Option Value} (n:h.Ns1 dx mA):∃ od,h.get? dx=some od/\∀ name,PySem.W.lookIn name od=some (mA name):=by
 obtain ⟨o,es,ep,ho,hd,hk,_,hm⟩:=n
 refine ⟨o,ho,λname=>?_⟩
 have e:=hm name
 unfold nsFind findBy at e
 rw [<-Array.find?_toList] at e
 unfold PySem.W.lookIn
 rw [hd]
 dsimp only
 split
 ·rename_i y q
  rw [q] at e
  exact congrArg some e
 ·rename_i q
  rw [q] at e
  have a:es.toList.any (·.refKey)=false:=by
   rw [List.any_eq_false]
   intro y hy
   obtain ⟨z,t,hkey⟩:=hk y (Array.mem_toList_iff.mp hy)
   simp [DictEntry.refKey,hkey]
  have a':¬ es.toList.any (·.refKey)=true:=by rw [a];exact zO
  rw [if_neg a']
  exact congrArg some e
theorem ObjM.look {h:Heap}{x dx C:Addr}{mA:Str->Option Value} (I:ObjM h x dx C mA):∃ od,PySem.W.InstAt h x (PySem.W.instObj C dx) C (some od)/\∀ name,PySem.W.lookIn name od=some (mA name):=
 let ⟨od,ho,hl⟩:=lookIn_ns I.ns
 ⟨od,⟨I.obj,rfl,rfl,ho⟩,hl⟩
section
variable {prog:Program}{w:World}{A:Around}{E:Value->Shared->Prop}{s:Shared}{K:PySem.W.Frag}{x dx C f:Addr}{mA:Str->Option Value}{name:Str}{v:Value}
end
section
variable {P:Program}{w:World}{H H':Hp}{h h':Heap}{a C dx:Addr}{fs fs':List (Str×V)}
theorem ins_get (hok:HOk P w H h) (e:H a=some (.ins C dx fs)):∃ mA,ObjM h a dx C mA/\(∀ f,RelO (fs.lookup f) (mA f))/\PySem.Within mA (fs.map (·.1))/\fs.length<=1000/\H dx=some (.own a):=by
 obtain ⟨d,z,ne,ob,mA,n,r,q⟩:=(show ObjOk P w H h a (.ins C dx fs) from hok a _ e)
 exact ⟨mA,⟨ob,n,ne⟩,r,q,z,d⟩
end
structure Cls (K:PySem.W.Frag) (C:Addr):Prop where
 pg:PySem.W.plainGet K C Str.empty=true
 hd:PySem.W.hasDictIn K C=true
 po:PySem.W.plainOver K C=true
 sa:PySem.W.findIn K (.ref C) "__setattr__" = some (some (.builtin "object.__setattr__"))
theorem Cls.get {K:PySem.W.Frag}{C:Addr} (c:Cls K C) (f:Str):PySem.W.plainGet K C f=true:=c.pg
section
variable {X:Cx}{pins:List (Addr×Obj)}{σ:St}{H:Hp}{s:Shared}{a C dx:Addr}{fs:List (Str×V)}{f:Str}{v:V}{A:Around}{E:Value->Shared->Prop}
end
section
variable {X:Cx}{o e value:Expr}{f:Str}{pos pos' tpos:Pos}{ta tv:TE}
end
section
variable {X:Cx}{pins:List (Addr×Obj)}{σ:St}{H:Hp}{s:Shared}{A:Around}{E:Value->Shared->Prop}{Q:Value->Shared->Prop}{c:Value}{b:Bool}
inductive TyOf (K:PySem.W.Frag) (H:Hp):V->Value->Prop where
 | non:TyOf K H .non (.type "NoneType")
 | bl (x:Bool):TyOf K H (.bl x) (.type "bool")
 | int (i:Int):TyOf K H (.int i) (.type "int")
 | str (x:Str):TyOf K H (.str x) (.type "str")
 | flt (x:UInt64):TyOf K H (.flt x) (.type "float")
 | lst {a:Addr}{xs:List V} (e:H a=some (.lst xs)):TyOf K H (.ref a) (.type "list")
 | frz {a:Addr}{o:Obj}{xs:List V} (e:H a=some (.frz o (.lst xs))):TyOf K H (.ref a) (.type "list")
 | tup {a:Addr}{xs:List V} (e:H a=some (.tup xs)):TyOf K H (.ref a) (.type "tuple")
 | dK {a:Addr}{kvs:List (Key×V)} (e:H a=some (.dK kvs)):TyOf K H (.ref a) (.type "dict")
 | dT {a:Addr}{kvs:List (List Key×V)} (e:H a=some (.dT kvs)):TyOf K H (.ref a) (.type "dict")
 | ins {a C dx:Addr}{fs:List (Str×V)} (e:H a=some (.ins C dx fs)) (cl:Cls K C) (ha:PySem.W.findIn K (.ref C) "__class__" = some (some (.builtin "object.__class__")))
   (hn:PySem.W.specialIn K (.builtin "object.__class__") "__get__" = some (some (.builtin "getset_descriptor.__get__"))) (htk:PySem.W.takesIn K (.builtin "object.__class__")=some true)
   (hm:PySem.W.mroIn K C (.type "object")=some true):TyOf K H (.ref a) (.ref C)
theorem isinst_ok {x:V}{u t:Value} (I:Inv X pins σ H s) (rx:RelV x u) (ty:TyOf X.K H x t) (e:PySem.W.kitOne X.K t c=some b) (h:∀ tk,Q (.bool b) { s with toks:=tk }) :
  wpAny (model X.prog X.w) A (call (.builtin "isinstance") [u,c]) Q E s:=by
 cases ty with
 | non=>cases (show u=Value.none from rx);exact yF PySem.W.kitx_none I.kIn True.intro e (λz=>nomatch z) h
 | bl y=>cases (show u=Value.bool y from rx);exact yF PySem.W.kitx_bool I.kIn True.intro e (λz=>nomatch z) h
 | int i=>obtain ⟨t,q⟩:=(show ∃ t,u=Value.int i t from rx);cases q;exact yF PySem.W.kitx_int I.kIn True.intro e (λz=>nomatch z) h
 | str y=>obtain ⟨t,q⟩:=(show ∃ t,u=Value.str y t from rx);cases q;exact yF PySem.W.kitx_str I.kIn True.intro e (λz=>nomatch z) h
 | flt y=>obtain ⟨t,q⟩:=(show ∃ t,u=Value.float y t from rx);cases q;exact yF PySem.W.kitx_float I.kIn True.intro e (λz=>nomatch z) h
 | @lst a xs ea=>
  cases (show u=Value.ref a from rx)
  obtain ⟨_,_,n,_,h1⟩:=(show ObjOk X.prog X.w H s.heap a (.lst xs) from I.hok a _ ea)
  exact yF PySem.W.kitx_list I.kIn ⟨_,h1,rfl⟩ e (λz=>nomatch z) h
 | @frz a ob xs ea=>
  cases (show u=Value.ref a from rx)
  obtain ⟨_,_,_,n,_,h1⟩:=(show ObjOk X.prog X.w H s.heap a (.frz ob (.lst xs)) from I.hok a _ ea)
  exact yF PySem.W.kitx_list I.kIn ⟨_,h1,rfl⟩ e (λz=>nomatch z) h
 | @tup a xs ea=>
  cases (show u=Value.ref a from rx)
  obtain ⟨_,_,_,p⟩:=(show ObjOk X.prog X.w H s.heap a (.tup xs) from I.hok a _ ea)
  obtain ⟨o,h1,h2,_⟩:=p
  exact yF PySem.W.kitx_tuple I.kIn ⟨o,h1,h2⟩ e (λz=>nomatch z) h
 | @dK a kvs ea=>
  cases (show u=Value.ref a from rx)
  obtain ⟨_,_,vs,_,p⟩:=(show ObjOk X.prog X.w H s.heap a (.dK kvs) from I.hok a _ ea)
  obtain ⟨o,es,ep,h1,h2,_⟩:=p
  exact yF PySem.W.kitx_dict I.kIn ⟨o,h1,h2.1⟩ e (λz=>nomatch z) h
 | @dT a kvs ea=>
  cases (show u=Value.ref a from rx)
  obtain ⟨_,_,xs,_,o,es,ep,h1,h2,_⟩:=(show ObjOk X.prog X.w H s.heap a (.dT kvs) from I.hok a _ ea)
  exact yF PySem.W.kitx_dict I.kIn ⟨o,h1,h2.1⟩ e (λz=>nomatch z) h
 | @ins a C dx fs ea cl ha hn htk hm=>
  cases (show u=Value.ref a from rx)
  obtain ⟨mA,O,_⟩:=ins_get I.hok ea
  obtain ⟨od,J,_⟩:=O.look
  exact yF (PySem.W.kitx_own (cl.get _) cl.hd ha hn htk hm) I.kIn J e (λz=>nomatch z) h
end
end L2
namespace L2
open PySem PySem.Spec PyProof.Rows
structure Room (k:Nat) (A:Around):Prop where
 hd:A.handled=none
 dp:A.depth + 3 * k + 5 < recursionLimit
 un:A.units + 16 * k + 200 < cLine
 gd:A.guards=some []
theorem Room.mono {j k:Nat}{A:Around} (r:Room k A) (h:j<=k):Room j A:=⟨r.hd,by have:=r.dp;omega,by have:=r.un;omega,r.gd⟩
theorem Room.deeper {k:Nat}{A:Around} (r:Room (k + 1) A) (env:Env):Room k (A.deeper env):=
 ⟨r.hd,by have:=r.dp;show A.depth + 1 + 3 * k + 5 < _;omega,by have:=r.un;show A.units + 3 + 16 * k + 200 < _;omega,r.gd⟩
theorem Room.depth {k:Nat}{A:Around} (r:Room k A):A.depth < recursionLimit:=by have:=r.dp;omega
theorem Room.units {k:Nat}{A:Around} (r:Room k A):A.units + 64 < cLine:=by have:=r.un;omega
def tNil:TA:=λ_ H Q=>Q [] H
def tCons (ta:TE) (tr:TA):TA:=fun σ H Q=>ta σ H λx H1=>tr σ H1 λxs H2=>Q (x::xs) H2
section
variable {X:Cx}{e:Expr}{es:List Expr}{te:TE}{t:TA}{pos:Pos}
theorem wd:PA X [] tNil:=λ_ _ _ _ H Q I h=>Calls.spliced_nil ⟨[],H,I,.nil,h⟩
theorem pa_cons (ha:PE X e te) (hr:PA X es t) (hs:starEach (e::es) X.env=(false,eval e X.env)::starEach es X.env:=by rfl):PA X (e::es) (tCons te t):=by
 intro pos pins s σ H Q I h
 rw [hs]
 show wpAny _ _ (spliced ((false,eval e X.env)::backTo pos (starEach es X.env))) _ _ s
 refine Calls.spliced_cons (thn (ha pins s σ H _ I h) λu s1 ⟨x,H1,I1,r1,q1⟩=>?_)
 exact thn (hr pos pins s1 σ H1 _ I1 q1) λus s2 ⟨xs,H2,I2,r2,q2⟩=>⟨x::xs,H2,I2,.cons r1 r2,q2⟩
def tTup (t:TA):TE:=fun σ H Q=>t σ H λxs H1=>xs.length<=sizeLine/\∀ p,H1 p=none->Q (.ref p) (upd H1 p (.tup xs))
def tLst (t:TA):TE:=fun σ H Q=>t σ H λxs H1=>xs.length<=sizeLine/\∀ p,H1 p=none->Q (.ref p) (upd H1 p (.lst xs))
theorem wJ {x1} (h:PA X es t):PE X (.Tuple es x1 pos) (tTup t):=by
 intro pins s σ H Q I hq
 refine wpAny_Tuple_spliced (thn (h pos pins s σ H _ I hq) λus s1 ⟨xs,H1,I1,r,z,q⟩=>⟨by rw [<-r.length];exact z,?_⟩)
 have hf:H1 s1.heap.objs.size=none:=I1.hok.fresh (zF _)
 refine ⟨.ref s1.heap.objs.size,upd H1 s1.heap.objs.size (.tup xs),I1.laid (t':=s1.toks) (λb u e=>Heap.get?_push_of_some _ e) (zF _) ?_,rfl,q _ hf⟩
 exact ⟨⟨z,new_bare⟩,us,r,⟨_,Heap.get?_push_size _ rfl,rfl,_,rfl⟩⟩
theorem xa (h:PA X es t):PE X (.List es pos) (tLst t):=by
 intro pins s σ H Q I hq
 refine wpAny_List_spliced (thn (h pos pins s σ H _ I hq) λus s1 ⟨xs,H1,I1,r,z,q⟩=>⟨by rw [<-r.length];exact z,?_⟩)
 have hf:H1 s1.heap.objs.size=none:=I1.hok.fresh (zF _)
 refine ⟨.ref s1.heap.objs.size,upd H1 s1.heap.objs.size (.lst xs),I1.laid (t':=s1.toks) (λb u e=>Heap.get?_push_of_some _ e) (zF _) ?_,rfl,q _ hf⟩
 exact ⟨z,us,0,r,Heap.get?_push_size _ rfl⟩
end
abbrev Sp:=List V->Hp->VK->XK->Prop
abbrev CXT:=List Env->Hp->Shared->XK->Value->Shared->Prop
structure Env0 (P:Program) (w:World) (K:PySem.W.Frag) (mg:Str->Option Value) (base:Heap) (A:Around) (outer:List Env) (s:Shared) (H:Hp):Prop where
 frames:A.frames=some outer
 mod:Mod K mg base
 bs:∀ b o,base.get? b=some o->s.heap.get? b=some o/\H b=none
 bsz:base.objs.size<=s.heap.objs.size
 funs:s.heap.FunFrames base outer
 frf:∀ b∈frs outer,H b=none
 hok:HOk P w H s.heap
 bare:AllBare s.gens
def CE (outer:List Env) (P:Program) (w:World) (H:Hp) (s:Shared) (Q:VK) (u:Value) (s':Shared):Prop:=
 ∃ v H',s'.os=s.os/\AllBare s'.gens/\Un (frs outer) [] H H' s.heap s'.heap/\HOk P w H' s'.heap/\RelV v u/\Q v H'
def CR (CX:CXT) (outer:List Env) (P:Program) (w:World) (H:Hp) (s:Shared) (Q:VK) (E:XK) (r:Result) (s':Shared):Prop:=
 match r with
 | .ok (.ret u)=>CE outer P w H s Q u s'
 | .ok _=>False
 | .error e=>CX outer H s E e s'
structure FnOk (P:Program) (w:World) (K:PySem.W.Frag) (mg:Str->Option Value) (base:Heap) (CX:CXT) (k:Nat) (f:Addr) (fd:FuncData) (ps:List Str) (sp:Sp):Prop where
 len:∀ vs H Q E,sp vs H Q E->vs.length=ps.length
 run:∀ (A:Around) (outer:List Env) (s:Shared) (H:Hp) (args:Args) (us:List Value) (vs:List V) (Q:VK) (E:XK),Room k A->Env0 P w K mg base A outer s H->BindsTo s fd args (ps.zip us)->Vals vs us->sp vs H Q E ->
  codeAny (model P w) A (.call (.ref f) args) (CR CX outer P w H s Q E) s
section
variable {X:Cx}{pins:List (Addr×Obj)}{σ:St}{H:Hp}{s s':Shared}
theorem Inv.env0 (I:Inv X pins σ H s):Env0 X.prog X.w X.K X.mg X.base X.A X.stack s H:=
 ⟨I.ok.frames,I.ok.mod,I.bs,zk I.ok.bsz I.sz,I.stack,I.stkFree,I.hok,I.bare⟩
theorem Inv.after {Q:VK}{u:Value} (I:Inv X pins σ H s) (h:CE X.stack X.prog X.w H s Q u s'):EP X pins σ Q u s':=by
 obtain ⟨v,H',os,bare,un,hok,r,q⟩:=h
 obtain ⟨hh,g,d,t,os'⟩:=s'
 obtain rfl:os'=s.os:=os
 exact ⟨v,H',I.call (h':=hh) (g':=g) (d':=d) (t':=t) (ch:=[]) un hok bare (λb z=>absurd z (by simp)),r,q⟩
end
def tCall (sp:Sp) (dvs:List V) (E:XK) (t:TA):TE:=fun σ H Q=>t σ H λvs H1=>sp (vs++dvs) H1 Q E
def Binds (K:PySem.W.Frag) (fd:FuncData) (ps:List Str) (ds:List Value):Prop:=
 ∀ (s:Shared) (us:List Value),K.In s.heap->(us++ds).length=ps.length->BindsTo s fd ⟨us,[]⟩ (ps.zip (us++ds))
theorem Binds.all {K:PySem.W.Frag}{fd:FuncData}{ps:List Str} (h:∀ us:List Value,us.length=ps.length->bindArgs fd ⟨us,[]⟩=pure (ps.zip us)):Binds K fd ps []:=λs us _ hl=>by
 rw [zz] at hl ⊢
 exact .of_eq (h us hl)
def Passes (CX:CXT) (X:Cx) (E:XK):Prop:=∀ (pins:List (Addr×Obj)) (σ:St) (H:Hp) (s:Shared) (e:Value) (s':Shared),Inv X pins σ H s->CX X.stack H s E e s'->X.xe e s'
section
variable {X:Cx}{CX:CXT}{k:Nat}{f C:Addr}{fd:FuncData}{ps:List Str}{sp:Sp}{dvs:List V}{ds:List Value}{E:XK}{x m:Str}{p pos apos:Pos}{e o:Expr}{es:List Expr}{ta:TE}{t:TA}
theorem run_fn {pins:List (Addr×Obj)}{σ:St}{H:Hp}{s:Shared}{Q:VK}{us:List Value}{vs:List V} (F:FnOk X.prog X.w X.K X.mg X.base CX k f fd ps sp) (hr:Room k X.A) (hb:Binds X.K fd ps ds) (hd:Vals dvs ds) (hx:Passes CX X E)
  (I:Inv X pins σ H s) (r:Vals vs us) (h:sp (vs++dvs) H Q E):wpAny (model X.prog X.w) X.A (call (.ref f) us) (EP X pins σ Q) X.xe s:=by
 have r2:Vals (vs++dvs) (us++ds):=r.append hd
 have hl:(us++ds).length=ps.length:=by rw [<-r2.length];exact F.len _ _ _ _ h
 refine wpAny_call (codeAny_mono (F.run X.A X.stack s H ⟨us,[]⟩ (us++ds) (vs++dvs) Q E hr I.env0 (hb s us I.kIn hl) r2 h) λr s' hq=>?_)
 cases r with
 | error e=>exact hx pins σ H s e s' I hq
 | ok fl=>
  cases fl with
  | ret u=>exact I.after hq
  | next=>exact False.elim hq
  | brk=>exact False.elim hq
  | cont=>exact False.elim hq
theorem xC (F:FnOk X.prog X.w X.K X.mg X.base CX k f fd ps sp) (hr:Room k X.A) (hg:Gl X x) (hm:X.mg x=some (.ref f)) (hk:zN X.K (.ref f)=true) (hb:Binds X.K fd ps ds) (hd:Vals dvs ds) (hx:Passes CX X E)
  (ha:PA X (e::es) t) (hdb:(x == ("__debug__" : Str))=false:=by decide) (he:starEach (e::es) X.env=(false,eval e X.env)::starEach es X.env:=by rfl) (hpl:(backTo pos (starEach es X.env)).any (·.1)=false:=by rfl) :
  PE X (.Call (.Name x p) (e::es) [] pos) (tCall sp dvs E t):=by
 intro pins s σ H Q I h
 refine wpAny_Call_Name_kw (ld_glob I hg hm ?_ hdb)
 refine PySem.W.callWith_K (h₀:=X.base) I.ok.mod.kin hk (thn (ha pos pins s σ H _ I h) λus s1 ⟨vs,H1,I1,r,q⟩=>⟨I1.kIn,?_⟩) he hpl
 exact run_fn F hr hb hd hx I1 r q
end
section
variable {X:Cx}{CX:CXT}{k:Nat}{f C:Addr}{fd:FuncData}{ps ks:List Str}{sp:Sp}{E:XK}{x m:Str}{p pos apos kpos:Pos}{e o:Expr}{es:List Expr}{kws:List Keyword}{te ta:TE}{t tk:TA}{nm:Option Str}
variable {g:List Value->List Value->List Value}{gV:List V->List V->List V}
end
structure FnScope (N P:List Str) (sc:Scope):Prop where
 kind:sc.kind=.function
 co:sc.isCoroutine=false
 gen:sc.isGenerator=false
 nd:N.Nodup
 pre:N.take P.length=P
 par:∀ x∈P,sc.names.lookup x=some .local\/sc.names.lookup x=some .cell
 nofree:∀ y∈sc.names,y.2≠.free
theorem bindL_out {kindOf:Str->Option NameKind}{x:Str}:∀ {binds:List (Str×Value)}{m:Str->Option Value},(∀ v,(x,v) ∉ binds)->bindL kindOf binds m x=m x
 | [],_,_=>rfl
 | (n,v)::r,m,h=>by
  unfold bindL
  rw [bindL_out λw hw=>h w (zc _ hw)]
  split
  ·have:x≠n:=by rintro rfl;exact h v zo
   simp [this]
  ·rfl
theorem bindC_out {kindOf:Str->Option NameKind}{x:Str}:∀ {binds:List (Str×Value)}{m:Str->Option Value},(∀ v,(x,v) ∉ binds)->bindC kindOf binds m x=m x
 | [],_,_=>rfl
 | (n,v)::r,m,h=>by
  unfold bindC
  rw [bindC_out λw hw=>h w (zc _ hw)]
  split
  ·rfl
  ·have:x≠n:=by rintro rfl;exact h v zo
   simp [this]
theorem bindL_get {kindOf:Str->Option NameKind}{x:Str}{v:Value}:∀ {P:List Str}{vs:List Value}{i:Nat}{m:Str->Option Value},P.Nodup->P[i]?=some x->vs[i]?=some v->kindOf x=some .local ->
  bindL kindOf (P.zip vs) m x=some v
 | [],_,_,_,_,h,_,_=>by simp at h
 | _::_,[],_,_,_,_,h,_=>by simp at h
 | p::P,w::vs,0,m,nd,h1,h2,hk=>by
  simp at h1 h2;subst h1;subst h2
  show bindL kindOf ((p,w)::P.zip vs) m p=_
  unfold bindL
  rw [bindL_out λv hv=>(List.nodup_cons.mp nd).1 (List.of_mem_zip hv).1,if_pos hk]
  simp
 | p::P,w::vs,i + 1,m,nd,h1,h2,hk=>by
  show bindL kindOf ((p,w)::P.zip vs) m x=_
  unfold bindL
  exact bindL_get (i:=i) (List.nodup_cons.mp nd).2 (by simpa using h1) (by simpa using h2) hk
theorem bindC_get {kindOf:Str->Option NameKind}{x:Str}{v:Value}:∀ {P:List Str}{vs:List Value}{i:Nat}{m:Str->Option Value},P.Nodup->P[i]?=some x->vs[i]?=some v->kindOf x≠some .local ->
  bindC kindOf (P.zip vs) m x=some v
 | [],_,_,_,_,h,_,_=>by simp at h
 | _::_,[],_,_,_,_,h,_=>by simp at h
 | p::P,w::vs,0,m,nd,h1,h2,hk=>by
  simp at h1 h2;subst h1;subst h2
  show bindC kindOf ((p,w)::P.zip vs) m p=_
  unfold bindC
  rw [bindC_out λv hv=>(List.nodup_cons.mp nd).1 (List.of_mem_zip hv).1,if_neg hk]
  simp
 | p::P,w::vs,i + 1,m,nd,h1,h2,hk=>by
  show bindC kindOf ((p,w)::P.zip vs) m x=_
  unfold bindC
  exact bindC_get (i:=i) (List.nodup_cons.mp nd).2 (by simpa using h1) (by simpa using h2) hk
def start (N:List Str) (vs:List V):St:=vs.map some++List.replicate (N.length - vs.length) none
def cxOf (CX:CXT) (P:Program) (w:World) (K:PySem.W.Frag) (mg:Str->Option Value) (base:Heap) (N:List Str) (qual:Str) (scope:Scope) (f:Addr) (cd:Value) (A:Around) (outer:List Env) (s:Shared) (H:Hp) (E:XK):Cx where
 prog:=P
 w:=w
 K:=K
 mg:=mg
 base:=base
 A:=A.deeper (envOfC qual scope s.heap.objs.size f cd)
 N:=N
 s₀:=s
 H₀:=H
 env:=envOfC qual scope s.heap.objs.size f cd
 outer:=outer
 stack:=envOfC qual scope s.heap.objs.size f cd::outer
 ex:=[]
 calm:=true
 fn:=λ_=>true
 pn:=[]
 xe:=λe s'=>wpAny (model P w) (A.deeper (envOfC qual scope s.heap.objs.size f cd)) (leaving (envOfC qual scope s.heap.objs.size f cd) e) (λ_ s''=>CX outer H s E e s'') (λe' s''=>CX outer H s E e' s'') s'
theorem cell_has {sc:Scope}{n:Nat}{x:Str} (h:sc.names.lookup x=some .cell):∃ c,(cellsFrom n sc.names []).lookup x=some c:=by
 have q:=PySem.W.cellsFrom_some sc.names n [] (.inl h)
 exact Option.isSome_iff_exists.mp q
theorem inv_start {CX:CXT}{P:Program}{w:World}{K:PySem.W.Frag}{mg:Str->Option Value}{base:Heap}{N ps:List Str}{qual:Str}{scope:Scope}{f:Addr}{cd:Value}{A:Around}{outer:List Env} {s s1:Shared}{H:Hp}{E:XK}{us:List Value}{vs:List V}
  (S:FnScope N ps scope) (hd:A.handled=none) (e0:Env0 P w K mg base A outer s H) (hl:vs.length=ps.length) (r:Vals vs us)
  (x:InCallC s s.heap.objs.size (bindL (envOfC qual scope s.heap.objs.size f cd).kindOf (ps.zip us) λ_=>none) (cellsFrom (s.heap.objs.size + 1) scope.names []) (bindC (envOfC qual scope s.heap.objs.size f cd).kindOf (ps.zip us) λ_=>none) s1) :
  Inv (cxOf CX P w K mg base N qual scope f cd A outer s H E) [] (start N vs) H s1:=by
 have hpl:ps.length<=N.length:=by have:=congrArg List.length S.pre;rw [zT] at this;omega
 obtain ⟨h1,tk,rfl,hk⟩:=x.done
 have noA:∀ b:Addr,b ∉ (cxOf CX P w K mg base N qual scope f cd A outer s H E).ex:=λb z=>absurd (show b∈([]:List Addr) from z) (by simp)
 refine ⟨⟨e0.mod,S.kind,rfl,rfl,zF _,λy z c h1 h2=>?_,λy hy=>?_,λy c _ h=>?_,λ_=>hd,Around.frames_deeper e0.frames,.inr ⟨rfl,rfl⟩,λb z=>absurd z (noA b),e0.bs,e0.bsz,λb _ _=>noA b,λb z=>absurd z (noA b),e0.funs,e0.frf⟩,
  rfl,e0.bare,Un.kept hk,⟨_,x.toInCall.ns,λi y v h1 h2 h3=>?_⟩,λy c h=>⟨_,x.cell y c h⟩,e0.hok.fresh (zF _),λy c h=>?_,λp hp=>absurd (show p∈([]:List (Addr×Obj)) from hp) (by simp),e0.hok.kept hk,?_⟩
 ·exact name_of_addr x.apart (yK h1) (yK h2)
 ·have hy:scope.names.lookup y=some .cell\/scope.names.lookup y=some .free:=hy
  rcases hy with hy | hy
  ·exact cell_has hy
  ·exact absurd rfl (S.nofree _ (yK hy))
 ·exact Nat.le_of_lt (x.above y c (yK h))
 ·have hi:i < vs.length:=by
   unfold start at h2
   by_cases hi:i < vs.length
   ·exact hi
   ·rw [z4 (by simpa using hi)] at h2
    rw [List.getElem?_replicate] at h2
    split at h2 <;> cases h2
  have ha:vs[i]?=some v:=by
   unfold start at h2
   rw [yJ (by simpa using hi),zJ] at h2
   cases e:vs[i]? with
   | none=>rw [e] at h2;cases h2
   | some a=>rw [e] at h2;cases h2;rfl
  obtain ⟨u,hu,rv⟩:=r.get ha
  have hp:ps[i]?=some y:=by
   rw [<-S.pre,List.getElem?_take_of_lt (by omega)];exact h1
  have ndP:ps.Nodup:=by rw [<-S.pre];exact S.nd.sublist (List.take_sublist _ _)
  refine ⟨u,rv,?_⟩
  rcases S.par y (zB hp) with k | k
  ·exact .inl ⟨k,bindL_get ndP hp hu k⟩
  ·obtain ⟨c,e⟩:=cell_has (n:=s.heap.objs.size + 1) k
   refine .inr ⟨.inl k,c,e,?_⟩
   have q:=x.cell y c e
   rw [bindC_get ndP hp hu (by show scope.names.lookup y≠_;rw [k];decide)] at q
   exact q
 ·exact e0.hok.fresh (Nat.le_of_lt (x.above y c (yK h)))
 ·unfold start
  show _=N.length
  rw [zK,zA,List.length_replicate]
  omega
theorem fn_of {CX:CXT}{P:Program}{w:World}{K:PySem.W.Frag}{mg:Str->Option Value}{base:Heap}{k:Nat}{f:Addr}{name qual:Str}{params:Arguments}{body:List Stmt}{scope:Scope}{dV kV doc pm cdv ct oc:Value}{an od:Option Addr}
  {osl:Array (Option Value)}{N ps:List Str}{sp:Sp} (lk:K.lookup f=some ⟨oc,od,.func (yq name qual params body scope dV kV doc pm an cdv ct),osl⟩) (hcd:PySem.W.codeIn K cdv qual=true) (S:FnScope N ps scope)
  (len:∀ vs H Q E,sp vs H Q E->vs.length=ps.length)
  (hbody:∀ (A:Around) (outer:List Env) (s:Shared) (H:Hp) (vs:List V) (Q:VK) (E:XK),Room k (A.deeper (envOfC qual scope s.heap.objs.size f cdv))->sp vs H Q E ->
   ∃ t,PSs (cxOf CX P w K mg base N qual scope f cdv A outer s H E) body t/\t { nx:=λ_ H'=>Q .non H',rt:=Q } (start N vs) H) :
  FnOk P w K mg base CX (k + 1) f (yq name qual params body scope dV kV doc pm an cdv ct) ps sp:=by
 refine ⟨len,λA outer s H args us vs Q E hr e0 hb r hsp=>?_⟩
 have hl:=len _ _ _ _ hsp
 have KX:K.In s.heap:=e0.mod.kin.keeps λb o e=>(e0.bs b o e).1
 have lim:s.heap.NoLimit:=e0.mod.nolimit.keeps λb o e=>(e0.bs b o e).1
 have hkind:∀ y∈ps.zip us,scope.names.lookup y.1=some .local\/(scope.names.lookup y.1=some .cell/\((cellsFrom (s.heap.objs.size + 1) scope.names []).lookup y.1).isSome=true):=λ⟨n,v⟩ hy=>by
  rcases S.par n (List.of_mem_zip hy).1 with q | q
  ·exact .inl q
  ·exact .inr ⟨q,PySem.W.cellsFrom_some _ _ _ (.inl q)⟩
 refine codeAny_call_function hr.depth (KX _ _ lk) rfl S.co S.gen rfl (PySem.W.codeRec_of KX hcd) (hb _ _ _ _ ?_)
 refine wpAny_newFunctionEnv_cells S.kind hkind λenv he s1 x=>?_
 subst he
 refine ⟨lim.keeps x.toInCall.keep,codeAny_func ?_⟩
 obtain ⟨t,ht,hq⟩:=hbody A outer s H vs Q E (hr.deeper _) hsp
 have I:Inv (cxOf CX P w K mg base N qual scope f cdv A outer s H E) [] (start N vs) H s1:=inv_start S hr.hd e0 hl r x
 refine wpAny_mono (ht [] s1 (start N vs) H _ I hq) (λfl s' hs=>?_) λe s' hs=>hs
 have fin:∀ {σ':St}{H':Hp}{v:V}{u:Value},Inv (cxOf CX P w K mg base N qual scope f cdv A outer s H E) [] σ' H' s'->RelV v u->Q v H'->CE outer P w H s Q u s':=
  λ{σ' H' v u} J rv q=>⟨v,H',J.os,J.bare,J.base,J.hok,rv,q⟩
 cases fl with
 | ret u=>
  obtain ⟨v,σ',H',J,rv,q⟩:=hs
  exact fin J rv q
 | next=>
  obtain ⟨σ',H',J,q⟩:=hs
  exact fin (v:=V.non) (u:=Value.none) J rfl q
 | brk=>
  obtain ⟨_,_,_,q⟩:=hs
  exact False.elim q
 | cont=>
  obtain ⟨_,_,_,q⟩:=hs
  exact False.elim q
end L2
namespace L2
open PySem PySem.Spec PyProof.Rows
section
variable {X:Cx}{x:Str}{p pos:Pos}{e:Expr}{es:List Expr}{t:TA}{id T:String}{r:List V->Hp->VK->Prop}
def tCB (r:List V->Hp->VK->Prop) (t:TA):TE:=fun σ H Q=>t σ H λvs H1=>r vs H1 Q
theorem xF (hc:CallR X (.builtin id) r) (hg:Gl X x) (hm:X.mg x=none) (hv:bootBuiltins x=some (.builtin id)) (ha:PA X (e::es) t) (hn:x ≠ "__name__" := by decide) (hdb:(x == ("__debug__" : Str))=false:=by decide)
  (he:starEach (e::es) X.env=(false,eval e X.env)::starEach es X.env:=by rfl) (hpl:(backTo pos (starEach es X.env)).any (·.1)=false:=by rfl):PE X (.Call (.Name x p) (e::es) [] pos) (tCB r t):=by
 intro pins s σ H Q I h
 refine wpAny_Call_Name_kw (ld_blt I hg hm hv ?_ hn hdb)
 exact PyProof.Rows.callWith_builtin1 (thn (ha pos pins s σ H _ I h) λus s1 ⟨vs,H1,I1,r1,q1⟩=>hc pins s1 σ H1 vs us Q I1 r1 q1) he hpl
theorem xr (hc:CallR X (.type T) r) (hg:Gl X x) (hm:X.mg x=none) (hv:bootBuiltins x=some (.type T)) (ha:PA X (e::es) t) (hn:x ≠ "__name__" := by decide) (hdb:(x == ("__debug__" : Str))=false:=by decide)
  (he:starEach (e::es) X.env=(false,eval e X.env)::starEach es X.env:=by rfl) (hpl:(backTo pos (starEach es X.env)).any (·.1)=false:=by rfl):PE X (.Call (.Name x p) (e::es) [] pos) (tCB r t):=by
 intro pins s σ H Q I h
 refine wpAny_Call_Name_kw (ld_blt I hg hm hv ?_ hn hdb)
 exact zy (thn (ha pos pins s σ H _ I h) λus s1 ⟨vs,H1,I1,r1,q1⟩=>hc pins s1 σ H1 vs us Q I1 r1 q1) he hpl
end
end L2
namespace L2
open PySem PySem.Spec PyProof.Rows
section
variable {κ:Type} [DecidableEq κ]
end
section
variable {P:Program}{w:World}{H:Hp}{h:Heap}{a:Addr}
end
section
variable {X:Cx}{pins:List (Addr×Obj)}{σ:St}{H:Hp}{s:Shared}{a:Addr}{y v:V}{u r:Value}{o:Option V}{A:Around}{E:Value->Shared->Prop}
theorem Inv.big (I:Inv X pins σ H s):sysModules < s.heap.objs.size:=by
 have h:mainGlobals < s.heap.objs.size:=(I.mod.glob.keeps I.bk).lt
 exact Nat.lt_trans (by decide) h
end
section
variable {X:Cx}{pins:List (Addr×Obj)}{σ:St}{H:Hp}{s:Shared}{a:Addr}{kvs:List (Key×V)}{k:Key}{u:Value}{A:Around}{E:Value->Shared->Prop}
end
section
variable {X:Cx}{o i e value:Expr}{pos pos' tpos:Pos}{td ty tv:TE}
end
theorem dk_empty {P:Program}{w:World}{H:Hp} (h:Heap) (hb:sysModules < h.objs.size):ObjOk P w H (h.push { cls:=.type "dict", data:=.dict #[] }) h.objs.size (.dK []):=
 ⟨za _,beq_eq_false_iff_ne.mpr (Ne.symm (zW hb)),[],.nil,Heap.DictOf.new h⟩
def tDNewK:TE:=λ_ H Q=>∀ p,H p=none->Q (.ref p) (upd H p (.dK []))
section
variable {X:Cx}{pos:Pos}
theorem pe_dnewK:PE X (.Dict [] [] pos) tDNewK:=λpins s σ H Q I h=>
 wpAny_Dict_empty ⟨.ref s.heap.objs.size,_,I.laid (a:=s.heap.objs.size) (o:=.dK []) (t':=s.toks) (λ_ _ q=>Heap.get?_push_of_some _ q) (zF _) (dk_empty s.heap I.big),rfl,h _ (I.hok.fresh (zF _))⟩
end
section
variable {X:Cx}{pins:List (Addr×Obj)}{σ:St}{H:Hp}{s:Shared}{a:Addr}{y d:V}{u r:Value}{o:Option V}{A:Around}{E:Value->Shared->Prop}
end
section
variable {X:Cx}{o e f:Expr}{apos cpos:Pos}{td ty tx:TE}
end
section
variable {X:Cx}{pins:List (Addr×Obj)}{σ:St}{H:Hp}{s:Shared}{a:Addr}{kvs:List (Key×V)}{A:Around}{E:Value->Shared->Prop}
end
section
variable {X:Cx}{pins:List (Addr×Obj)}{σ:St}{H:Hp}{s:Shared}{a:Addr}{y:V}{u:Value}{A:Around}{E:Value->Shared->Prop}
end
end L2
namespace HT
open PySem PyProof.Rows
section
open PySem.SeqAt
open PySem.AutoSeq1 (wpAny_loadPart')
open PySem.MeetsSeq PySem.MeetsSeq2 PySem.MeetsSeq3
end
section
variable {prog:Program}{w:World}{A:Around}{E:Value->Shared->Prop}{s:Shared}
def sIx (n d:Nat):Option Int->Nat
 | none=>d
 | some v=>if v < 0 then (v + (n:Int)).toNat else min v.toNat n
theorem sIx_nat (n d k:Nat):sIx n d (some (k:Int))=min k n:=by
 show (if (k:Int) < 0 then ((k:Int) + (n:Int)).toNat else min (k:Int).toNat n)=min k n
 rw [if_neg (by omega),Int.toNat_natCast]
theorem sIx_le (n d:Nat) (hd:d<=n) (o:Option Int):sIx n d o<=n:=by
 cases o with
 | none=>exact hd
 | some v=>
  show (if v < 0 then (v + (n:Int)).toNat else min v.toNat n)<=n
  by_cases hv:v < 0
  ·rw [if_pos hv];omega
  ·rw [if_neg hv];exact Nat.min_le_right _ _
theorem clip_eq (v:Int) (n d:Nat):(if v < 0 then max (v + (n:Int)) 0 else min v (n:Int))=((sIx n d (some v):Nat):Int):=by
 show (if v < 0 then max (v + (n:Int)) 0 else min v (n:Int))=(((if v < 0 then (v + (n:Int)).toNat else min v.toNat n):Nat):Int)
 by_cases hv:v < 0
 ·simp only [if_pos hv];omega
 ·simp only [if_neg hv];omega
theorem adjust_gen (lo hi:Option Int) (n:Nat):Builtin.Slice.sliceAdjust lo hi 1 (n:Int)=(((sIx n 0 lo:Nat):Int),((sIx n n hi:Nat):Int)):=by
 have h1:¬ ((1:Int) < 0):=by omega
 unfold Builtin.Slice.sliceAdjust
 simp only [h1,if_false]
 refine Prod.ext ?_ ?_
 ·cases lo with
  | none=>rfl
  | some v=>exact clip_eq v n 0
 ·cases hi with
  | none=>rfl
  | some v=>exact clip_eq v n n
theorem places_gen (i j:Nat):Builtin.Slice.slicePlaces (i:Int) (j:Int) 1=j - i:=by
 unfold Builtin.Slice.slicePlaces
 have h1:(1:Int) > 0:=by omega
 simp only [h1,if_true,Int.ediv_one]
 split <;> omega
theorem slicePart_ {v:Value}{o:Option Int}{Q:Option Int->Shared->Prop} (p:IsPart v o) (h:Q o s):wpAny (model prog w) A (Builtin.Slice.slicePartIndex v) Q E s:=by
 cases p with
 | none=>exact slicePart_none h
 | int i t=>exact slicePart_int h
theorem sliceApplied_gen {sl:Addr}{vl vu:Value}{lo hi:Option Int}{n:Nat}{Q:Int×Int×Nat->Shared->Prop} (hs:s.heap.IsSliceOf sl vl vu .none) (pl:IsPart vl lo) (pu:IsPart vu hi)
  (h:Q (((sIx n 0 lo:Nat):Int),1,sIx n n hi - sIx n 0 lo) s):wpAny (model prog w) A (Builtin.Slice.sliceApplied (.ref sl) (pure (n:Int))) Q E s:=by
 obtain ⟨os,hos,hcs,hds⟩:=id hs
 unfold Builtin.Slice.sliceApplied Builtin.Slice.sliceFields
 refine wpAny_bind (wpAny_bind (wpAny_field hos hds (x:=vl) rfl (wpAny_bind (wpAny_field hos hds (x:=vu) rfl (wpAny_bind (wpAny_field hos hds (x:=.none) rfl (wpAny_pure ?_)))))))
 refine wpAny_bind (slicePart_none ?_)
 show wpAny _ _ (if ((1:Int) == 0)=true then _ else _) _ _ s
 rw [if_neg (by decide)]
 refine wpAny_bind (slicePart_ pl (wpAny_bind (slicePart_ pu (wpAny_bind (wpAny_pure ?_)))))
 show wpAny _ _ (match Builtin.Slice.sliceAdjust lo hi 1 (n:Int) with | (lo,hi)=>pure (lo,(1:Int),Builtin.Slice.slicePlaces lo hi 1)) _ _ s
 rw [adjust_gen lo hi n]
 show wpAny _ _ (pure (((sIx n 0 lo:Nat):Int),(1:Int),Builtin.Slice.slicePlaces ((sIx n 0 lo:Nat):Int) ((sIx n n hi:Nat):Int) 1)) _ _ s
 rw [places_gen]
 exact wpAny_pure h
theorem pick_gen (xs:Array Value) (i k:Nat):((List.range k).filterMap λ(m:Nat)=>xs[((i:Int) + (m:Int) * 1).toNat]?).toArray=((xs.toList.drop i).take k).toArray:=by
 have e:(λ(m:Nat)=>xs[((i:Int) + (m:Int) * 1).toNat]?)=λm=>xs[i + m]?:=by
  funext m
  have:((i:Int) + (m:Int) * 1).toNat=i + m:=by omega
  rw [this]
 rw [e]
 have:=pick_run xs i k
 rw [List.filterMap_map] at this
 have e2:((λx=>xs[x]?) ∘ λx=>i + x)=λm=>xs[i + m]?:=rfl
 rw [e2] at this
 rw [this]
theorem getItem_tuple_cut {t sl:Addr}{items:Array Value}{vl vu:Value}{lo hi:Option Int}{Q:Value->Shared->Prop} (ht:IsTup s.heap t items) (hs:s.heap.IsSliceOf sl vl vu .none) (pl:IsPart vl lo) (pu:IsPart vu hi)
  (hw:¬ (sIx items.size 0 lo=0/\sIx items.size items.size hi=items.size))
  (h:Q (.ref s.heap.objs.size) { s with heap:=s.heap.push { cls:=.type "tuple", data:=.seq ((items.toList.drop (sIx items.size 0 lo)).take (sIx items.size items.size hi - sIx items.size 0 lo)).toArray } })
  (hsz:items.size<=sizeLine):wpAny (model prog w) A (getItem (.ref t) (.ref sl)) Q E s:=by
 have htake:sizeOk (.seq ((items.toList.drop (sIx items.size 0 lo)).take (sIx items.size items.size hi - sIx items.size 0 lo)).toArray):=by
  show ((items.toList.drop (sIx items.size 0 lo)).take (sIx items.size items.size hi - sIx items.size 0 lo)).toArray.size<=sizeLine
  rw [zP,zT,yH,Array.length_toList]
  omega
 have hj:sIx items.size items.size hi<=items.size:=sIx_le _ _ (zF _) hi
 obtain ⟨os,hos,hcs,hds⟩:=id hs
 have hTs:s.TypeIs (.ref sl) "slice" := ⟨os,hos,hcs⟩
 unfold getItem
 try with_reducible refine wpAny_holding ?_
 first | refine wpAny_bind (wpAny_pure ?_) | skip
 refine wpAny_bind (wpAny_sequenceKey ht.typeIs (by decide) ?_)
 refine wpAny_bind (wpAny_callSpecial?_slot (name:=Str.ofString "__getitem__") ht.typeIs PyProof.Rows.slot_tuple_getitem
  (wpAny_call_entry PyProof.Rows.slot_tuple_getitem ht.typeIs entry_tuple_getitem ?_ (args_tuple_getitem _ _)))
 show wpAny _ _ (Builtin.Tuple.tupleItemsOf (.ref t) >>= _) _ _ s
 refine wpAny_bind (tupleItemsOf_ ht ?_)
 refine wpAny_bind (wpAny_typeOf hTs ?_)
 rw [if_pos (by decide)]
 refine wpAny_bind (sliceApplied_gen hs pl pu ?_)
 have hno:¬ ((((sIx items.size 0 lo:Nat):Int) == 0 && (1:Int) == 1 && (sIx items.size items.size hi - sIx items.size 0 lo) == items.size)=true):=by
  intro q
  rw [zd,zd] at q
  have q1:((sIx items.size 0 lo:Nat):Int)=0:=eq_of_beq q.1.1
  have q2:sIx items.size items.size hi - sIx items.size 0 lo=items.size:=eq_of_beq q.2
  exact hw ⟨by omega,by omega⟩
 show wpAny _ _ (if (((sIx items.size 0 lo:Nat):Int) == 0 && (1:Int) == 1 && (sIx items.size items.size hi - sIx items.size 0 lo) == items.size)=true then _ else _) _ _ s
 rw [if_neg hno,pick_gen]
 first
  | exact wpAny_bind (m:=Builtin.Tuple.tupleExact _) (wpAny_newObj_type (wpAny_pure ⟨_,rfl,wpAny_pure h⟩) htake)
  | exact wpAny_bind (m:=Builtin.Tuple.tupleExact _) (wpAny_newObj_type (wpAny_bind (wpAny_pure (wpAny_pure ⟨_,rfl,wpAny_pure h⟩))) htake)
  | exact wpAny_bind (wpAny_bind (m:=Builtin.Tuple.tupleExact _) (wpAny_newObj_type (wpAny_pure (wpAny_pure ⟨_,rfl,wpAny_pure h⟩)) htake))
  | exact wpAny_bind (wpAny_bind (m:=Builtin.Tuple.tupleExact _) (wpAny_newObj_type (wpAny_pure ⟨_,rfl,wpAny_pure h⟩) htake))
end
end HT
namespace L2
open PySem PySem.Spec PyProof.Rows
abbrev TO:=St->Hp->(Option Int->Hp->Prop)->Prop
def PO (X:Cx) (e:Option Expr) (t:TO):Prop:=
 ∀ (pins:List (Addr×Obj)) (s:Shared) (σ:St) (H:Hp) (Q:Option Int->Hp->Prop),Inv X pins σ H s->t σ H Q ->
  wpAny (model X.prog X.w) X.A (evalPart e X.env) (λu s'=>∃ o H',Inv X pins σ H' s'/\IsPart u o/\Q o H') X.xe s
def tNoPart:TO:=λ_ H Q=>Q none H
def tPart (t:TE):TO:=fun σ H Q=>t σ H λx H1=>∃ i,x=.int i/\Q (some i) H1
section
variable {X:Cx}{e:Expr}{te:TE}{lo hi:Option Expr}{tl th:TO} {pos p2:Pos}
theorem wW:PO X none tNoPart:=by
 intro pins s σ H Q I h
 rw [evalPart_none]
 exact wpAny_pure ⟨none,H,I,.none,h⟩
theorem wQ (h:PE X e te):PO X (some e) (tPart te):=by
 intro pins s σ H Q I hw
 rw [evalPart_some]
 refine thn (h pins s σ H _ I hw) λu s1 ⟨x,H1,I1,r1,q1⟩=>?_
 obtain ⟨i,rfl,q⟩:=q1
 obtain ⟨t,rfl⟩:=r1
 exact ⟨some i,H1,I1,.int i t,q⟩
def SlR (X:Cx) (r:V->Option Int->Option Int->Hp->VK->Prop):Prop:=
 ∀ (pins:List (Addr×Obj)) (s:Shared) (σ:St) (H:Hp) (x:V) (v vl vu:Value) (lo hi:Option Int) (sl:Addr) (Q:VK),Inv X pins σ H s->RelV x v->s.heap.IsSliceOf sl vl vu .none->IsPart vl lo->IsPart vu hi->r x lo hi H Q ->
  ∃ T id,typeLookup (.type T) "__getitem__" = pure (some (.builtin id))/\s.TypeIs v T/\wpAny (model X.prog X.w) X.A (getItem v (.ref sl)) (EP X pins σ Q) X.xe s
def tSl (r:V->Option Int->Option Int->Hp->VK->Prop) (te:TE) (tl th:TO):TE:=fun σ H Q=>te σ H λx H1=>tl σ H1 λl H2=>th σ H2 λu H3=>r x l u H3 Q
theorem wK {r:V->Option Int->Option Int->Hp->VK->Prop} (hr:SlR X r) (he:PE X e te) (hl:PO X lo tl) (hu:PO X hi th):PE X (.Subscript e (.Slice lo hi none p2) pos) (tSl r te tl th):=by
 intro pins s σ H Q I h
 refine Subscript_ (thn (he pins s σ H _ I h) λv s1 ⟨x,H1,I1,r1,q1⟩=>?_)
 refine wpAny_Slice (thn (hl pins s1 σ H1 _ I1 q1) λvl s2 ⟨l,H2,I2,pl,q2⟩=>thn (hu pins s2 σ H2 _ I2 q2) λvu s3 ⟨u,H3,I3,pu,q3⟩=>?_)
 rw [evalPart_none]
 refine wpAny_pure ?_
 have I4:Inv X pins σ H3 { s3 with heap:=s3.heap.push { cls:=.type "slice", data:=.fields #[vl,vu,.none] } }:=I3.kept (t':=s3.toks) λb ob q=>Heap.get?_push_of_some _ q
 obtain ⟨T,id,hT,ht,hg⟩:=hr pins { s3 with heap:=s3.heap.push { cls:=.type "slice", data:=.fields #[vl,vu,.none] } } σ H3 x v vl vu l u s3.heap.objs.size Q I4 r1 (Heap.IsSliceOf.new ..) pl pu q3
 show wpAny (model X.prog X.w) X.A (subscriptTail e (.Slice lo hi none p2) v (.ref s3.heap.objs.size)) (EP X pins σ Q) X.xe { s3 with heap:=s3.heap.push { cls:=.type "slice", data:=.fields #[vl,vu,.none] } }
 exact tail_any (ops:=[.ref s3.heap.objs.size,v]) ht hT hg (by with_unfolding_all rfl)
def cutV (xs:List V) (lo hi:Option Int):List V:=(xs.drop (HT.sIx xs.length 0 lo)).take (HT.sIx xs.length xs.length hi - HT.sIx xs.length 0 lo)
theorem xo (xs:List V) (lo hi:Option Int):(cutV xs lo hi).length<=xs.length:=by
 unfold cutV
 rw [zT,yH]
 omega
def rSlT (K:PySem.W.Frag):V->Option Int->Option Int->Hp->VK->Prop:=λx lo hi H Q=>∃ a xs,x=.ref a/\SqT K H a xs /\
 ¬ (HT.sIx xs.length 0 lo=0/\HT.sIx xs.length xs.length hi=xs.length)/\∀ p,H p=none->Q (.ref p) (upd H p (.tup (cutV xs lo hi)))
theorem sl_tup:SlR X (rSlT X.K):=by
 intro pins s σ H x v vl vu lo hi sl Q I rx hs pl pu h
 obtain ⟨a,xs,rfl,hx,hw,q⟩:=h
 cases rx
 obtain ⟨its,r,ht,hz⟩:=I.tuple hx
 have hlen:its.toArray.size=xs.length:=by rw [zP];exact r.length.symm
 refine ⟨"tuple", _,PyProof.Rows.slot_tuple_getitem.lookup,ht.typeIs,?_⟩
 refine HT.getItem_tuple_cut ht hs pl pu (by rw [hlen];exact hw) ?_ (by rw [hlen];exact hz)
 rw [hlen]
 refine ⟨.ref s.heap.objs.size,_,I.laid (t':=s.toks) (o:=.tup (cutV xs lo hi)) (λb ob q=>Heap.get?_push_of_some _ q) (zF _) ?_,rfl,q _ (I.hok.fresh (zF _))⟩
 exact ⟨⟨zk (xo xs lo hi) hz,new_bare⟩,_,(r.drop (HT.sIx xs.length 0 lo)).take (HT.sIx xs.length xs.length hi - HT.sIx xs.length 0 lo),IsTup.new _ _⟩
end
end L2
namespace L2
open PySem PySem.Spec PyProof.Rows
def ixN (n:Nat) (i:Int):Option Nat:=if 0<=i then (if i < n then some i.toNat else none) else if -(n:Int)<=i then some (i + n).toNat else none
def atI {α:Type} (xs:List α) (i:Int):Option α:=(ixN xs.length i).bind λj=>xs[j]?
theorem ixN_seq {n:Nat}{i:Int}{j:Nat} (h:ixN n i=some j):seqIndex? i n=some j/\j < n/\-(n:Int)<=i/\i < n:=by
 unfold ixN at h
 by_cases h0:0<=i
 ·rw [if_pos h0] at h
  by_cases h1:i < n
  ·rw [if_pos h1] at h
   have e:i.toNat=j:=Option.some.inj h
   exact ⟨by rw [seqIndex_of h0 h1,e],by omega,by omega,h1⟩
  ·rw [if_neg h1] at h;cases h
 ·rw [if_neg h0] at h
  by_cases h1:-(n:Int)<=i
  ·rw [if_pos h1] at h
   have e:(i + n).toNat=j:=Option.some.inj h
   exact ⟨by rw [seqIndex_neg (by omega) h1,e],by omega,h1,by omega⟩
  ·rw [if_neg h1] at h;cases h
theorem atI_get {α:Type}{xs:List α}{i:Int}{v:α} (h:atI xs i=some v):∃ j,seqIndex? i xs.length=some j/\xs[j]?=some v/\j < xs.length/\-(xs.length:Int)<=i/\i < xs.length:=by
 unfold atI at h
 cases e:ixN xs.length i with
 | none=>rw [e] at h;cases h
 | some j=>
  rw [e] at h
  obtain ⟨h1,h2,h3,h4⟩:=ixN_seq e
  exact ⟨j,h1,h,h2,h3,h4⟩
theorem xb {α:Type}{xs:List α}{j:Nat}{v:α} (h:xs[j]?=some v):atI xs (j:Int)=some v:=by
 have hj:j < xs.length:=(zH.mp h).1
 have e:ixN xs.length (j:Int)=some j:=by
  unfold ixN
  rw [if_pos (by omega),if_pos (by omega)];simp
 unfold atI;rw [e];exact h
def PlainIx (b:Expr):Prop:=∀ o i,subscripted b false o i=operate [o,i] (getItem o i)
def IxR (X:Cx) (r:R2):Prop:=
 ∀ (value slice:Expr) (pins:List (Addr×Obj)) (s:Shared) (σ:St) (H:Hp) (x y:V) (v u:Value) (Q:VK),Inv X pins σ H s->RelV x v->RelV y u->r x y H Q ->
  subscripted slice false v u=operate [v,u] (getItem v u)->wpAny (model X.prog X.w) X.A (subscriptTail value slice v u) (EP X pins σ Q) X.xe s
def MtR (X:Cx) (id:String) (r:V->List V->Hp->VK->Prop):Prop:=
 ∀ (pins:List (Addr×Obj)) (s:Shared) (σ:St) (H:Hp) (x:V) (xs:List V) (v:Value) (us:List Value) (Q:VK),Inv X pins σ H s->RelV x v->Vals xs us->r x xs H Q ->
  wpAny (model X.prog X.w) X.A (call (.builtin id) (v::us)) (EP X pins σ Q) X.xe s
section
variable {X:Cx}{a b:Expr}{ta tb:TE}{pos:Pos}
theorem xG {r:R2} (hr:IxR X r) (ha:PE X a ta) (hb:PE X b tb) (hs:PlainIx b):PE X (.Subscript a b pos) (tOp r ta tb):=by
 intro pins s σ H Q I h
 exact Subscript_ (binT ha hb I h λv u s2 x y H2 I2 rx ry q=>hr a b pins s2 σ H2 x y v u Q I2 rx ry q (hs _ _))
def rIxL (K:PySem.W.Frag):R2:=λx y H Q=>∃ p xs i v,x=.ref p/\y=.int i/\SqL K H p xs/\atI xs i=some v/\Q v H
def rIxT (K:PySem.W.Frag):R2:=λx y H Q=>∃ p xs i v,x=.ref p/\y=.int i/\SqT K H p xs/\atI xs i=some v/\Q v H
theorem ix_list:IxR X (rIxL X.K):=by
 intro value slice pins s σ H x y v u Q I rx ry h hs
 obtain ⟨p,xs,i,z,rfl,rfl,hq,he,q⟩:=h
 cases rx
 obtain ⟨t,rfl⟩:=ry
 obtain ⟨its,r,pl,hz⟩:=I.list hq
 obtain ⟨j,h1,h2,h3,h4,h5⟩:=atI_get he
 obtain ⟨w,ew,rw'⟩:=r.get h2
 have hl:=r.length
 have hn:=line63
 have fin:EP X pins σ Q w s:=⟨z,H,I,rw',q⟩
 by_cases h0:0<=i
 ·have hj:i.toNat=j:=by
   rw [seqIndex_of h0 h5] at h1
   exact Option.some.inj h1
  exact item_listR pl.isList h0 (by omega) (by rw [hj];simpa using ew) fin hs
 ·have hj:(i + (its.toArray.size:Int)).toNat=j:=by
   rw [seqIndex_neg (by omega) h4] at h1
   rw [zP,<- hl]
   exact Option.some.inj h1
  exact subscriptTail_builtinR (x:=w) pl.isList.typeIs slot_list_getitem.lookup
   (wpAny_getItem_list_neg (Q:=λr s'=>r=w/\EP X pins σ Q r s') pl.isList (by omega) (by rw [zP] <;> omega) (by omega) (by rw [hj];simpa using ew) ⟨rfl,fin⟩) hs
theorem ix_tup:IxR X (rIxT X.K):=by
 intro value slice pins s σ H x y v u Q I rx ry h hs
 obtain ⟨p,xs,i,z,rfl,rfl,hq,he,q⟩:=h
 cases rx
 obtain ⟨t,rfl⟩:=ry
 obtain ⟨its,r,pl,hz⟩:=I.tuple hq
 obtain ⟨j,h1,h2,h3,h4,h5⟩:=atI_get he
 obtain ⟨w,ew,rw'⟩:=r.get h2
 have hl:=r.length
 have hn:=line63
 have fin:EP X pins σ Q w s:=⟨z,H,I,rw',q⟩
 exact subscriptTail_builtinR (x:=w) pl.typeIs slot_tuple_getitem.lookup
  (getItem_tuple (j:=j) (Q:=λr s'=>r=w/\EP X pins σ Q r s') pl (by omega) (by omega) (by rw [zP,<- hl];exact h1) (by simpa using ew) ⟨rfl,fin⟩) hs
theorem mapSeq_set (its:List Value) (n j:Nat) (u:Value):Obj.mapSeq (·.setIfInBounds j u) { cls:=.type "list", data:=.seq its.toArray n }={ cls:=.type "list", data:=.seq (its.set j u).toArray n }:=by
 simp [Obj.mapSeq]
theorem Inv.lst {pins:List (Addr×Obj)}{σ:St}{H:Hp}{s:Shared}{p:Addr}{xs:List V} (I:Inv X pins σ H s) (h:H p=some (.lst xs)) :
  ∃ (its:List Value) (n:Nat),Vals xs its/\s.heap.get? p=some { cls:=.type "list", data:=.seq its.toArray n }/\xs.length<=sizeLine:=by
 obtain ⟨z,its,n,r,e⟩:=I.hok p _ h
 exact ⟨its,n,r,e,z⟩
theorem Inv.lstUpd {pins:List (Addr×Obj)}{σ:St}{H:Hp}{s:Shared}{p:Addr}{xs ys:List V}{its its':List Value}{n n':Nat}{f:Obj->Obj} (I:Inv X pins σ H s) (h:H p=some (.lst xs))
  (ho:s.heap.get? p=some { cls:=.type "list", data:=.seq its.toArray n }) (hf:f { cls:=.type "list", data:=.seq its.toArray n }={ cls:=.type "list", data:=.seq its'.toArray n' }) (r:Vals ys its') (hz:ys.length<=sizeLine) (t:Nat) :
  Inv X pins σ (upd H p (.lst ys)) { s with heap:=s.heap.update p f,toks:=t }:=by
 have e:(s.heap.update p f).get? p=some { cls:=.type "list", data:=.seq its'.toArray n' }:=by
  rw [Heap.get?_update_self f ho (by rw [hf] <;> rfl),hf]
 refine I.write (x:=p) (e:=p) (by rw [h];trivial) (.inl rfl) (λb u hb q=>(Heap.get?_update_other _ _ (Ne.symm hb)).trans q) ⟨_,e⟩ ?_
 exact ⟨hz,its',n',r,e⟩
def rSetL:V->V->V->Hp->(Hp->Prop)->Prop:=λo i v H Q=>∃ p xs k j,o=.ref p/\i=.int k/\H p=some (.lst xs)/\ixN xs.length k=some j/\Q (upd H p (.lst (xs.set j v)))
theorem set_list:PSet X rSetL:=by
 intro pins s σ H o i v ov iv u Q I ro ri rv h
 obtain ⟨p,xs,k,j,rfl,rfl,hp,hj,q⟩:=h
 cases ro
 obtain ⟨t,rfl⟩:=ri
 obtain ⟨its,n,r,ho,hz⟩:=I.lst hp
 obtain ⟨h1,h2,h3,h4⟩:=ixN_seq hj
 have hl:=r.length
 have hn:=line63
 have I':Inv X pins σ (upd H p (.lst (xs.set j v))) { s with heap:=s.heap.update p (Obj.mapSeq (·.setIfInBounds j u)) }:=
  I.lstUpd hp ho (mapSeq_set its n j u) (r.set rv j) (by rw [yo];exact hz) s.toks
 by_cases h0:0<=k
 ·have hk:k.toNat=j:=by
   rw [seqIndex_of h0 h4] at h1
   exact Option.some.inj h1
  exact PySem.W.ki_setAt ho h0 (by omega) (by rw [zP,<- hl];exact h4) (by rw [hk];exact ⟨_,I',q⟩)
 ·have hk:(k + (its.toArray.size:Int)).toNat=j:=by
   rw [seqIndex_neg (by omega) h3] at h1
   rw [zP,<- hl]
   exact Option.some.inj h1
  exact PySem.W.ki_setBack ho (by omega) (by rw [zP,<- hl];exact h3) (by omega) (by rw [hk];exact ⟨_,I',q⟩)
theorem slice_bounds (lo hi:Option Int) (n:Nat):(sliceBounds lo hi none n).1=((HT.sIx n 0 lo:Nat):Int)/\(sliceBounds lo hi none n).2.1=((HT.sIx n n hi:Nat):Int)/\(sliceBounds lo hi none n).2.2=1:=by
 refine ⟨?_,?_,rfl⟩
 ·cases lo with
  | none=>simp [sliceBounds,HT.sIx]
  | some i=>
   simp only [sliceBounds,HT.sIx,Option.getD_none,show (1:Int) > 0 by decide,if_true]
   by_cases h:i < 0
   ·simp only [h,if_true] <;> omega
   ·simp only [h,if_false] <;> omega
 ·cases hi with
  | none=>simp [sliceBounds,HT.sIx]
  | some i=>
   simp only [sliceBounds,HT.sIx,Option.getD_none,show (1:Int) > 0 by decide,if_true]
   by_cases h:i < 0
   ·simp only [h,if_true] <;> omega
   ·simp only [h,if_false] <;> omega
theorem slicePick_cut (its:List Value) (lo hi:Option Int):slicePick its.toArray lo hi none=((its.drop (HT.sIx its.length 0 lo)).take (HT.sIx its.length its.length hi - HT.sIx its.length 0 lo)).toArray:=by
 obtain ⟨h1,h2,h3⟩:=slice_bounds lo hi its.toArray.size
 unfold slicePick
 rw [h1,h2,h3]
 simp only [sliceRange_one,pick_run,zP] <;> rfl
def rSlL (K:PySem.W.Frag):V->Option Int->Option Int->Hp->VK->Prop:=λx lo hi H Q=>∃ a xs,x=.ref a/\SqL K H a xs/\∀ p,H p=none->Q (.ref p) (upd H p (.lst (cutV xs lo hi)))
theorem sl_list:SlR X (rSlL X.K):=by
 intro pins s σ H x v vl vu lo hi sl Q I rx hs pl pu h
 obtain ⟨a,xs,rfl,hx,q⟩:=h
 cases rx
 obtain ⟨its,r,ht,hz⟩:=I.list hx
 have hlen:=r.length
 refine ⟨"list", _,slot_list_getitem.lookup,ht.isList.typeIs,?_⟩
 refine wpAny_getItem_list_slice ht.isList hs pl pu .none (by simp) ?_ (by rw [zP] <;> omega)
 rw [slicePick_cut,<- hlen]
 refine ⟨.ref s.heap.objs.size,_,I.laid (t':=s.toks) (o:=.lst (cutV xs lo hi)) (λb ob q=>Heap.get?_push_of_some _ q) (zF _) ?_,rfl,q _ (I.hok.fresh (zF _))⟩
 exact ⟨zk (xo xs lo hi) hz,_,0,(r.drop (HT.sIx xs.length 0 lo)).take (HT.sIx xs.length xs.length hi - HT.sIx xs.length 0 lo),Heap.get?_push_size _ rfl⟩
def flatV:V->Bool
 | .non=>true
 | .bl _=>true
 | .int _=>true
 | .str _=>true
 | _=>false
def eqV:V->V->Bool
 | .non,.non=>true
 | .bl a,.bl b=>a == b
 | .bl a,.int b=>(if a then 1 else 0) == b
 | .int a,.bl b=>a == (if b then 1 else 0)
 | .int a,.int b=>a == b
 | .str a,.str b=>a == b
 | _,_=>false
theorem eqAt_V {A:Around}{s:Shared}{y x:V}{u v:Value} (ry:RelV y u) (rx:RelV x v) (fy:flatV y=true) (fx:flatV x=true):SeqAt.EqAt A s u v (eqV y x):=by
 cases y with
 | non=>
  cases ry
  cases x with
  | non=>cases rx;exact SeqAt.EqAt.same _
  | bl b=>cases rx;exact SeqAt.EqAt.none_bool b
  | int b=>obtain ⟨t,rfl⟩:=rx;exact SeqAt.EqAt.none_int b t
  | str b=>obtain ⟨t,rfl⟩:=rx;exact SeqAt.EqAt.none_str b t
  | _=>exact absurd (show false=true from fx) zO
 | bl a=>
  cases ry
  cases x with
  | non=>cases rx;exact SeqAt.EqAt.bool_none a
  | bl b=>cases rx;exact SeqAt.EqAt.bool_bool a b
  | int b=>obtain ⟨t,rfl⟩:=rx;exact SeqAt.EqAt.bool_int a b t
  | str b=>obtain ⟨t,rfl⟩:=rx;exact SeqAt.EqAt.bool_str a b t
  | _=>exact absurd (show false=true from fx) zO
 | int a=>
  obtain ⟨t',rfl⟩:=ry
  cases x with
  | non=>cases rx;exact SeqAt.EqAt.int_none a t'
  | bl b=>cases rx;exact SeqAt.EqAt.int_bool a t' b
  | int b=>obtain ⟨t,rfl⟩:=rx;exact SeqAt.EqAt.int_int a t' b t
  | str b=>obtain ⟨t,rfl⟩:=rx;exact SeqAt.EqAt.int_str a t' b t
  | _=>exact absurd (show false=true from fx) zO
 | str a=>
  obtain ⟨t',rfl⟩:=ry
  cases x with
  | non=>cases rx;exact SeqAt.EqAt.str_none a t'
  | bl b=>cases rx;exact SeqAt.EqAt.str_bool a t' b
  | int b=>obtain ⟨t,rfl⟩:=rx;exact SeqAt.EqAt.str_int a t' b t
  | str b=>obtain ⟨t,rfl⟩:=rx;exact SeqAt.EqAt.str_str a t' b t
  | _=>exact absurd (show false=true from fx) zO
 | _=>exact absurd (show false=true from fy) zO
def eqU (x:V) (u:Value):Bool:=match u with
 | .none=>eqV .non x
 | .bool b=>eqV (.bl b) x
 | .int i _=>eqV (.int i) x
 | .str z _=>eqV (.str z) x
 | _=>false
theorem eqU_of {x y:V}{u:Value} (r:RelV y u) (f:flatV y=true):eqU x u=eqV y x:=by
 cases y with
 | non=>cases r;rfl
 | bl b=>cases r;rfl
 | int i=>obtain ⟨t,rfl⟩:=r;rfl
 | str z=>obtain ⟨t,rfl⟩:=r;rfl
 | _=>exact absurd (show false=true from f) zO
theorem any_eqU {x:V}:∀ {xs:List V}{us:List Value},Vals xs us->xs.all flatV=true->us.any (eqU x)=xs.any λy=>eqV y x
 | _,_,.nil,_=>rfl
 | y::xs,u::us,.cons r t,f=>by
  rw [yR,zd] at f
  rw [List.any_cons,List.any_cons,eqU_of r f.1,any_eqU t f.2]
theorem mem_eqAt {A:Around}{s:Shared}{x:V}{v:Value} (rx:RelV x v) (fx:flatV x=true):∀ {xs:List V}{us:List Value},Vals xs us->xs.all flatV=true->∀ u∈us,SeqAt.EqAt A s u v (eqU x u)
 | _,_,.nil,_=>λu hu=>by cases hu
 | y::xs,u::us,.cons r t,f=>λu' hu=>by
  rw [yR,zd] at f
  rcases zE.mp hu with rfl | hu
  ·rw [eqU_of r f.1];exact eqAt_V r rx f.1 fx
  ·exact mem_eqAt rx fx t f.2 u' hu
def inV (x:V) (xs:List V):Bool:=xs.any λy=>eqV y x
def rIn (K:PySem.W.Frag) (neg:Bool):R2:=λx y H Q=>∃ p xs,y=.ref p/\(SqL K H p xs\/SqT K H p xs)/\flatV x=true/\xs.all flatV=true/\Q (.bl (if neg then !inV x xs else inV x xs)) H
theorem op_in_seq:OpR X (compareOp .In) (rIn X.K false):=by
 intro pins s σ H x y v u Q I rx ry h
 obtain ⟨p,xs,rfl,hq,fx,fs,q⟩:=h
 cases ry
 rcases hq with hq | hq
 ·obtain ⟨its,r,pl,hz⟩:=I.list hq
  refine SeqAt.in_listAt (eqU x) pl.isList (λw hw=>mem_eqAt rx fx r fs w (by simpa using hw)) ⟨.bl _,H,I,rfl,?_⟩
  rw [show its.toArray.any (eqU x)=its.any (eqU x) by simp,any_eqU r fs]
  exact q
 ·obtain ⟨its,r,pl,hz⟩:=I.tuple hq
  refine SeqAt.in_tupleAt (eqU x) pl (λw hw=>mem_eqAt rx fx r fs w (by simpa using hw)) ⟨.bl _,H,I,rfl,?_⟩
  rw [show its.toArray.any (eqU x)=its.any (eqU x) by simp,any_eqU r fs]
  exact q
theorem call_len_seq:CallR X (.builtin "len") (λxs H Q=>∃ p ys,xs=[.ref p]/\(SqL X.K H p ys\/SqT X.K H p ys)/\Q (.int ys.length) H):=by
 intro pins s σ H xs us Q I r h
 obtain ⟨p,ys,rfl,hq,q⟩:=h
 obtain ⟨u,rfl,rx⟩:=vals1 r
 cases rx
 have hn:=line63
 rcases hq with hq | hq
 ·obtain ⟨its,r',pl,hz⟩:=I.list hq
  have hlen:=r'.length
  exact Calls.call_len_list pl.isList (by simp only [zP] <;> omega) ⟨.int ys.length,H,I.tok _,⟨s.toks + 1,by rw [zP,hlen]⟩,q⟩
 ·obtain ⟨its,r',pl,hz⟩:=I.tuple hq
  have hlen:=r'.length
  exact len_tuple pl (by simp only [zP] <;> omega) ⟨.int ys.length,H,I.tok _,⟨s.toks + 1,by rw [zP,hlen]⟩,q⟩
theorem call_list_of:CallR X (.type "list") (λxs H Q=>∃ p ys,xs=[.ref p]/\(SqL X.K H p ys\/SqT X.K H p ys)/\∀ l,H l=none->Q (.ref l) (upd H l (.lst ys))):=by
 intro pins s σ H xs us Q I r h
 obtain ⟨p,ys,rfl,hq,q⟩:=h
 obtain ⟨u,rfl,rx⟩:=vals1 r
 cases rx
 have fin:∀ (its:List Value),Vals ys its->ys.length<=sizeLine->∀ (h':Heap) (c':Nat),(∀ b o',s.heap.get? b=some o'->h'.get? b=some o') ->
   h'.get? s.heap.objs.size=some { cls:=.type "list", dict:=none,data:=.seq its.toArray c',slots:=#[] }->EP X pins σ Q (.ref s.heap.objs.size) { s with heap:=h' }:=λits r' hz h' c' kp e=>
  ⟨.ref s.heap.objs.size,_,I.laid (t':=s.toks) kp (zF _) (show ObjOk X.prog X.w _ h' _ (.lst ys) from ⟨hz,its,c',r',e⟩),rfl,q _ (I.hok.fresh (zF _))⟩
 rcases hq with hq | hq
 ·obtain ⟨its,r',pl,hz⟩:=I.list hq
  have hlen:=r'.length
  obtain ⟨o,ho,hc,n,hd⟩:=pl.isList
  exact call_list_seq p (.inl rfl) ho hc hd (λh' c' kp e=>fin its r' hz h' c' kp e) (by simp only [zP] <;> omega)
 ·obtain ⟨its,r',pl,hz⟩:=I.tuple hq
  have hlen:=r'.length
  obtain ⟨o,ho,hc,n,hd⟩:=pl
  exact call_list_seq p (.inr rfl) ho hc hd (λh' c' kp e=>fin its r' hz h' c' kp e) (by simp only [zP] <;> omega)
theorem wV:CallR X (.type "tuple") (λxs H Q=>∃ p ys,xs=[.ref p]/\((SqL X.K H p ys/\∀ l,H l=none->Q (.ref l) (upd H l (.tup ys)))\/(SqT X.K H p ys/\Q (.ref p) H))):=by
 intro pins s σ H xs us Q I r h
 obtain ⟨p,ys,rfl,h⟩:=h
 obtain ⟨u,rfl,rx⟩:=vals1 r
 cases rx
 rcases h with ⟨hq,q⟩ | ⟨hq,q⟩
 ·obtain ⟨its,r',pl,hz⟩:=I.list hq
  have hlen:=r'.length
  refine call_tuple_list pl.isList (λh' kp=>?_) (by simp only [zP] <;> omega)
  have I1:Inv X pins σ H { s with heap:=h' }:=I.kept (t':=s.toks) kp
  have I2:Inv X pins σ (upd H h'.objs.size (.tup ys)) { s with heap:=h'.push { cls:=.type "tuple", data:=.seq its.toArray } }:=
   I1.laid (t':=s.toks) (λb o e=>Heap.get?_push_of_some _ e) (zF _) (show ObjOk X.prog X.w _ _ _ (.tup ys) from ⟨⟨hz,new_bare⟩,its,r',IsTup.new _ _⟩)
  exact ⟨.ref h'.objs.size,_,I2,rfl,q _ (I1.hok.fresh (zF _))⟩
 ·obtain ⟨its,r',pl,hz⟩:=I.tuple hq
  exact call_tuple_same pl ⟨.ref p,H,I,rfl,q⟩
def tyV (K:PySem.W.Frag) (T:String) (x:V) (H:Hp):Prop:=match x with
 | .str _=>T = "str"
 | .int _=>T = "int"
 | .ref p=>(T = "list" /\ ∃ xs,SqL K H p xs)\/(T = "tuple" /\ ((∃ o,K.lookup p=some o/\o.cls=.type "tuple" /\ o.dict=none)\/∃ xs,H p=some (.tup xs))) \/
   (T = "dict" /\ ((∃ kvs,H p=some (.dK kvs))\/∃ kvs,H p=some (.dT kvs)))\/(T = "set" /\ ∃ S n,H p=some (.set S n))
 | _=>False
theorem tyV_is {pins:List (Addr×Obj)}{σ:St}{H:Hp}{s:Shared}{T:String}{x:V}{v:Value} (I:Inv X pins σ H s) (r:RelV x v) (ty:tyV X.K T x H) :
  s.TypeIs v T/\∀ a,v=.ref a->∃ ob,s.heap.get? a=some ob/\ob.dict=none:=by
 cases x with
 | str z=>
  obtain ⟨t,rfl⟩:=r
  cases (show T = "str" from ty)
  exact ⟨typeIs_str s z t,λ_ e=>nomatch e⟩
 | int i=>
  obtain ⟨t,rfl⟩:=r
  cases (show T = "int" from ty)
  exact ⟨typeIs_int s i t,λ_ e=>nomatch e⟩
 | ref p=>
  cases r
  rcases ty with ⟨rfl,xs,hq⟩ | ⟨rfl,⟨o,hk,hc,hd⟩ | ⟨xs,hk⟩⟩ | ⟨rfl,hk⟩ | ⟨rfl,S,n,hk⟩
  ·obtain ⟨its,_,pl,_⟩:=I.list hq
   refine ⟨pl.isList.typeIs,λa e=>?_⟩
   cases e
   obtain ⟨o,n,e,c,hd,_⟩:=pl
   exact ⟨o,e,hd⟩
  ·refine ⟨⟨o,I.kIn p o hk,hc⟩,λa e=>?_⟩
   cases e
   exact ⟨o,I.kIn _ o hk,hd⟩
  ·obtain ⟨nb,_,_,o,e,c,_⟩:=I.hok p _ hk
   exact ⟨⟨o,e,c⟩,λa z=>by cases z;exact ⟨o,e,nb.2 o e⟩⟩
  ·have z:∃ o,s.heap.get? p=some o/\o.ExactDict:=by
    rcases hk with ⟨kvs,hk⟩ | ⟨kvs,hk⟩
    ·obtain ⟨_,_,_,_,o,_,_,e,ex,_⟩:=I.hok p _ hk
     exact ⟨o,e,ex⟩
    ·obtain ⟨_,_,_,_,o,_,_,e,ex,_⟩:=I.hok p _ hk
     exact ⟨o,e,ex⟩
   obtain ⟨o,e,ex⟩:=z
   refine ⟨⟨o,e,ex.1⟩,λa e2=>?_⟩
   cases e2
   exact ⟨o,e,ex.2.1⟩
  ·obtain ⟨o,_,_,_,e,ex,_⟩:=I.hok p _ hk
   refine ⟨⟨o,e,ex.1⟩,λa e2=>?_⟩
   cases e2
   exact ⟨o,e,ex.2.1⟩
 | _=>exact False.elim ty
def tBM (K:PySem.W.Frag) (T:String) (r:V->List V->Hp->VK->Prop) (to:TE) (t:TA):TE:=fun σ H Q=>to σ H λx H1=>tyV K T x H1/\t σ H1 λxs H2=>r x xs H2 Q
variable {o e:Expr}{es:List Expr}{to:TE}{t:TA}{name:Str}{apos cpos:Pos}{T id:String}{r:V->List V->Hp->VK->Prop}
theorem pe_bm (pa:PlainAttrs T) (slot:Slot T name id) (hty:typeOf (.builtin id)=pure (.type "method_descriptor")) (hm:MtR X id r) (ho:PE X o to) (ha:PA X (e::es) t)
  (hbase:attributeBase o name X.env (eval o X.env)=eval o X.env:=by rfl)
  (hfew:((backTo cpos (starEach (e::es) X.env)).all (λx=>!x.1) && (backToKw cpos (keywordEach [] X.env)).all (λx=>x.1.isSome)
   && decide ((e::es).length + ([]:List Keyword).length + (if ([]:List Keyword).isEmpty then 0 else 1) < 30))=true:=by rfl)
  (hline:(apos.endLine == cpos.line)=true:=by rfl) (hs:starEach (e::es) X.env=(false,eval e X.env)::starEach es X.env:=by rfl) (hplain:(backTo cpos (starEach es X.env)).any (·.1)=false:=by rfl) :
  PE X (.Call (.Attribute o name apos) (e::es) [] cpos) (tBM X.K T r to t):=by
 intro pins s σ H Q I h
 refine wpAny_Call_method_late hbase hfew hline rfl (thn (ho pins s σ H _ I h) λv s1 ⟨x,H1,I1,r1,ty,q1⟩=>?_)
 obtain ⟨h1,h2⟩:=tyV_is I1 r1 ty
 refine ⟨T,id,pa,slot,hty,h1,h2,?_⟩
 have hA:=ha cpos pins s1 σ H1 _ I1 q1
 rw [hs] at hA ⊢
 refine Calls.callWith_builtin (by show (false || (backTo cpos (starEach es X.env)).any (·.1))=false;rw [hplain] <;> rfl) (Calls.evalArgs_plain ?_)
 exact thn hA λus s2 ⟨vs,H2,I2,r2,q2⟩=>hm pins s2 σ H2 x vs v us Q I2 r1 r2 q2
/- xs.append(e),list.index on a module's tuple .. are MtR facts of 06m -/
end
end L2
namespace L2
open PySem PySem.Spec PyProof.Rows
def MtM (X:Cx) (id:String) (r:V->List V->Hp->VK->Prop):Prop:=
 ∀ (pins:List (Addr×Obj)) (s:Shared) (σ:St) (H:Hp) (x:V) (xs:List V) (v:Value) (us:List Value) (Q:VK),Inv X pins σ H s->RelV x v->Vals xs us->r x xs H Q ->
  wpAny (model X.prog X.w) X.A (call (.builtin id) (v::us)) (EP X pins σ Q) X.xe s
theorem Vals.one:∀ {x:V}{us:List Value},Vals [x] us->∃ u,us=[u]/\RelV x u
 | _,_,.cons r .nil=>⟨_,rfl,r⟩
section
variable {X:Cx}{pins:List (Addr×Obj)}{σ:St}{H:Hp}{s:Shared}{l b:Addr}{xs ys zs:List V}
theorem Inv.lset {its its':List Value}{n:Nat}{f:Array Value->Array Value}{t':Nat} (I:Inv X pins σ H s) (hH:H l=some (.lst xs))
  (e:s.heap.get? l=some { cls:=.type "list", data:=.seq its.toArray n }) (hf:f its.toArray=its'.toArray) (hv:Vals ys its') (hz:ys.length<=sizeLine) :
  Inv X pins σ (upd H l (.lst ys)) { s with heap:=s.heap.update l (Obj.mapSeq f),toks:=t' }:=by
 have q:=PySem.IsL.update e f
 rw [hf] at q
 refine I.write (x:=l) (e:=l) (by rw [hH];exact trivial) (.inl rfl) (λb' u hb hu=>(Heap.get?_update_other s.heap (Obj.mapSeq f) (Ne.symm hb)).trans hu) ⟨_,q⟩ ?_
 exact ⟨hz,its',_,hv,q⟩
theorem Inv.lnew {its:List Value}{t':Nat} (I:Inv X pins σ H s) (hv:Vals ys its) (hz:ys.length<=sizeLine) :
  Inv X pins σ (upd H s.heap.objs.size (.lst ys)) { s with heap:=s.heap.push { cls:=.type "list", data:=.seq its.toArray },toks:=t' }:=
 I.laid (λ_ _ q=>Heap.get?_push_of_some _ q) (zF _) ⟨hz,its,0,hv,Heap.get?_push_size _ rfl⟩
theorem Inv.fresh (I:Inv X pins σ H s):H s.heap.objs.size=none:=I.hok.fresh (zF _)
theorem Inv.lstM (I:Inv X pins σ H s) (hH:H l=some (.lst xs)):xs.length<=sizeLine/\∃ (its:List Value) (n:Nat),Vals xs its/\xs.length=its.length/\s.heap.get? l=some { cls:=.type "list", data:=.seq its.toArray n }:=by
 obtain ⟨z,its,n,r,e⟩:=I.hok l _ hH
 exact ⟨z,its,n,r,r.length,e⟩
end
section
variable {X:Cx}
def rAppend:V->List V->Hp->VK->Prop:=λx vs H Q=>∃ l xs y,x=.ref l/\vs=[y]/\H l=some (.lst xs)/\xs.length < sizeLine/\Q .non (upd H l (.lst (xs++[y])))
theorem mt_append:MtM X "list.append" rAppend:=by
 intro pins s σ H x vs v us Q I rx rv h
 obtain ⟨l,xs,y,rfl,rfl,hH,hz,q⟩:=h
 cases rx
 obtain ⟨u,rfl,ru⟩:=rv.one
 obtain ⟨z,its,n,r,hl,e⟩:=I.lstM hH
 refine call_meets F.slot_list_append ⟨_,e,rfl⟩ F.entry_list_append (F.args_list_append_2 _ _) (PySem.list_append l its.toArray n u (by rw [zP];omega)) ⟨e,?_⟩
 refine ⟨.non,_,I.lset (its':=its++[u]) hH e (by simp) (r.append (.cons ru .nil)) ?_,rfl,q⟩
 rw [zK,yd]
 omega
def rCat:R2:=λx y H Q=>∃ l b xs zs,x=.ref l/\y=.ref b/\H l=some (.lst xs)/\H b=some (.lst zs)/\xs.length + zs.length<=sizeLine/\∀ p,H p=none->Q (.ref p) (upd H p (.lst (xs++zs)))
theorem op_cat:OpR X (binaryOp .Add) rCat:=by
 intro pins s σ H x y v u Q I rx ry h
 obtain ⟨l,b,xs,zs,rfl,rfl,hH,hB,hz,q⟩:=h
 cases rx
 cases ry
 obtain ⟨z,its,n,r,hl,e⟩:=I.lstM hH
 obtain ⟨z2,its2,n2,r2,hl2,e2⟩:=I.lstM hB
 refine PySem.P.add_list e e2 ?_ (by rw [zP,zP];omega)
 have ea:its.toArray++its2.toArray=(its++its2).toArray:=by simp
 rw [ea]
 exact ⟨.ref _,_,I.lnew (t':=s.toks) (r.append r2) (by rw [zK];omega),rfl,q _ I.fresh⟩
end
section
variable {prog:Program}{w:World}{A:Around}{E:Value->Shared->Prop}{s:Shared}
set_option maxRecDepth 100000 in
end
section
variable {X:Cx}
end
end L2
namespace Att
open PySem PySem.W PySem.Calls PyProof.Rows
theorem ints_of_wellAll {P:Params}{h:Heap}:∀ (ns:List Int) (vs:List Value),WellAll P h vs (ns.map WData.int)->IntsAre vs ns:=by
 intro ns
 induction ns with
 | nil=>
  intro vs w
  rw [yZ] at w
  cases w
  exact .nil
 | cons n ns ih=>
  intro vs w
  rw [zt] at w
  cases w with
  | cons a b=>
   cases a
   exact .cons _ _ (ih _ b)
theorem script_of {l:OpenLaw}{n:Nat} (hn:l.most=some n) {P:Params}{h:Heap}{args:List WData}{vals:List Value}
  (hpre:l.row.toRowW.claim.pre args=true) (hwl:WellAll P h vals args) :
  ∃ a vs ns,vals=[Value.ref a]/\args=[WData.list (ns.map WData.int)]/\h.get? a=some { cls:=.type "list", data:=.seq vs.toArray }/\IntsAre vs ns/\ns.length<=n:=by
 have hsh:WShape.hasAll [] args [.list .int]=true:=(pre_splitW hpre).1
 have hc:l.pre.holds [] { args:=args }=true:=(pre_splitW hpre).2
 obtain ⟨d,r,rfl,h1,h2⟩:=hasAllW_cons hsh
 obtain rfl:=hasAllW_nil h2
 obtain ⟨xs,rfl,h3⟩:=hasW_list h1
 obtain ⟨ns,rfl⟩:=items_int h3
 have hlen:ns.length<=n:=by
  unfold OpenLaw.pre at hc
  have h4:(WTm.not (.lt (.lit (.int (n:Int))) (.len (.arg 0)))).holds [] { args:=[.list (ns.map .int)] }=true:=by
   have h4:=(holds_andW hc).1
   rw [hn] at h4
   exact h4
  have h5:=condW_of h4 (w_not (w_lt w_lit (w_len_list (w_arg rfl))))
  rw [zA] at h5
  refine Nat.le_of_not_lt λq=>?_
  have q':(n:Int) < ((ns.length:Nat):Int):=by omega
  first
   | (rw [decide_eq_true q'] at h5;exact absurd h5 (by decide))
   | (simp at h5;omega)
 cases hwl with
 | cons w1 w2=>
  cases w2
  cases w1 with
  | list ho hall=>exact ⟨_,_,ns,rfl,rfl,ho,ints_of_wellAll ns _ hall,hlen⟩
theorem post_true (l:OpenLaw) (args:List WData):l.row.toRowW.claim.post args (.bool true) args=true:=
 postW_of (r:=l.row.toRowW) (X:=(true == true))
  (show WShape.has [] (.bool true) .bool=true by first | rfl | decide | simp [WShape.has,WShape.arms,WShape.armsAll])
  (show (WTm.eq .res (.lit (.bool true))).value [] { args:=args,res:=some (.bool true),after:=args }=some (.bool (true == true)) from w_eq_bool (w_res rfl) w_lit) rfl
theorem attach_call {l:OpenLaw}{n:Nat}{q:Program}{loose:List Str}{XP:(Str->Option Value)->Heap->Prop}{YP:World->Heap->Prop}{d:DefRec}
  (hn:l.most=some n) (hdf:d.params.defaults=[])
  (call:∀ (w:World) (s₀ s₁:Shared) (mg mb:Str->Option Value) (fa:Addr) (o:Obj) (pm cd doc:Value) (a:Addr) (vs:List Value) (ns:List Int),
   Ground q loose [] XP w s₀ mg mb s₁.heap->YP w s₁.heap ->
   s₁.heap.get? fa=some o->o.data=.func (docDef d.name d.params d.body d.scope pm cd doc)->s₁.heap.CodeRec cd d.name->mg d.name=some (.ref fa) ->
   s₁.heap.get? a=some { cls:=.type "list", data:=.seq vs.toArray }->IntsAre vs ns->ns.length<=n->s₁.gens=#[] ->
   codeAny (model l.prog w) callerA (.call (.ref fa) ⟨[.ref a],[]⟩) (λr s'=>r=.ok (.ret (.bool true))/\OldK s₁.heap s'.heap/\s'.os=s₁.os/\AllBare s'.gens) s₁) :
  WalkO q loose XP YP l.row.toRowW d [] (λf vs=>PySem.call f vs):=by
 intro w s₀ s₁ mg mb G Y fa o pm cd doc dV kV ho hd hcd hD hmg hg args vals as hpre hlay hrd hwl hlo
 obtain rfl:dV=.none:=Dflts.none hD hdf
 obtain rfl:kV=.none:=Dflts.noKw hD
 obtain ⟨a,vs,ns,rfl,rfl,hobj,hints,hlen⟩:=script_of hn hpre hwl
 refine enter_call (codeAny_mono (call w s₀ s₁ mg mb fa o pm cd doc a vs ns G Y ho (fd_plain hd) hcd hmg hobj hints hlen hg) λr s' hq=>?_)
 obtain ⟨rfl,h2,h3,h4⟩:=hq
 exact ⟨.inl ⟨.bool true,.bool true,[],rfl,λ_=>rfl,.bool true,post_true l _,λ_=>⟨List.Pairwise.nil,λ_ hm=>(nomatch hm)⟩⟩,h2,h3,h4⟩
section
variable {prog:Program}{w:World}{A:Around}{E:Value->Shared->Prop}{s:Shared}{K:Frag}
def ledger (h:Heap) (L d:Addr):List (Addr×Obj):=(List.range h.objs.size).filterMap λa=>if a=L\/a=d then none else (h.get? a).map λo=>(a,o)
end
end Att
namespace L2
open PySem PySem.Spec PyProof.Rows
theorem vals_ints:∀ {vs:List Value}{ns:List Int},IntsAre vs ns->Vals (ns.map V.int) vs
 | _,_,.nil=>.nil
 | _,_,.cons n t h=>.cons ⟨t,rfl⟩ (vals_ints h)
def Only (H:Hp):Prop:=∀ b,H b=none\/∃ o xs,H b=some (.frz o (.lst xs))
theorem law_call {P:Program}{w:World}{K:PySem.W.Frag}{mg mb:Str->Option Value}{CX:CXT}{k:Nat}{fa a:Addr}{fd:FuncData}{x:Str}{sp:Sp}{s₁:Shared}{vs:List Value}{ns:List Int}
  (KX:K.In s₁.heap) (hns:s₁.heap.Ns mainGlobals mg) (hb:s₁.heap.Ns builtinsNs mb) (hbb:∀ x:Str,x ≠ "__name__" -> mb x=bootBuiltins x) (hlim:s₁.heap.NoLimit) (hg:s₁.gens=#[])
  (ha:s₁.heap.get? a=some { cls:=.type "list", data:=.seq vs.toArray }) (hi:IntsAre vs ns) (hl:ns.length<=sizeLine) (hr:Room k callerA)
  (F:∀ base:Heap,K.In base->base.Ns mainGlobals mg->FnOk P w K mg base CX k fa fd [x] sp) (hbind:∀ (s:Shared) (u:Value),BindsTo s fd ⟨[u],[]⟩ [(x,u)])
  (hsp:∀ H:Hp,Only H->SqL K H a (ns.map V.int)->sp [.ref a] H (λv _=>v=.bl true) λ_ _ _=>False)
  (hCX:∀ H e s',CX [] H s₁ (λ_ _ _=>False) e s'->False) :
  codeAny (model P w) callerA (.call (.ref fa) ⟨[.ref a],[]⟩) (λr s'=>r=.ok (.ret (.bool true))/\OldK s₁.heap s'.heap/\s'.os=s₁.os/\AllBare s'.gens) s₁:=by
 have rv:=vals_ints hi
 have lenV:=hi.length
 -- from an abstract heap in which nothing but the script may be tracked
 have core:∀ H:Hp,Only H->SqL K H a (ns.map V.int)->HOk P w H s₁.heap->(∀ b,H b≠none->b=a)->(H a≠none->K.lookup a=none) ->
   codeAny (model P w) callerA (.call (.ref fa) ⟨[.ref a],[]⟩) (λr s'=>r=.ok (.ret (.bool true))/\OldK s₁.heap s'.heap/\s'.os=s₁.os/\AllBare s'.gens) s₁:=by
  intro H hO hS hok hA hK
  have base_of:∀ {b:Addr}{o:Obj},s₁.heap.get? b=some o->H b=none->(hidT s₁.heap H).get? b=some o:=λe n=>hidT_get e n
  have noA:∀ {b:Addr}{o:Obj}{es:Array DictEntry}{ep:Nat},s₁.heap.get? b=some o->o.data=.dict es ep->H b=none:=λ{b o es ep} e d=>by
   cases q:H b with
   | none=>rfl
   | some u=>
    have e':b=a:=hA b (by rw [q];simp)
    subst e'
    rw [ha] at e;cases e
    have d':Data.seq vs.toArray _=Data.dict es ep:=d
    cases d'
  have nsK:∀ {b:Addr}{m:Str->Option Value},s₁.heap.Ns b m->(hidT s₁.heap H).Ns b m:=λ{b m} ⟨o,es,ep,e,d,r⟩=>⟨o,es,ep,base_of e (noA e d),d,r⟩
  have hKb:K.In (hidT s₁.heap H):=λb o e=>base_of (KX b o e) (by
   cases q:H b with
   | none=>rfl
   | some u=>
    have e':b=a:=hA b (by rw [q];simp)
    subst e'
    rw [hK (by rw [q];simp)] at e;cases e)
  have hM:Mod K mg (hidT s₁.heap H):=⟨hKb,nsK hns,⟨mb,nsK hb,hbb⟩,let ⟨mc,h1,h2⟩:=hlim;⟨mc,nsK h1,h2⟩⟩
  have e0:Env0 P w K mg (hidT s₁.heap H) callerA [] s₁ H:=⟨rfl,hM,λb o e=>of_hidT e,Nat.le_of_eq (hidT_size _ _),trivial,λb hb=>absurd (show b∈([]:List Addr) from hb) (by simp),hok,.of_eq hg⟩
  refine codeAny_mono ((F _ hKb (nsK hns)).run callerA [] s₁ H ⟨[.ref a],[]⟩ [.ref a] [.ref a] _ _ hr e0 (hbind s₁ (.ref a)) (.cons rfl .nil) (hsp H hO hS)) λr s' h=>?_
  cases r with
  | error e=>exact (hCX H e s' h).elim
  | ok fl=>
   cases fl with
   | next=>exact False.elim h
   | brk=>exact False.elim h
   | cont=>exact False.elim h
   | ret u=>
    obtain ⟨v,H',os,bare,un,hok',r',q⟩:=h
    have q':v=.bl true:=q
    subst q'
    obtain rfl:u=Value.bool true:=r'
    refine ⟨rfl,OldK.of_keep λb o e=>?_,os,bare⟩
    cases q:H b with
    | none=>exact un.keep b o e q (by intro z;exact absurd (show b∈([]:List Addr) from z) (by simp)) (by simp)
    | some u=>
     rcases hO b with z | ⟨ob,xs,z⟩
     ·rw [q] at z;cases z
     ·have z2:=un.frzs b ob _ z
      obtain ⟨e1,_⟩:=hok b _ z
      obtain ⟨e2,_⟩:=hok' b _ z2
      rw [e] at e1;cases e1
      exact e2
 cases hk:K.lookup a with
 | some o=>
  -- the script is one of the module's own objects
  have e:=KX a o hk
  rw [ha] at e
  cases e
  refine core (λ_=>none) (λ_=>.inl rfl) (.inr ⟨_,vs.toArray,_,hk,rfl,rfl,rfl,by rw [zP,lenV];exact hl,by simpa using rv⟩) (λb u z=>by have z':(none:Option HO)=some u:=z;cases z') (λb z=>absurd rfl z) λz=>absurd rfl z
 | none=>
  refine core (λb=>if b=a then some (.frz { cls:=.type "list", data:=.seq vs.toArray } (.lst (ns.map V.int))) else none) (λb=>?_) (.inl (.inr ⟨{ cls:=.type "list", data:=.seq vs.toArray },if_pos rfl⟩)) (λb u z=>?_) (λb z=>?_) λ_=>hk
  ·by_cases hb:b=a
   ·exact .inr ⟨_,_,if_pos hb⟩
   ·exact .inl (if_neg hb)
  ·by_cases hb:b=a
   ·have z':=(if_pos hb).symm.trans z
    cases z'
    subst hb
    exact ⟨ha,by rw [zA];exact hl,vs,_,rv,ha⟩
   ·have z':=(if_neg hb).symm.trans z
    cases z'
  ·by_cases hb:b=a
   ·exact hb
   ·exact absurd (if_neg hb) z
end L2
namespace L2
open PySem PySem.Spec PyProof.Rows
theorem walk_of {l:PySem.W.OpenLaw}{n k:Nat}{q:Program}{loose:List Str}{XP:(Str->Option Value)->Heap->Prop}{YP:World->Heap->Prop}{d:DefRec}{K:Params->PySem.W.Frag}{CX:World->CXT}{sp:World->Sp}{x:Str}
  (hn:l.most=some n) (hn2:n<=sizeLine) (hdf:d.params.defaults=[]) (hr:Room k callerA)
  (hY:∀ (w:World) (h:Heap),YP w h->(K w.params).In h)
  (F:∀ (w:World) (mg:Str->Option Value) (fa:Addr) (h:Heap),(K w.params).In h->h.Ns mainGlobals mg->mg d.name=some (.ref fa) ->
   ∃ fd:FuncData,(∀ (s:Shared) (u:Value),BindsTo s fd ⟨[u],[]⟩ [(x,u)]) /\
    ∀ base:Heap,(K w.params).In base->base.Ns mainGlobals mg->FnOk l.prog w (K w.params) mg base (CX w) k fa fd [x] (sp w))
  (hsp:∀ (w:World) (H:Hp) (a:Addr) (ns:List Int),ns.length<=n->Only H->SqL (K w.params) H a (ns.map V.int)->sp w [.ref a] H (λv _=>v=.bl true) λ_ _ _=>False)
  (hCX:∀ (w:World) (H:Hp) (s:Shared) (e:Value) (s':Shared),CX w [] H s (λ_ _ _=>False) e s'->False) :
  PySem.W.WalkO q loose XP YP l.row.toRowW d [] (λf vs=>PySem.call f vs):=by
 refine Att.attach_call hn hdf λw s₀ s₁ mg mb fa o pm cd doc a vs ns G Y ho hd hcd hmg hobj hints hlen hg=>?_
 have KX:=hY w _ Y
 obtain ⟨fd,hb,hF⟩:=F w mg fa _ KX G.T.g hmg
 exact law_call KX G.T.g G.T.b G.T.builtins G.T.nolimit hg hobj hints (zk hlen hn2) hr hF hb (λH hO hS=>hsp w H a ns hlen hO hS) λH e s'=>hCX w H s₁ e s'
end L2
namespace L2
open PySem PySem.Spec PyProof.Rows
def defArgs (s:Stmt):Arguments:=match s with
 | .FunctionDef _ a _ _ _ _ _ _ _ _=>a
 | _=>{ posonlyargs:=[],args:=[],vararg:=none,kwonlyargs:=[],kw_defaults:=[],kwarg:=none,defaults:=[] }
def defBody (s:Stmt):List Stmt:=match s with
 | .FunctionDef _ _ b _ _ _ _ _ _ _=>b
 | _=>[]
def defScope (s:Stmt):Scope:=match s with
 | .FunctionDef _ _ _ _ _ _ sc _ _ _=>sc
 | _=>{ kind:=.function,names:=[],isGenerator:=false,isCoroutine:=false }
abbrev CX0:CXT:=λ_ _ _ _ _ _=>False
abbrev E0:XK:=λ_ _ _=>False
theorem pass0 {X:Cx}:Passes CX0 X E0:=λ_ _ _ _ _ _ _ h=>h.elim
structure Fun (K:PySem.W.Frag) (x qual:Str) (st:Stmt) (f:Addr) (fd:FuncData):Prop where
 ex:∃ (oc:Value) (od:Option Addr) (kV doc pm:Value) (an:Option Addr) (cdv ct:Value) (osl:Array (Option Value)),
  fd=yq x qual (defArgs st) (defBody st) (defScope st) .none kV doc pm an cdv ct/\K.lookup f=some ⟨oc,od,.func fd,osl⟩/\PySem.W.codeIn K cdv qual=true
 kp:zN K (.ref f)=true
section
variable {P:Program}{w:World}{K:PySem.W.Frag}{mg:Str->Option Value}{base:Heap}
theorem Fun.ok {x qual:Str}{st:Stmt}{f:Addr}{fd:FuncData}{N ps:List Str}{k:Nat}{sp:Sp} (F:Fun K x qual st f fd) (S:FnScope N ps (defScope st)) (len:∀ vs H Q E,sp vs H Q E->vs.length=ps.length)
  (hbody:∀ (cdv:Value) (A:Around) (outer:List Env) (s:Shared) (H:Hp) (vs:List V) (Q:VK) (E:XK),Room k (A.deeper (envOfC qual (defScope st) s.heap.objs.size f cdv))->sp vs H Q E ->
   ∃ t,PSs (cxOf CX0 P w K mg base N qual (defScope st) f cdv A outer s H E).nox (defBody st) t/\t { nx:=λ_ H'=>Q .non H',rt:=Q } (start N vs) H):FnOk P w K mg base CX0 (k + 1) f fd ps sp:=by
 obtain ⟨oc,od,kV,doc,pm,an,cdv,ct,osl,rfl,lk,hcd⟩:=F.ex
 refine fn_of lk hcd S len λA outer s H vs Q E hr hsp=>?_
 obtain ⟨t,h,q⟩:=hbody cdv A outer s H vs Q E hr hsp
 exact ⟨t,h.nox,q⟩
theorem Fun.binds {x qual:Str}{st:Stmt}{f:Addr}{fd:FuncData}{ps:List Str} (F:Fun K x qual st f fd)
  (h:∀ (kV doc pm:Value) (an:Option Addr) (cdv ct:Value) (us:List Value),us.length=ps.length->bindArgs (yq x qual (defArgs st) (defBody st) (defScope st) .none kV doc pm an cdv ct) ⟨us,[]⟩=pure (ps.zip us)):Binds K fd ps []:=by
 obtain ⟨oc,od,kV,doc,pm,an,cdv,ct,osl,rfl,lk,hcd⟩:=F.ex
 exact .all (h kV doc pm an cdv ct)
theorem fun_mk {x qual:Str}{st:Stmt}{f:Addr}{oc:Value}{od an:Option Addr}{osl:Array (Option Value)}{kV doc pm cdv ct:Value} (l:K.lookup f=some ⟨oc,od,.func (yq x qual (defArgs st) (defBody st) (defScope st) .none kV doc pm an cdv ct),osl⟩)
  (c:PySem.W.codeIn K cdv qual=true) (k:zN K (.ref f)=true):Fun K x qual st f (yq x qual (defArgs st) (defBody st) (defScope st) .none kV doc pm an cdv ct):=⟨⟨oc,od,kV,doc,pm,an,cdv,ct,osl,rfl,l,c⟩,k⟩
end
section
variable {X:Cx}
theorem pv (i:Nat) {x:Str}{pos:Pos} (hN:X.N[i]?=some x:=by rfl) (hv:visB X.env.scope x=true:=by rfl) (hd:(x == ("__debug__" : Str))=false:=by decide)
  (hcd:(x == ("__classdict__" : Str))=false:=by decide):PE X (.Name x pos) (tVar i):=pe_var hN (visB_of hv) hd hcd
end
def Same (H H':Hp):Prop:=∀ b o,H b=some o->H' b=some o
theorem Same.refl (H:Hp):Same H H:=λ_ _ h=>h
theorem Same.trans {H H1 H2:Hp} (a:Same H H1) (b:Same H1 H2):Same H H2:=λc o h=>b c o (a c o h)
theorem Same.seq {K:PySem.W.Frag}{H H':Hp}{a:Addr}{xs:List V} (e:Same H H') (h:SqL K H a xs):SqL K H' a xs:=by
 rcases h with (h | ⟨o,h⟩) | h
 ·exact .inl (.inl (e _ _ h))
 ·exact .inl (.inr ⟨o,e _ _ h⟩)
 ·exact .inr h
end L2
namespace L2
open PySem PySem.Spec PyProof.Rows
theorem loop_comp {prog:Program}{w:World}{A:Around}{R:Result->Shared->Prop}{s:Shared}{elt target iter:Expr}{ifs:List Expr}{scope:Scope}{pos:Pos}{it acc:Value}{env:Env} (I:Nat->Shared->Prop)
  (turn:∀ n s,I n s->wpAny (model prog w) A (pyNext it) (λr s₁=>match r with
   | none=>R (.ok .next) s₁
   | some v=>wpAny (model prog w) A (letOwnedTupleGo target it v) (λ_ s₁'=>wpAny (model prog w) A (assign target env v) (λ_ s₂=>
     wpAny (model prog w) A (forIn ifs true λc r=>if r=true then do let ok <- isTrue c env (eval c env);pure (ForInStep.yield ok) else pure (ForInStep.yield r)) (λok s₃=>
      if ok=true then wpAny (model prog w) A (eval elt env) (λx s₄=>
       wpAny (model prog w) A (call (.builtin "list.append") [acc,x]) (λ_ s₅=>∃ m,m < n/\I m s₅) (λ_ _=>False) s₄) (λ_ _=>False) s₃
      else ∃ m,m < n/\I m s₃) (λ_ _=>False) s₂) (λ_ _=>False) s₁') (λ_ _=>False) s₁) (λ_ _=>False) s)
  (n:Nat) (h:I n s) :
  codeAny (model prog w) A (.compLoop (.ListComp elt [⟨target,iter,ifs,0⟩] scope pos) 0 it acc env) R s:=by
 refine codeAny_loop rfl I (λn s hI=>?_) n h
 show wpAny _ A ((compTurn (.ListComp elt [⟨target,iter,ifs,0⟩] scope pos) 0 it acc env).onRaise (λx=>do noteFrame x env;theTreesLotGoes x)) _ _ s
 refine wpAny_noted ?_
 rw [compTurn_list]
 refine wpAny_bind (wpAny_standAt (wpAny_bind (wpAny_mono (turn n s hI) (λr s₁ h₁=>?_) λ_ _ h'=>h'.elim)))
 cases r with
 | none=>exact wpAny_pure h₁
 | some v=>
  refine wpAny_bind (wpAny_mono h₁ (λ_ s₁' h₁'=>?_) λ_ _ h'=>h'.elim)
  refine wpAny_bind (wpAny_mono h₁' (λ_ s₂ h₂=>wpAny_bind (wpAny_mono h₂ (λok s₃ h₃=>?_) λ_ _ h'=>h'.elim)) λ_ _ h'=>h'.elim)
  cases ok with
  | false=>exact wpAny_pure ⟨rfl,h₃⟩
  | true=>
   exact wpAny_bind (wpAny_bind (wpAny_mono h₃ (λx s₄ h₄=>wpAny_bind (wpAny_mono h₄ (λ_ s₅ h₅=>wpAny_pure (wpAny_pure ⟨rfl,h₅⟩)) λ_ _ h'=>h'.elim)) λ_ _ h'=>h'.elim))
def clOf (names:List (Str×NameKind)) (env:Env) (cs:List (Str×Addr)):List (Str×Addr):=
 names.foldl (λcs p=>if p.2=.free then (match env.cells.lookup p.1 with | some c=>(p.1,c)::cs | none=>cs) else cs) cs
theorem closure_loop {env:Env}:∀ (names:List (Str×NameKind)) (cs:List (Str×Addr)),(∀ y∈names,y.2=.free->∃ c,env.cells.lookup y.1=some c) ->
  (forIn names cs λx r=>(if (x.2 == NameKind.free)=true then do let a <- cellOf env x.1;pure (ForInStep.yield ((x.1,a)::r)) else pure (ForInStep.yield r):Sem _))=pure (clOf names env cs)
 | [],cs,_=>by simp [clOf]
 | (n,k)::r,cs,h=>by
  have ih:=λcs=>closure_loop r cs λy hy=>h y (zc _ hy)
  simp only [List.forIn_cons]
  by_cases hk:k=.free
  ·subst hk
   obtain ⟨c,e⟩:=h (n,.free) zo rfl
   have e':env.cells.lookup n=some c:=e
   have ec:cellOf env n=pure c:=by unfold cellOf;rw [e']
   simp only [beq_self_eq_true,if_true,ec,pure_bind]
   rw [ih]
   simp [clOf,e']
  ·have hb:(k == NameKind.free)=false:=by simpa using hk
   simp only [hb,zj,if_false,pure_bind]
   rw [ih]
   simp [clOf,hk]
theorem closureFor_eq {scope:Scope}{env:Env} (h:∀ y∈scope.names,y.2=.free->∃ c,env.cells.lookup y.1=some c):closureFor scope env=pure (clOf scope.names env []):=by
 unfold closureFor
 have:=closure_loop scope.names [] h
 simp only [bind_pure]
 exact this
theorem clOf_mem {env:Env}:∀ (names:List (Str×NameKind)) (cs:List (Str×Addr)) (x:Str) (c:Addr),(x,c)∈clOf names env cs->(x,c)∈cs\/env.cells.lookup x=some c
 | [],cs,x,c,h=>.inl h
 | (n,k)::r,cs,x,c,h=>by
  have h':(x,c)∈clOf r env (if k=.free then (match env.cells.lookup n with | some c=>(n,c)::cs | none=>cs) else cs):=h
  rcases clOf_mem r _ x c h' with q | q
  ·split at q
   ·cases e:env.cells.lookup n with
    | none=>rw [e] at q;exact .inl q
    | some d=>
     rw [e] at q
     rcases zE.mp q with z | z
     ·cases z;exact .inr e
     ·exact .inl z
   ·exact .inl q
  ·exact .inr q
theorem clOf_keep {env:Env}:∀ (names:List (Str×NameKind)) (cs:List (Str×Addr)) (x:Str),(∃ c,(x,c)∈cs)->∃ c,(x,c)∈clOf names env cs
 | [],cs,x,h=>h
 | (n,k)::r,cs,x,⟨c,h⟩=>by
  refine clOf_keep r _ x ?_
  dsimp only
  split
  ·split
   ·exact ⟨c,zc _ h⟩
   ·exact ⟨c,h⟩
  ·exact ⟨c,h⟩
theorem clOf_has {env:Env}:∀ (names:List (Str×NameKind)) (cs:List (Str×Addr)) (x:Str),(x,NameKind.free)∈names->(∃ c,env.cells.lookup x=some c)->∃ c,(x,c)∈clOf names env cs
 | [],_,_,h,_=>by simp at h
 | (n,k)::r,cs,x,h,⟨c,e⟩=>by
  rcases zE.mp h with z | z
  ·have e1:x=n:=congrArg Prod.fst z
   have e2:NameKind.free=k:=congrArg Prod.snd z
   subst e1 e2
   refine clOf_keep r _ x ⟨c,?_⟩
   dsimp only
   rw [if_pos rfl,e]
   exact zo
  ·exact clOf_has r _ x z ⟨c,e⟩
theorem lookup_of_mem {β:Type}:∀ (l:List (Str×β)) (x:Str) (c:β),(x,c)∈l->∃ d,l.lookup x=some d
 | (n,d)::r,x,c,h=>by
  cases hx:x == n with
  | true=>exact ⟨d,by simp [yB,hx]⟩
  | false=>
   simp only [yB,hx]
   rcases zE.mp h with z | z
   ·cases z;simp at hx
   ·exact lookup_of_mem r x c z
theorem xi {names:List (Str×NameKind)}{env:Env}{x:Str}{c:Addr} (h:(clOf names env []).lookup x=some c):env.cells.lookup x=some c:=by
 rcases clOf_mem names [] x c (yK h) with q | q
 ·simp at q
 ·exact q
theorem clOf_some {names:List (Str×NameKind)}{env:Env}{x:Str}{c:Addr} (h:(x,NameKind.free)∈names) (e:env.cells.lookup x=some c):(clOf names env []).lookup x=some c:=by
 obtain ⟨d,hd⟩:=clOf_has names [] x h ⟨c,e⟩
 obtain ⟨d',hd'⟩:=lookup_of_mem _ _ _ hd
 have:=xi hd'
 rw [e] at this
 cases this
 exact hd'
theorem wU {env:Env}:∀ {names:List (Str×NameKind)}{x:Str},names.lookup x=some .free ->
  (names.map λ(n,k)=>if (k == NameKind.free && env.scope.kind == .function && env.kindOf n == some .cell) then (n,NameKind.cell) else (n,k)).lookup x=some .cell \/
  (names.map λ(n,k)=>if (k == NameKind.free && env.scope.kind == .function && env.kindOf n == some .cell) then (n,NameKind.cell) else (n,k)).lookup x=some .free
 | [],_,h=>by simp at h
 | (n,k)::r,x,h=>by
  have ih:=@wU env r x
  show List.lookup x ((if (k == NameKind.free && env.scope.kind == .function && env.kindOf n == some .cell)=true then (n,NameKind.cell) else (n,k))::_)=_\/List.lookup x ((if (k == NameKind.free && env.scope.kind == .function && env.kindOf n == some .cell)=true then (n,NameKind.cell) else (n,k))::_)=_
  by_cases hc:(k == NameKind.free && env.scope.kind == .function && env.kindOf n == some .cell)=true
  ·rw [if_pos hc]
   cases hx:x == n with
   | true=>left;simp [yB,hx]
   | false=>
    simp only [yB,hx] at h ⊢
    exact ih h
  ·rw [if_neg hc]
   cases hx:x == n with
   | true=>
    simp only [yB,hx] at h
    cases h
    right;simp [yB,hx]
   | false=>
    simp only [yB,hx] at h ⊢
    exact ih h
structure CompScope (own:List Str) (caps:List Nat) (N:List Str) (sc scope:Scope):Prop where
 kind:scope.kind=.function
 nocell:∀ y∈scope.names,y.2≠.cell
 loc:∀ y∈scope.names,y.2=.local->scope.names.lookup y.1=some .local
 fr:∀ y∈scope.names,y.2=.free->sc.names.lookup y.1=some .cell\/sc.names.lookup y.1=some .free
 cap:∀ i∈caps,i < N.length/\scope.names.lookup ((N[i]?).getD Str.empty)=some .free
def cxComp (X:Cx) (own:List Str) (caps:List Nat) (scope:Scope) (s:Shared) (H:Hp) (fp:List Addr) (C:Addr):Cx:=
 { X with N:=own++caps.map (λi=>(X.N[i]?).getD Str.empty),s₀:=s,H₀:=H,env:=compEnvC scope (clOf scope.names X.env []) C X.env,outer:=X.stack,ex:=fp,fn:=λ_=>false,pn:=[],xe:=λ_ _=>False }
def tau0 (n:Nat) (caps:List Nat) (σ:St):St:=List.replicate n none++caps.map λi=>(σ[i]?).join
section
variable {X:Cx}{pins:List (Addr×Obj)}{σ:St}{H:Hp}{s:Shared}
theorem free_of_kind {scope:Scope}{env:Env} (nc:∀ y∈scope.names,y.2≠.cell) {x:Str}{k:NameKind} (hk:k=.cell\/k=.free) (h:(relabel scope env).names.lookup x=some k):(x,NameKind.free)∈scope.names:=by
 have hm:=yK h
 obtain ⟨⟨n,k0⟩,hy,e⟩:=zp.mp hm
 dsimp only at e
 split at e
 ·rename_i hc
  simp only [zd,beq_iff_eq] at hc
  have e1:n=x:=congrArg Prod.fst e
  subst e1
  rw [hc.1.1] at hy
  exact hy
 ·cases e
  rcases hk with z | z
  ·subst z;exact absurd rfl (nc _ hy)
  ·subst z;exact hy
theorem inv_comp {own:List Str}{caps:List Nat}{scope:Scope}{fp:List Addr}{D C:Addr}{o:Obj} {h1:Heap}{tk:Nat} (I:Inv X pins σ H s) (S:CompScope own caps X.N X.env.scope scope)
  (f:∀ b∈fp,FpOk X pins H b) (fl:∀ b∈fp,b < s.heap.objs.size) (hD:s.heap.objs.size<=D) (hC:s.heap.objs.size<=C) (hDC:D≠C) (keep:∀ b o,s.heap.get? b=some o->h1.get? b=some o)
  (hns:h1.Ns C λ_=>none) (hacc:h1.get? D=some o) (ho:∀ v,o.data≠.cell v) :
  Inv (cxComp X own caps scope s H fp C) [(D,o)] (tau0 own.length caps σ) H { s with heap:=h1,toks:=tk }:=by
 have sub:∀ b∈frs X.stack,b < s.heap.objs.size:=λb hb=>by
  rcases zE.mp (I.stkSub b hb) with e | hb
  ·rw [e];exact I.lt
  ·by_cases q:b < s.heap.objs.size
   ·exact q
   ·exact absurd hb (I.nofs (Nat.le_of_not_lt q))
 refine ⟨⟨I.ok.mod,S.kind,I.ok.glob,I.ok.blt,hC,λx y c h1 h2=>I.ok.inj x y c (xi h1) (xi h2),λx hx=>?_,λx c z _=>absurd (show false=true from z) zO,I.ok.hd,I.ok.frames,.inl rfl,
   λb hb=>⟨zW (zY (fl b hb) hC),λx c e=>(f b hb).2.2.2.2.1 x c (xi e)⟩,I.bs,zk I.ok.bsz I.sz,λb ob e hb=>?_,λb hb hs=>?_,I.stack,I.stkFree⟩,
  rfl,I.bare,Un.kept keep,⟨_,hns,λi x v e1 e2 e3=>?_⟩,λx c e=>?_,I.hok.fresh hC,λx c e=>I.freeC x c (xi e),λp hp=>?_,I.hok.kept keep,?_⟩
 ·have hm:(x,NameKind.free)∈scope.names:=by
   rcases hx with hx | hx
   ·exact free_of_kind S.nocell (.inl rfl) hx
   ·exact free_of_kind S.nocell (.inr rfl) hx
  obtain ⟨c,hc⟩:=I.ok.has x (S.fr _ hm rfl)
  exact ⟨c,clOf_some hm hc⟩
 ·rcases (f b hb).2.2.2.1 with z | z
  ·exact I.ok.noex b ob e z
  ·exact absurd (zY (Heap.lt_size e) (zk I.ok.bsz z)) (yL _)
 ·rcases zE.mp (I.stkSub b hs) with e | e
  ·exact (f b hb).2.1 e
  ·exact (f b hb).2.2.1 e
 ·have e2':(List.replicate own.length (none:Option V)++caps.map λi=>(σ[i]?).join)[i]?=some (some v):=e2
  have e1':(own++caps.map (λi=>(X.N[i]?).getD Str.empty))[i]?=some x:=e1
  have hi:own.length<=i:=by
   by_cases q:i < own.length
   ·rw [yJ (by simpa using q),List.getElem?_replicate,if_pos q] at e2'
    cases e2'
   ·exact Nat.le_of_not_lt q
  rw [z4 (by simpa using hi),List.length_replicate,zJ] at e2'
  rw [z4 hi,zJ] at e1'
  cases ek:caps[i - own.length]? with
  | none=>rw [ek] at e1';cases e1'
  | some k=>
   rw [ek] at e1' e2'
   have ex:(X.N[k]?).getD Str.empty=x:=Option.some.inj e1'
   have ev:(σ[k]?).join=some v:=Option.some.inj e2'
   have ev':σ[k]?=some (some v):=by
    cases q:σ[k]? with
    | none=>rw [q] at ev;cases ev
    | some y=>rw [q] at ev;exact congrArg some ev
   obtain ⟨hl,hf⟩:=S.cap k (zB ek)
   have eN:X.N[k]?=some x:=by
    rw [zG hl] at ex ⊢
    exact congrArg some ex
   rw [ex] at hf
   have hm:=yK hf
   have hfr:=S.fr _ hm rfl
   obtain ⟨m,_,hl'⟩:=I.loc
   obtain ⟨u,ru,lk⟩:=hl' k x v eN ev' (.inr hfr)
   refine ⟨u,ru,.inr ⟨wU hf,?_⟩⟩
   rcases lk with ⟨kl,_⟩ | ⟨_,c,hc,ob,hob,hd⟩
   ·have kl':X.env.scope.names.lookup x=some .local:=kl
    rcases hfr with z | z
    ·have z':X.env.scope.names.lookup x=some .cell:=z
     rw [z'] at kl';cases kl'
    ·have z':X.env.scope.names.lookup x=some .free:=z
     rw [z'] at kl';cases kl'
   ·exact ⟨c,clOf_some hm hc,ob,keep c ob hob,hd⟩
 ·obtain ⟨v,ob,hob,hd⟩:=I.cell x c (xi e)
  exact ⟨v,ob,keep c ob hob,hd⟩
 ·have e:p=(D,o):=by simpa using (show p∈[]++[(D,o)] from hp)
  subst e
  refine ⟨hacc,I.hok.fresh hD,hDC,λz=>?_,ho⟩
  exact absurd (zY (sub D z) hD) (yL _)
 ·show (tau0 own.length caps σ).length=(own++caps.map (λi=>(X.N[i]?).getD Str.empty)).length
  simp [tau0]
def PTs (X:Cx) (ifs:List Expr) (t:TT):Prop:=
 ∀ (pins:List (Addr×Obj)) (s:Shared) (σ:St) (H:Hp) (Q:Bool->Hp->Prop),Inv X pins σ H s->t σ H Q ->
  wpAny (model X.prog X.w) X.A (forIn ifs true λc r=>if r=true then do let ok <- isTrue c X.env (eval c X.env);pure (ForInStep.yield ok) else pure (ForInStep.yield r)) (TP X pins σ Q) X.xe s
def tYes:TT:=λ_ H Q=>Q true H
theorem wH:PTs X [] tYes:=λ_ s σ H Q I h=>wpAny_tests_nil ⟨H,I,h⟩
theorem wX {c:Expr}{t:TT} (h:PT X c t):PTs X [c] t:=λpins s σ H Q I q=>wpAny_tests_one (h pins s σ H Q I q)
def tComp (n:Nat) (caps:List Nat) (wi:TI) (g:TG) (tc:TT) (te:TE):TE:=fun σ H Q=>wi σ H λJ H1=>∃ W:Nat->Nat->St->List V->Hp->Prop,(∃ m,W 0 m (tau0 n caps σ) [] H1)/\∀ i m τ acc H,W i m τ acc H ->
 (J.stop i H/\acc.length<=sizeLine/\∀ p,H p=none->Q (.ref p) (upd H p (.lst acc))) \/
 (J.go i H/\acc.length < sizeLine/\∀ x H',J.yld i H x H'->g x τ H' fun τ2 H2=>tc τ2 H2 λb H3=>if b=true then te τ2 H3 λy H4=>∃ m',m' < m/\W (i + 1) m' τ2 (acc++[y]) H4 else ∃ m',m' < m/\W (i + 1) m' τ2 acc H3)
theorem HOk.track {P:Program}{w:World}{H:Hp}{h:Heap}{a:Addr}{o:HO} (x:HOk P w H h) (hn:H a=none) (new:ObjOk P w (upd H a o) h a o):HOk P w (upd H a o) h:=λb u e=>by
 by_cases hb:b=a
 ·subst hb;rw [yx] at e;cases e;exact new
 ·rw [xH hb] at e
  exact (x b u e).stay (λc v _ q=>q) (λc q=>by rw [xH (yz q hn)];exact q) λc xs q=>by rw [xH (yz q hn)];exact q
theorem xt {own:List Str}{caps:List Nat}{elt tg iter:Expr}{ifs:List Expr}{scope:Scope}{pos:Pos}{wi:TI}{g:TG}{tc:TT}{te:TE} (hc:X.calm=true) (S:CompScope own caps X.N X.env.scope scope) (hi:PI X tg iter wi)
  (hg:∀ s H fp C,PG (cxComp X own caps scope s H fp C) tg g) (ht:∀ s H fp C,PTs (cxComp X own caps scope s H fp C) ifs tc) (he:∀ s H fp C,PE (cxComp X own caps scope s H fp C) elt te)
  (hs:∀ x,foldedSetIterable iter X.env x=pure x:=by intro _;rfl):PE X (.ListComp elt [⟨tg,iter,ifs,0⟩] scope pos) (tComp own.length caps wi g tc te):=by
 intro pins s σ H Q I h
 rw [eval_ListComp]
 refine wpAny_comprehension_free (use:=none) (cl:=clOf scope.names X.env []) rfl hs (closureFor_eq λy hy e=>I.ok.has y.1 (S.fr y hy e)) S.kind S.loc
  (wpAny_mono (hi pins s σ H _ I h) (λv s1 h1=>thn h1 λitv s2 h2=>?_) λ_ _ e=>e)
 obtain ⟨it,fp,tn,J,H2,e,I2,T,st2,f2,W,⟨m0,w0⟩,turn⟩:=h2
 subst e
 refine wpAny_newObj_type (wpAny_newFunctionEnv S.nocell (by intro y hy;simp at hy) (λh₁ hns₁ hsb₁=>?_) S.kind)
 dsimp only at hns₁ hsb₁ ⊢
 generalize hH2:s2.heap.push { cls:=.type "list", dict:=none,data:=.seq ([]:List Value).toArray }=G at hns₁ hsb₁ ⊢
 have hG:G.objs.size=s2.heap.objs.size + 1:=by rw [<-hH2,Heap.size_push]
 have hDC:s2.heap.objs.size≠G.objs.size:=by rw [hG];exact zW (Nat.lt_succ_self _)
 have hCle:s2.heap.objs.size<=G.objs.size:=by rw [hG];exact yp _
 have below:∀ b,b < s2.heap.objs.size->b≠G.objs.size:=λb hb=>by rw [hG];exact zW (yk hb)
 have old:∀ b o,s2.heap.get? b=some o->h₁.get? b=some o:=λb o e=>hsb₁.extBut b o (below b (Heap.lt_size e)) (Heap.get?_push_of_some _ (hH2 ▸ Heap.get?_push_of_some _ e))
 have hacc:h₁.get? s2.heap.objs.size=some { cls:=.type "list", dict:=none,data:=.seq ([]:List Value).toArray }:=hsb₁.extBut _ _ hDC (Heap.get?_push_of_some _ (hH2 ▸ Heap.get?_push_size _ rfl))
 have fl:∀ b∈fp,b < s2.heap.objs.size:=λb hb=>let ⟨o,e,_⟩:=T.obj _ _ st2 b hb;Heap.lt_size e
 have hns₁':h₁.Ns G.objs.size λ_=>none:=hns₁
 have I4:=inv_comp (tk:=s2.toks + ([]:List (Str×Value)).length) I2 S f2 fl (zF _) hCle hDC old hns₁' hacc (λv z=>nomatch z)
 have st4:tn 0 h₁:=T.keep _ _ _ st2 λb _ o e=>old b o e
 generalize hs4:({ s2 with heap:=h₁,toks:=s2.toks + ([]:List (Str×Value)).length }:Shared)=s4 at I4 ⊢
 have e4:s4.heap=h₁:=by rw [<-hs4]
 rw [<-e4] at st4
 -- the loop
 have loop:codeAny (model X.prog X.w) X.A (.compLoop (.ListComp elt [⟨tg,iter,ifs,0⟩] scope pos) 0 (.ref it) (.ref s2.heap.objs.size) (compEnvC scope (clOf scope.names X.env []) G.objs.size X.env))
   (compPost (model X.prog X.w) X.A X.xe none (EP X pins σ Q) (.ref s2.heap.objs.size) G.objs.size) s4:=by
  let Y:=cxComp X own caps scope s2 H2 fp G.objs.size
  have stat:∀ {H':Hp}{its:List Value}{n:Nat},(∀ b∈fp,H' b=none)->∀ b∈fp,FpOk Y [(s2.heap.objs.size,({ cls:=.type "list", data:=.seq its.toArray n }:Obj))] H' b:=λ{H' its n} hn b hb=>by
   refine ⟨hn b hb,below b (fl b hb),λz=>?_,.inl hb,λx c e=>(f2 b hb).2.2.2.2.1 x c (xi e),λp hp=>?_⟩
   ·rcases zE.mp (I2.stkSub b z) with e | e
    ·exact (f2 b hb).2.1 e
    ·exact (f2 b hb).2.2.1 e
   ·have e:p=(s2.heap.objs.size,({ cls:=.type "list", data:=.seq its.toArray n }:Obj)):=by simpa using (show p∈[]++[_] from hp)
    subst e
    exact yS (fl b hb)
  refine loop_comp (λn s'=>∃ i τ acc its k H',Inv Y [(s2.heap.objs.size,({ cls:=.type "list", data:=.seq its.toArray k }:Obj))] τ H' s'/\tn i s'.heap/\(∀ b∈fp,H' b=none)/\Vals acc its/\W i n τ acc H') ?_ m0
   ⟨0,_,[],[],0,H2,I4,st4,λb hb=>(f2 b hb).1,.nil,w0⟩
  rintro n s5 ⟨i,τ,acc,its,k,H5,I5,st5,fr5,rv5,w5⟩
  rcases turn i n τ acc H5 w5 with ⟨stop,hz,q⟩ | ⟨go,hz,step⟩
  ·refine thn (T.done Y rfl rfl rfl hc i _ s5 τ H5 (λ_ _=>False) I5 (stat fr5) st5 stop) λr s6 ⟨hr,I6⟩=>?_
   subst hr
   obtain ⟨eD,nD,_,_,_⟩:=I6.pin _ (zD _ (zM.mpr rfl))
   obtain ⟨m6,hm6,_⟩:=I6.loc
   refine ⟨m6,hm6,λh' hsb=>?_⟩
   have hC6:H5 G.objs.size=none:=I6.free
   have eD':h'.get? s2.heap.objs.size=some { cls:=.type "list", data:=.seq its.toArray k }:=hsb.extBut _ _ hDC eD
   have hok6:HOk X.prog X.w H5 h':=λb u e=>(I6.hok b u e).stay (λc v hcv qv=>hsb.extBut c v (by
     rcases hcv with z | z
     ·subst z;exact yz e hC6
     ·exact yz z hC6) qv) (λ_ q=>q) λ_ _ q=>q
   refine ⟨.ref s2.heap.objs.size,_,?_,rfl,q _ nD⟩
   have ub:=I6.base
   refine I2.call' (ch:=fp) (s':={ s6 with heap:=h' }) I6.os ⟨λb o e n' hb hx=>hsb.extBut b o (below b (Heap.lt_size e)) (ub.keep b o e n' hb hx),λb o e n' hb hx=>?_,λb o e n' hx=>?_,λb o e hx=>?_,λb xs e=>?_,λb o u e=>?_,λb ps e=>?_⟩
    (hok6.track nD ⟨hz,its,k,rv5,eD'⟩) I6.bare λb hb=>⟨(f2 b hb).2.2.2.1,(f2 b hb).2.1,(f2 b hb).2.2.2.2.1,(f2 b hb).2.2.2.2.2⟩
   ·obtain ⟨sl,e'⟩:=ub.slot b o e n' hb hx
    exact ⟨sl,hsb.extBut b _ (below b (Heap.lt_size e)) e'⟩
   ·rw [xH (zW (Heap.lt_size e))]
    exact ub.free b o e n' hx
   ·obtain ⟨o',e'⟩:=ub.there b o e hx
    exact ⟨o',hsb.extBut b _ (below b (Heap.lt_size e)) e'⟩
   ·have z:=ub.tups b xs e
    rw [xH (yz z nD)];exact z
   ·have z:=ub.frzs b o u e
    rw [xH (yz z nD)];exact z
   ·obtain ⟨more,z⟩:=ub.tbls b ps e
    exact ⟨more,by rw [xH (yz z nD)];exact z⟩
  ·refine thn (T.item Y rfl rfl rfl hc i _ s5 τ H5 (λ_ _=>False) I5 (stat fr5) st5 go) λr s6 ⟨u,hr,h6⟩=>?_
   subst hr
   refine thn h6 λ_ s7 ⟨x,H7,I7,r7,y7,st7,fr7⟩=>?_
   have I7':=I7.pinned (stat fr7) (T.obj _ _ st7)
   refine thn (hg s2 H2 fp G.objs.size _ s7 τ H7 x u _ I7' r7 (step x H7 y7)) λ_ s8 ⟨τ8,H8,I8,q8⟩=>?_
   refine thn (ht s2 H2 fp G.objs.size _ s8 τ8 H8 _ I8 q8) λok s9 ⟨H9,I9,q9⟩=>?_
   -- the iterator's state behind the turn
   have back:∀ {s':Shared}{τ':St}{H':Hp},Inv Y ([(s2.heap.objs.size,({ cls:=.type "list", data:=.seq its.toArray k }:Obj))]++pinsAt fp s7.heap) τ' H' s'->(tn (i + 1) s'.heap/\∀ b∈fp,H' b=none):=λ{s' τ' H'} Ib=>
    ⟨T.keep _ _ _ st7 λb hb o e=>(Ib.pin (b,o) (zD _ (zD _ (xk hb e)))).1,λb hb=>by
     obtain ⟨o,e,d⟩:=T.obj _ _ st7 b hb
     exact (Ib.pin (b,o) (zD _ (zD _ (xk hb e)))).2.1⟩
   cases ok with
   | false=>
    obtain ⟨m',hm',w'⟩:=q9
    obtain ⟨sb,fb⟩:=back I9
    exact ⟨m',hm',i + 1,τ8,acc,its,k,H9,I9.unpinned,sb,fb,rv5,w'⟩
   | true=>
    refine thn (he s2 H2 fp G.objs.size _ s9 τ8 H9 _ I9 q9) λy s10 ⟨yv,H10,I10,r10,q10⟩=>?_
    obtain ⟨m',hm',w'⟩:=q10
    obtain ⟨sb,fb⟩:=back I10
    obtain ⟨eD,nD,neD,nfD,_⟩:=I10.pin (s2.heap.objs.size,_) (zD _ (zq _ (zM.mpr rfl)))
    have hl:acc.length=its.length:=rv5.length
    refine call_meets F.slot_list_append ⟨_,eD,rfl⟩ F.entry_list_append (F.args_list_append_2 _ _) (PySem.list_append s2.heap.objs.size its.toArray k y (by rw [zP];omega)) ⟨eD,?_⟩
    have q:=PySem.IsL.update eD (λa:Array Value=>a.push y)
    have Iu:Inv Y [] τ8 H10 s10:=I10.pins_of λp hp=>nomatch hp
    have It:=Iu.turned (t':=s10.toks) (it:=s2.heap.objs.size) (h':=s10.heap.update s2.heap.objs.size (Obj.mapSeq (λa:Array Value=>a.push y))) (λb o hb e=>(Heap.get?_update_other s10.heap _ (Ne.symm hb)).trans e) nD neD (.inr (zF _))
     (λx c e z=>by
      obtain ⟨v,ob,hob,_⟩:=I2.cell x c (xi e)
      exact absurd (Heap.lt_size hob) (by rw [z];exact yL _)) (λp hp=>nomatch hp)
    have It':=It.pins_of (pins':=[(s2.heap.objs.size,({ cls:=.type "list", data:=.seq (its++[y]).toArray (k + 1) }:Obj))]) λp hp=>by
     have e:p=_:=zM.mp hp
     subst e
     exact ⟨by simpa using q,nD,neD,nfD,λv z=>nomatch z⟩
    refine ⟨m',hm',i + 1,τ8,acc++[yv],its++[y],_,H10,It',T.keep _ _ _ sb λb hb o e=>(Heap.get?_update_other s10.heap _ (yS (fl b hb))).trans e,fb,rv5.append (.cons r10 .nil),w'⟩
 exact codeAny_compStart_list loop (T.self _ 0 s4 _ _ st4 loop)
end
end L2
namespace L2
open PySem PySem.Spec PyProof.Rows
open AutoSeq1 (wpAny_loadPart')
section
variable {prog:Program}{w:World}{A:Around}{E:Value->Shared->Prop}{s:Shared}
theorem nxT_in {it t:Addr}{i:Nat} {items}{x:Value}{Q:Value->Shared->Prop} (hit:s.heap.IsTupleIter it t i) (ht:s.heap.IsTuple t items) (hx:items[i]?=some x)
  (hQ:∀ h',h'.IsTupleIter it t (i + 1)->Heap.SameBut it s.heap h'->Q x { s with heap:=h' }):wpAny (model prog w) A (Builtin.SmallTypes.nextOf (.ref it)) Q E s:=by
 have ty:=hit.typeIs (s:=s)
 obtain ⟨o,ho,hc,hd⟩:=hit
 obtain ⟨ot,hot,_,n,hdt⟩:=ht
 have new:=hQ _ ⟨_,Heap.get?_update_self (Obj.mapFields (·.set! 1 (rawInt (i + 1)))) ho (Obj.isFreed_of_fields (Obj.data_mapFields hd _)),(Obj.cls_mapFields ..).trans hc,by rw [Obj.data_mapFields hd];simp [rawInt]⟩ (Heap.SameBut.update ..)
 unfold Builtin.SmallTypes.nextOf
 refine wpAny_bind (wpAny_callSpecial?_slot ty F.slot_tuple_iterator_next (wpAny_call_entry F.slot_tuple_iterator_next ty F.entry_tuple_iterator_next ?_ (F.args_tuple_iterator_next_1 _)))
 unfold Builtin.«tuple_iterator.__next__»
 wp_walk using wpAny_field ho hd (x:=.ref t) rfl,wpAny_field ho hd (x:=.int i 0) rfl,wpAny_seqItems hot hdt
 simp only [Int.toNat_natCast,hx]
 wp_walk using wpAny_setField ho hd (by simp)
 exact ⟨x,rfl,wpAny_pure new⟩
theorem nxT_out {it t:Addr}{i:Nat} {items}{Q:Value->Shared->Prop} (hh:A.handled=none) (hit:s.heap.IsTupleIter it t i) (ht:s.heap.IsTuple t items) (hx:items[i]?=none)
  (hE:∀ h' e,Heap.ExtBut it s.heap h'->(∃ o,h'.get? e=some o/\o.cls=.type "StopIteration")->E (.ref e) { s with heap:=h' }):wpAny (model prog w) A (Builtin.SmallTypes.nextOf (.ref it)) Q E s:=by
 have ty:=hit.typeIs (s:=s)
 obtain ⟨o,ho,hc,hd⟩:=hit
 obtain ⟨ot,hot,_,n,hdt⟩:=ht
 have hh1:A.in1.handled=none:=hh
 unfold Builtin.SmallTypes.nextOf
 refine wpAny_bind (wpAny_callSpecial?_slot ty F.slot_tuple_iterator_next (wpAny_call_entry F.slot_tuple_iterator_next ty F.entry_tuple_iterator_next ?_ (F.args_tuple_iterator_next_1 _)))
 unfold Builtin.«tuple_iterator.__next__»
 wp_walk using wpAny_field ho hd (x:=.ref t) rfl,wpAny_field ho hd (x:=.int i 0) rfl,wpAny_seqItems hot hdt
 simp only [Int.toNat_natCast,hx]
 wp_walk using wpAny_setField ho hd (by simp)
 simp only [raiseNew]
 refine wpAny_bind (wpAny_handled ?_)
 rw [hh1]
 exact wpAny_bind (wpAny_pure (wpAny_throw (hE _ _ (((Heap.SameBut.update ..).extBut.push _).push _) ⟨_,Heap.get?_push_size _ rfl,rfl⟩)))
end
theorem drawsT {prog:Program}{w:World}{A:Around} (hh:A.handled=none) (it t:Addr) (hne:t≠it) (items:Array Value) :
  Draws prog w A it [it,t] items.size (λi v=>items[i]?=some v) (λi h=>h.IsTupleIter it t i/\h.IsTuple t items) where
 live:=λ_ _ st=>let ⟨⟨o,ho,_⟩,_⟩:=st;⟨o,ho⟩
 frame:=λ_ _ _ st hk=>let ⟨⟨o,ho,r⟩,o',ho',r'⟩:=st;⟨⟨o,hk it (by simp) o ho,r⟩,o',hk t (by simp) o' ho',r'⟩
 item:=λi s Q E hi st hQ=>nxT_in st.1 st.2 (Array.getElem?_eq_getElem hi) λh' a b=>hQ _ h' s.toks (Array.getElem?_eq_getElem hi) ⟨a,st.2.extBut b.extBut hne⟩ b
 done:=λs Q E st hE=>nxT_out hh st.1 st.2 (Array.getElem?_eq_none (zF _)) hE
theorem drawnT {prog:Program}{w:World}{A:Around} (hh:A.handled=none) (it t:Addr) (items:Array Value) :
  Draws prog w A it [it,t] 0 (λ_ _=>False) (λ_ h=>∃ j,h.IsTupleIter it t j/\h.IsTuple t items/\items[j]?=none) where
 live:=λ_ _ st=>let ⟨_,⟨o,ho,_⟩,_⟩:=st;⟨o,ho⟩
 frame:=λ_ _ _ st hk=>let ⟨j,⟨o,ho,r⟩,⟨o',ho',r'⟩,z⟩:=st;⟨j,⟨o,hk it (by simp) o ho,r⟩,⟨o',hk t (by simp) o' ho',r'⟩,z⟩
 item:=λi s Q E hi _ _=>absurd hi (z0 _)
 done:=λs Q E st hE=>let ⟨_,a,b,c⟩:=st;nxT_out hh a b c hE
section
variable {prog:Program}{w:World}{A:Around}{E:Value->Shared->Prop}{s:Shared}
theorem enumT_new (l:Addr) (items:Array Value) (o:Obj) :
  Meets (Builtin.«enumerate.__new__» ⟨[.type "enumerate", .ref l],[]⟩) (λ_ R s=>(s.heap.get? l=some o/\s.heap.IsTuple l items) /\
   R (.ok (.ret (.ref (s.heap.push { cls:=.type "tuple_iterator", data:=.fields #[.ref l,.int 0 0] }).objs.size)))
    { s with heap:=(s.heap.push { cls:=.type "tuple_iterator", data:=.fields #[.ref l,.int 0 0] }).push { cls:=.type "enumerate", data:=.fields #[.none,.bool false,.ref s.heap.objs.size,rawInt 0,.none,.none] } }):=
 .of_wp λprog w A R s ⟨⟨hl,hL⟩,h⟩=>by
  obtain ⟨hp,g,d,tk,os⟩:=s
  have hsub:=sub_enumerate
  wp_walk using wpAny_loadPart' hl
  refine wpAny_stack_any λst=>wpAny_pure ?_
  split
  ·rename_i c _ _ _ _ _
   cases (c == Value.type "enumerate") <;> (wp_walk using wpAny_loadPart' hl,wpAny_pyIter_tuple hL) <;> exact ⟨_,rfl,h⟩
  ·wp_walk using wpAny_loadPart' hl,wpAny_pyIter_tuple hL
   exact ⟨_,rfl,h⟩
theorem call_enumT {l:Addr}{items:Array Value}{Q:Value->Shared->Prop} (hL:s.heap.IsTuple l items)
  (h:∀ h',IsEnum h' (s.heap.objs.size + 1) s.heap.objs.size 0 .none->h'.IsTupleIter s.heap.objs.size l 0 ->
   (∀ b o,s.heap.get? b=some o->h'.get? b=some o)->Q (.ref (s.heap.objs.size + 1)) { s with heap:=h' }) :
  wpAny (model prog w) A (call (.type "enumerate") [.ref l]) Q E s:=by
 obtain ⟨o,hl,_⟩:=id hL
 refine callType_new F.called_enumerate (by decide) (F.typeCall_enumerate_1 _) (F.newCall_enumerate_1 _) (λobj=>F.args_object_init_2 obj _) F.entry_enumerate_new (enumT_new l items o) ⟨⟨hl,hL⟩,?_⟩
 generalize hG:s.heap.push { cls:=.type "tuple_iterator", data:=.fields #[.ref l,.int 0 0] }=G
 have hz:G.objs.size=s.heap.objs.size + 1:=by rw [<-hG,Heap.size_push]
 have hi:G.get? s.heap.objs.size=some { cls:=.type "tuple_iterator", data:=.fields #[.ref l,.int 0 0] }:=by rw [<-hG];exact Heap.get?_push_size _ rfl
 have he:=Heap.get?_push_size G (o:={ cls:=.type "enumerate", data:=.fields #[.none,.bool false,.ref s.heap.objs.size,rawInt 0,.none,.none] }) rfl
 rw [hz] at he
 show _/\_
 rw [hz]
 exact ⟨⟨_,he,rfl⟩,h _ he ⟨_,Heap.get?_push_of_some _ hi,rfl,rfl⟩ λb o x=>Heap.get?_push_of_some _ (by rw [<-hG];exact Heap.get?_push_of_some _ x)⟩
end
def IteT (K:PySem.W.Frag) (a:Addr):It:=
 ⟨λi H=>∃ xs x,SqT K H a xs/\xs[i]?=some x,λi H y H'=>∃ p x,H p=none/\y=.ref p/\H'=upd H p (.tup [.int i,x])/\∀ xs,SqT K H a xs->xs[i]?=some x,λi H=>∃ xs,SqT K H a xs/\xs.length<=i⟩
theorem turn_enumT {P:Program}{w:World}{K:PySem.W.Frag}{es:List Expr}{k:Nat}{pos:Pos} (a e it:Addr) (hne:e≠it) :
  Turn P w K (.Tuple es k pos) (IteT K a) [e,it] e (λi h=>(∃ old,IsEnum h e it i old)/\h.IsTupleIter it a i) where
 mem:=by simp
 obj:=λi h st b hb=>by
  obtain ⟨⟨old,he⟩,o,hi,c,d⟩:=st
  rcases zE.mp hb with z | z
  ·subst z;exact ⟨_,he,λv q=>nomatch q⟩
  ·have z':b=it:=by simpa using z
   subst z'
   exact ⟨o,hi,λv q=>by rw [d] at q;cases q⟩
 keep:=λi h h' st q=>by
  obtain ⟨⟨old,he⟩,o,hi,r⟩:=st
  exact ⟨⟨old,q e (by simp) _ he⟩,o,q it (by simp) o hi,r⟩
 item:=by
  intro X hP hw hK hc i pins s σ H E I hf st hg
  subst hP hw hK
  obtain ⟨xs,x,hq,hx⟩:=hg
  obtain ⟨its,rv,p,hz⟩:=I.tuple hq
  obtain ⟨u,hu,ru⟩:=rv.get hx
  obtain ⟨⟨old,he⟩,hi⟩:=st
  obtain ⟨e0,e1,e2,e3,e4,e5⟩:=hf e (by simp)
  obtain ⟨f0,f1,f2,f3,f4,f5⟩:=hf it (by simp)
  have el:e < s.heap.objs.size:=Heap.lt_size he
  have il:it < s.heap.objs.size:=let ⟨_,z,_⟩:=hi;Heap.lt_size z
  have ht:s.heap.IsTuple a its.toArray:=p
  have hal:a < s.heap.objs.size:=let ⟨_,z,_⟩:=ht;Heap.lt_size z
  have hai:a≠it:=λz=>by
   obtain ⟨o1,z1,c1,_⟩:=ht
   obtain ⟨o2,z2,c2,_⟩:=hi
   rw [z,z2] at z1;cases z1;rw [c2] at c1;exact absurd (Value.type.inj c1) (by decide)
  have hae:e ∉ [it,a]:=λz=>by
   rcases zE.mp z with z | z
   ·exact hne z
   ·have z':e=a:=by simpa using z
    obtain ⟨o1,z1,c1,_⟩:=ht
    rw [<-z',he] at z1;cases z1;exact absurd (Value.type.inj c1) (by decide)
  refine wpAny_pyNext_enum_itemD (drawsT (A:=X.A.in1) (I.ok.hd hc) it a hai its.toArray) he ⟨hi,ht⟩ (by simpa using (zH.mp hu).1) hne hae λu1 h1 tk hu1 ho hst1 hT hsz hk=>?_
  have eu:u=u1:=by
   have q:its.toArray[i]?=some u:=by simpa using hu
   have hu1':its.toArray[i]?=some u1:=hu1
   rw [q] at hu1';exact Option.some.inj hu1'
  subst eu
  have hi1:=hst1.1
  refine ⟨_,rfl,?_⟩
  refine wpAny_letOwnedTupleGo_enum ho λh2 he2 hs2=>?_
  have hs2':Heap.SameBut e h1 h2:=hs2
  have old2:∀ b o,b≠e->b≠it->s.heap.get? b=some o->h2.get? b=some o:=λb o hb hb' q=>hs2'.extBut b o hb (hk b o hb hb' q)
  have hT2:h2.get? s.heap.objs.size=some { cls:=.type "tuple", data:=.seq #[.int i tk,u] }:=hs2'.extBut _ _ (yS el) hT
  have nT:H s.heap.objs.size=none:=I.hok.fresh (zF _)
  refine ⟨.ref s.heap.objs.size,upd H s.heap.objs.size (.tup [.int i,x]),?_,rfl,⟨_,x,nT,rfl,rfl,λys hy=>by rw [I.tuple_inj hy hq];exact hx⟩,⟨⟨u,by simpa using he2⟩,?_⟩,λb hb=>?_⟩
  ·have nch:∀ b,b ∉ [e,it]->b≠e/\b≠it:=λb hb=>⟨λz=>hb (by simp [z]),λz=>hb (by simp [z])⟩
   refine Inv.step (s:=s) (h':=h2) (g':=s.gens) (d':=s.drawn) (t':=tk + 1) (ch:=[e,it]) I (λb hb=>?_) (λb o _ _ hb q _=>old2 b o (nch b hb).1 (nch b hb).2 q) (λb o _ _ hb q _=>⟨o.slots,old2 b o (nch b hb).1 (nch b hb).2 q⟩)
    (λb o _ q n=>by rw [xH (zW (Heap.lt_size q))];exact n) (λb o hb q=>⟨o,old2 b o (nch b hb).1 (nch b hb).2 q⟩)
    (λb ys q=>by rw [xH (yz q nT)];exact q) (λb o v q=>by rw [xH (yz q nT)];exact q) (λb ps q=>⟨#[],by rw [xH (yz q nT),q];simp⟩)
    (λm hm=>by
     obtain ⟨o,es',ep,q,r⟩:=hm
     exact ⟨o,es',ep,old2 _ o (Ne.symm e1) (Ne.symm f1) q,r⟩) (λb v q=>?_) I.bare
   ·rcases zE.mp hb with z | z
    ·subst z;exact ⟨e3,e1,e4,e5⟩
    ·have z':b=it:=by simpa using z
     subst z';exact ⟨f3,f1,f4,f5⟩
   ·by_cases hb:b=s.heap.objs.size
    ·subst hb
     rw [yx] at q
     cases q
     exact ⟨⟨by show 2<=sizeLine;rw [sizeLine_eq];decide,λob e=>by rw [hT2] at e;cases e;rfl⟩,[.int i tk,u],.cons ⟨_,rfl⟩ (.cons ru .nil),⟨_,hT2,rfl,_,rfl⟩⟩
    ·rw [xH hb] at q
     refine (I.hok b v q).stay (λc ob hc qc=>old2 c ob ?_ ?_ qc) (λc qc=>by rw [xH (yz qc nT)];exact qc) λc ys qc=>by rw [xH (yz qc nT)];exact qc
     ·rcases hc with z | z
      ·subst z;exact yz q e0
      ·exact yz z e0
     ·rcases hc with z | z
      ·subst z;exact yz q f0
      ·exact yz z f0
  ·obtain ⟨o,q,r⟩:=hi1
   exact ⟨o,hs2'.extBut it o (Ne.symm hne) q,r⟩
  ·rcases zE.mp hb with z | z
   ·subst z;rw [xH (zW el)];exact e0
   ·have z':b=it:=by simpa using z
    subst z';rw [xH (zW il)];exact f0
 done:=by
  intro X hP hw hK hc i pins s σ H E I hf st hg
  subst hP hw hK
  obtain ⟨xs,hq,hx⟩:=hg
  obtain ⟨its,rv,p,hz⟩:=I.tuple hq
  obtain ⟨⟨old,he⟩,hi⟩:=st
  obtain ⟨f0,f1,f2,f3,f4,f5⟩:=hf it (by simp)
  have hl:=rv.length
  have ht:s.heap.IsTuple a its.toArray:=p
  have hai:a≠it:=λz=>by
   obtain ⟨o1,z1,c1,_⟩:=ht
   obtain ⟨o2,z2,c2,_⟩:=hi
   rw [z,z2] at z1;cases z1;rw [c2] at c1;exact absurd (Value.type.inj c1) (by decide)
  exact wpAny_pyNext_enum_endD (drawnT (A:=X.A.in1) (I.ok.hd hc) it a its.toArray) he ⟨i,hi,ht,by simp;omega⟩ λh' eb=>⟨rfl,I.turned (t':=s.toks) (λb o hb e=>eb b o hb e) f0 f1 f3 f4 f5⟩
 self:=λ_ _ _ _ _ st h=>let ⟨⟨_,he⟩,_⟩:=st;wpAny_pyIter_enum he h
def iEnumT (K:PySem.W.Frag) (ta:TA):TI:=fun σ H R=>ta σ H λvs H1=>∃ a,vs=[.ref a]/\(∃ xs,SqT K H1 a xs)/\R (IteT K a) H1
theorem pi_enumT {X:Cx}{a:Expr}{ta:TA} {p pos pos2:Pos}{es:List Expr}{k:Nat}{K:PySem.W.Frag} (hK:X.K=K) (hg:Gl X "enumerate") (hm:X.mg "enumerate" = none) (ha:PA X [a] ta) (hs:starEach [a] X.env=[(false,eval a X.env)]:=by rfl) :
  PI X (.Tuple es k pos2) (.Call (.Name "enumerate" p) [a] [] pos) (iEnumT K ta):=by
 subst hK
 intro pins s σ H R I h
 refine Call_ (ld_blt I hg hm boot_enumerate (zy (thn (ha pos pins s σ H _ I h) λus s1 ⟨vs,H1,I1,r1,q1⟩=>?_) hs rfl))
 obtain ⟨l,e,⟨xs,hq⟩,q⟩:=q1
 subst e
 cases r1 with
 | cons r rr=>
  cases rr
  cases r
  obtain ⟨its,rv,p,hz⟩:=I1.tuple hq
  refine call_enumT (show s1.heap.IsTuple l its.toArray from p) λh' he hi hk=>?_
  refine wpAny_pyIter_enum he ?_
  have I2:Inv X pins σ H1 { s1 with heap:=h' }:=I1.kept (t':=s1.toks) hk
  refine ⟨s1.heap.objs.size + 1,[s1.heap.objs.size + 1,s1.heap.objs.size],_,_,H1,rfl,I2,turn_enumT l _ _ (Nat.succ_ne_self _),⟨⟨_,he⟩,hi⟩,λb hb=>?_,q⟩
  have hb':s1.heap.objs.size<=b:=by
   rcases zE.mp hb with z | z
   ·subst z;exact yp _
   ·have z':b=s1.heap.objs.size:=by simpa using z
    subst z';exact zF _
  exact I1.fpOk hb' (I1.hok.fresh hb')
end L2
namespace L2
open PySem PySem.Spec PyProof.Rows
def tyS (H:Hp):V->Option String
 | .non=>some "NoneType"
 | .bl _=>some "bool"
 | .int _=>some "int"
 | .str _=>some "str"
 | .ref a=>match H a with
  | some (.lst _)=>some "list"
  | some (.frz _ (.lst _))=>some "list"
  | some (.tup _)=>some "tuple"
  | some (.dK _)=>some "dict"
  | _=>none
 | _=>none
theorem tyS_of {K:PySem.W.Frag}{H:Hp}{x:V}{t:String} (h:tyS H x=some t):TyOf K H x (.type t):=by
 cases x with
 | non=>cases h;exact .non
 | bl b=>cases h;exact .bl b
 | int i=>cases h;exact .int i
 | str x=>cases h;exact .str x
 | ref a=>
  unfold tyS at h
  dsimp only at h
  split at h
  ·rename_i e;cases h;exact .lst e
  ·rename_i e;cases h;exact .frz e
  ·rename_i e;cases h;exact .tup e
  ·rename_i e;cases h;exact .dK e
  ·cases h
 | _=>cases h
theorem wY {H:Hp}{x:V}{t:String} (h:tyS H x=some t):t = "NoneType" \/ t = "bool" \/ t = "int" \/ t = "str" \/ t = "list" \/ t = "tuple" \/ t = "dict" := by
 cases x with
 | ref a=>
  unfold tyS at h
  dsimp only at h
  split at h <;> cases h <;> simp
 | _=>cases h <;> simp
def isSub (t T:String):Bool:=t == T || (t == "bool" && T == "int")
theorem kit_of {K:PySem.W.Frag}{t T:String} (h:t = "NoneType" \/ t = "bool" \/ t = "int" \/ t = "str" \/ t = "list" \/ t = "tuple" \/ t = "dict") (hT:T = "int" \/ T = "bool" \/ T = "list" \/ T = "tuple"):PySem.W.kitOne K (.type t) (.type T)=some (isSub t T):=by
 rcases h with rfl | rfl | rfl | rfl | rfl | rfl | rfl <;> rcases hT with rfl | rfl | rfl | rfl <;> first | rfl | decide +kernel
section
variable {X:Cx}
theorem xc:CallR X (.builtin "isinstance") (λxs H Q=>∃ x t T,xs=[x,.ty T]/\tyS H x=some t/\(T = "int" \/ T = "bool" \/ T = "list" \/ T = "tuple")/\Q (.bl (isSub t T)) H):=by
 intro pins s σ H xs us Q I r h
 obtain ⟨x,t,T,rfl,ht,hT,q⟩:=h
 obtain ⟨u,w',rfl,r1,r2⟩:=vals2 r
 cases r2
 exact isinst_ok I r1 (tyS_of ht) (kit_of (wY ht) hT) λtk=>⟨.bl _,H,I.tok tk,rfl,q⟩
theorem op_fdivB:OpR X (binaryOp .FloorDiv) (rI (λ_ j=>0 < j/\j < 2 ^ 200) λi j=>.int (i / j)):=opI λi j _ _ _ _ _ hc q=>by
 have e:i.fdiv j=i / j:=Int.fdiv_eq_ediv_of_nonneg _ (by omega)
 rw [<-e] at q
 refine floordiv_int (by omega) q (.inl (PyProof.noPylong_of_log2 ?_))
 have h0:j.natAbs≠0:=by omega
 have h1:j.natAbs < 2 ^ 200:=by omega
 have:=(Nat.log2_lt h0).mpr h1
 omega
theorem op_neNil (hu:X.A.units + 64 < cLine):OpR X (compareOp .NotEq) (λx y H Q=>∃ a b xs,x=.ref a/\y=.ref b/\SqL X.K H a xs/\SqL X.K H b []/\Q (.bl (!xs.isEmpty)) H):=by
 intro pins s σ H x y v u Q I rx ry h
 obtain ⟨a,b,xs,rfl,rfl,ha,hb,q⟩:=h
 cases rx;cases ry
 obtain ⟨its,r,p,_⟩:=I.list ha
 obtain ⟨its2,r2,p2,_⟩:=I.list hb
 cases r2
 cases r with
 | nil=>exact SeqAt.RcNeAt.lists (e:=λ_=>true) p.isList p2.isList rfl (by omega) (λj h1=>absurd h1 (z0 _)) _ _ _ _ ⟨.bl _,H,I,rfl,q⟩
 | cons r1 rr=>exact SeqAt.RcNeAt.lists_lengths p.isList p2.isList (by simp) (by omega) _ _ _ _ ⟨.bl _,H,I,rfl,q⟩
theorem op_eqUnit (hu:X.A.units + 64 < cLine):OpR X (compareOp .Eq) (λx y H Q=>∃ a b xs,x=.ref a/\y=.ref b/\SqT X.K H a xs/\SqT X.K H b []/\Q (.bl xs.isEmpty) H):=by
 intro pins s σ H x y v u Q I rx ry h
 obtain ⟨a,b,xs,rfl,rfl,ha,hb,q⟩:=h
 cases rx;cases ry
 obtain ⟨its,r,p,_⟩:=I.tuple ha
 obtain ⟨its2,r2,p2,_⟩:=I.tuple hb
 cases r2
 have q':Q (.bl ((List.range (min its.toArray.size ([]:List Value).toArray.size)).all (λ_=>true) && its.toArray.size == ([]:List Value).toArray.size)) H:=by
  cases r with
  | nil=>simpa using q
  | cons r1 rr=>simpa using q
 exact SeqAt.RcAt.tuples (e:=λ_=>true) p p2 (by omega) (λj h1 h2=>absurd h2 (z0 _)) _ _ _ _ ⟨.bl _,H,I,rfl,q'⟩
variable {K:PySem.W.Frag}
theorem xZ {es:List Expr}{k:Nat}{t:TGs}{n:Nat}{pos:Pos} (hK:X.K=K) (hc:X.calm=true) (h:PGs X es t)
  (hn:(assignEach es X.env).length=n:=by rfl) (hst:(assignEach es X.env).findIdx? (·.1)=none:=by rfl):PG X (.Tuple es k pos) (gTup K n t):=by subst hK;exact pg_tup hc h hn hst
theorem xp {tg l:Expr}{tl:TE} (hK:X.K=K) (hl:PE X l tl):PI X tg l (iList K tl):=by subst hK;exact pi_list hl
theorem pi_tup'' {tg l:Expr}{tl:TE} (hK:X.K=K) (hl:PE X l tl):PI X tg l (iTup K tl):=by subst hK;exact pi_tup hl
theorem xI (hK:X.K=K):IxR X (rIxL K):=by subst hK;exact ix_list
theorem xK (hK:X.K=K):IxR X (rIxT K):=by subst hK;exact ix_tup
theorem wN (hK:X.K=K):SlR X (rSlL K):=by subst hK;exact sl_list
theorem sl_tup' (hK:X.K=K):SlR X (rSlT K):=by subst hK;exact sl_tup
theorem op_in_seq' (hK:X.K=K):OpR X (compareOp .In) (rIn K false):=by subst hK;exact op_in_seq
theorem xJ (hK:X.K=K):CallR X (.builtin "len") (λxs H Q=>∃ p ys,xs=[.ref p]/\(SqL K H p ys\/SqT K H p ys)/\Q (.int ys.length) H):=by subst hK;exact call_len_seq
theorem wG (hK:X.K=K):CallR X (.type "list") (λxs H Q=>∃ p ys,xs=[.ref p]/\(SqL K H p ys\/SqT K H p ys)/\∀ l,H l=none->Q (.ref l) (upd H l (.lst ys))):=by subst hK;exact call_list_of
end
end L2
namespace L2
open PySem PySem.Spec PyProof.Rows
theorem get_list {X:Cx}{K:PySem.W.Frag} (hK:X.K=K):PGet X (λo i H Q=>∃ p xs v,∃ k:Nat,o=.ref p/\i=.int k/\SqL K H p xs/\xs[k]?=some v/\Q v H):=by
 subst hK
 intro pins s σ H o i ov iv Q I ro ri h
 obtain ⟨p,xs,v,k,rfl,rfl,hq,hv,q⟩:=h
 cases ro
 obtain ⟨t,rfl⟩:=ri
 obtain ⟨its,r,pl,hz⟩:=I.list hq
 obtain ⟨w,ew,rw'⟩:=r.get hv
 have hk:k < xs.length:=(zH.mp hv).1
 have hn:=line63
 exact wpAny_getItem_list pl.isList (by omega) (by omega) (by simpa using ew) ⟨v,H,I,rw',q⟩
end L2
namespace SmSort
open PySem PySem.W PyProof.Rows
def KOK {α:Type} (n:Nat) (c:Nat->Nat->Bool):KasT α->(α->Prop)->Prop
 | .ret a,P=>P a
 | .ask i j k,P=>i < n/\j < n/\KOK n c (k (c i j)) P
theorem KOK.bind {α β:Type}{n:Nat}{c:Nat->Nat->Bool}{f:α->KasT β}{P:β->Prop}:∀ (t:KasT α),KOK n c t (λa=>KOK n c (f a) P)->KOK n c (t.bind f) P
 | .ret a,h=>h
 | .ask i j k,h=>⟨h.1,h.2.1,KOK.bind (k (c i j)) h.2.2⟩
theorem KOK.mono {α:Type}{n:Nat}{c:Nat->Nat->Bool}{P P':α->Prop} (hp:∀ a,P a->P' a):∀ (t:KasT α),KOK n c t P->KOK n c t P'
 | .ret a,h=>hp a h
 | .ask i j k,h=>⟨h.1,h.2.1,KOK.mono hp (k (c i j)) h.2.2⟩
theorem KOK.wp {α:Type}{n:Nat}{c:Nat->Nat->Bool}{P:α->Prop}{Q:α->Shared->Prop}{cmp:Nat->Nat->(Bool->Shared->Prop)->Shared->Prop}{s:Shared}
  (hc:∀ i j C,i < n->j < n->C (c i j) s->cmp i j C s) (hq:∀ a,P a->Q a s):∀ (t:KasT α),KOK n c t P->t.kasWp cmp Q s
 | .ret a,h=>hq a h
 | .ask i j k,h=>hc i j _ h.1 h.2.1 (KOK.wp hc hq (k (c i j)) h.2.2)
section
variable {n:Nat}{f:Nat->Int}
def at' (p:Array Nat) (i:Nat):Nat:=(p[i]?).getD 0
theorem getD_at (p:Array Nat) (i:Nat):p.getD i 0=at' p i:=by unfold at';simp
def g (f:Nat->Int) (p:Array Nat) (i:Nat):Int:=f (at' p i)
def Pm (n:Nat) (p:Array Nat):Prop:=p.Perm (List.toArray (List.range n))
theorem Pm.size {p:Array Nat} (h:Pm n p):p.size=n:=by rw [Array.Perm.size_eq h];simp
theorem Pm.lt {p:Array Nat} (h:Pm n p) {i:Nat} (hi:i < n):at' p i < n:=by
 have hs:=h.size
 have e:at' p i=p[i]'(by omega):=by unfold at';simp [hs,hi]
 have hm:p[i]'(by omega)∈p:=Array.getElem_mem _
 have hm':=(Array.Perm.mem_iff h).mp hm
 rw [e]
 simpa using hm'
theorem Pm.rev {p:Array Nat} (h:Pm n p) (i j:Nat):Pm n (kas_rev p i j):=(mirror_perm p i j _).trans h
theorem Pm.bub {p:Array Nat} (h:Pm n p) (k d:Nat):Pm n (bubble p k d):=(bubble_perm p k d).trans h
theorem g_rev {p:Array Nat}{i j:Nat} (hj:j<=p.size) (k:Nat):g f (kas_rev p i j) k=if i<=k/\k < j then g f p (i + j - 1 - k) else g f p k:=by
 unfold g at' kas_rev
 rw [getElem?_mirror_all hj k]
 split <;> rfl
theorem g_bub {p:Array Nat}{src d:Nat} (hs:src < p.size) (hd:d<=src) (k:Nat):g f (bubble p src d) k=if k=src - d then g f p src else if src - d < k/\k<=src then g f p (k - 1) else g f p k:=by
 unfold g at'
 rw [getElem?_bubble hs d hd k]
 split
 ·rfl
 ·split <;> rfl
def Up (f:Nat->Int) (p:Array Nat) (k:Nat):Prop:=∀ i j,i<=j->j < k->g f p i<=g f p j
def Dn (f:Nat->Int) (p:Array Nat) (k:Nat):Prop:=∀ i j,i<=j->j < k->g f p j<=g f p i
def cf (f:Nat->Int) (i j:Nat):Bool:=decide (f i < f j)
theorem asc_ok {p:Array Nat} (hp:Pm n p):∀ (q m:Nat),1<=m->m + q<=n->Up f p m->KOK n (cf f) (kas_asc p q m) (λm'=>m<=m'/\m'<=m + q/\Up f p m'/\(m' < m + q->g f p m' < g f p (m' - 1)))
 | 0,m,_,_,hu=>⟨zF _,zF _,hu,λh=>absurd h (yL _)⟩
 | q + 1,m,h1,h2,hu=>by
  unfold kas_asc
  refine ⟨by rw [getD_at];exact hp.lt (by omega),by rw [getD_at];exact hp.lt (by omega),?_⟩
  rw [getD_at,getD_at]
  by_cases hc:g f p m < g f p (m - 1)
  ·have e:cf f (at' p m) (at' p (m - 1))=true:=decide_eq_true hc
   rw [e];dsimp only;rw [if_pos rfl]
   exact ⟨zF _,by omega,hu,λ_=>hc⟩
  ·have e:cf f (at' p m) (at' p (m - 1))=false:=decide_eq_false hc
   rw [e];dsimp only;rw [if_neg zO]
   refine KOK.mono (λm' h=>⟨by omega,by omega,h.2.2.1,λz=>h.2.2.2 (by omega)⟩) _ (asc_ok hp q (m + 1) (by omega) (by omega) λi j hij hj=>?_)
   by_cases hjm:j < m
   ·exact hu i j hij hjm
   ·have ej:j=m:=by omega
    subst ej
    by_cases hi:i=j
    ·subst hi;omega
    ·have:=hu i (j - 1) (by omega) (by omega)
     omega
def Blk (f:Nat->Int) (p:Array Nat) (m q:Nat):Prop:=∀ i,m<=i + (q + 1)->i < m->g f p i=g f p (m - 1)
theorem rev_same {p:Array Nat} (hp:Pm n p) {m q:Nat} (hm:m<=n) (hq:q + 1<=m) (hb:Blk f p m q) (k:Nat):g f (kas_rev p (m - (q + 1)) m) k=g f p k:=by
 rw [g_rev (by rw [hp.size];exact hm)]
 split
 ·rename_i h
  rw [hb _ (by omega) (by omega),hb k (by omega) (by omega)]
 ·rfl
theorem desc_ok:∀ (t:Nat) (p:Array Nat) (m q:Nat),Pm n p->1<=m->m + t<=n->q + 1<=m->Dn f p m->Blk f p m q ->
  KOK n (cf f) (kas_desc t p m q) (λr=>Pm n r.1/\m<=r.2.1/\r.2.1<=n/\r.2.2 + 1<=r.2.1/\Dn f r.1 r.2.1/\Blk f r.1 r.2.1 r.2.2)
 | 0,p,m,q,hp,h1,h2,h3,hd,hb=>⟨hp,zF _,by simpa using h2,h3,hd,hb⟩
 | t + 1,p,m,q,hp,h1,h2,h3,hd,hb=>by
  unfold kas_desc
  refine ⟨by rw [getD_at];exact hp.lt (by omega),by rw [getD_at];exact hp.lt (by omega),?_⟩
  rw [getD_at,getD_at]
  by_cases hc:g f p m < g f p (m - 1)
  ·have e:cf f (at' p m) (at' p (m - 1))=true:=decide_eq_true hc
   rw [e];dsimp only;rw [if_pos rfl]
   have step:∀ p':Array Nat,Pm n p'->(∀ k,g f p' k=g f p k)->KOK n (cf f) (kas_desc t p' (m + 1) 0) (λr=>Pm n r.1/\m<=r.2.1/\r.2.1<=n/\r.2.2 + 1<=r.2.1/\Dn f r.1 r.2.1/\Blk f r.1 r.2.1 r.2.2):=λp' hp' hg=>by
    refine KOK.mono (λr h=>⟨h.1,by omega,h.2.2⟩) _ (desc_ok t p' (m + 1) 0 hp' (by omega) (by omega) (by omega) (λi j hij hj=>?_) λi hi hi'=>?_)
    ·rw [hg,hg]
     by_cases hjm:j < m
     ·exact hd i j hij hjm
     ·have ej:j=m:=by omega
      subst ej
      by_cases hi:i=j
      ·subst hi;omega
      ·have:=hd i (j - 1) (by omega) (by omega)
       omega
    ·have:i=m + 1 - 1:=by omega
     rw [this]
   split
   ·exact step _ (hp.rev _ _) (rev_same hp (by omega) h3 hb)
   ·exact step _ hp λ_=>rfl
  ·have e:cf f (at' p m) (at' p (m - 1))=false:=decide_eq_false hc
   rw [e];dsimp only;rw [if_neg zO]
   refine ⟨hp.lt (by omega),hp.lt (by omega),?_⟩
   by_cases hc2:g f p (m - 1) < g f p m
   ·have e2:cf f (at' p (m - 1)) (at' p m)=true:=decide_eq_true hc2
    rw [e2];dsimp only;rw [if_pos rfl]
    exact ⟨hp,zF _,by show m<=n;omega,h3,hd,hb⟩
   ·have e2:cf f (at' p (m - 1)) (at' p m)=false:=decide_eq_false hc2
    rw [e2];dsimp only;rw [if_neg zO]
    have eq:g f p m=g f p (m - 1):=by omega
    refine KOK.mono (λr h=>⟨h.1,by omega,h.2.2⟩) _ (desc_ok t p (m + 1) (q + 1) hp (by omega) (by omega) (by omega) (λi j hij hj=>?_) λi hi hi'=>?_)
    ·by_cases hjm:j < m
     ·exact hd i j hij hjm
     ·have ej:j=m:=by omega
      subst ej
      by_cases hi:i=j
      ·subst hi;omega
      ·have:=hd i (j - 1) (by omega) (by omega)
       omega
    ·rw [show m + 1 - 1=m from rfl]
     by_cases hi2:i=m
     ·rw [hi2]
     ·rw [hb i (by omega) (by omega),eq]
theorem tail3_ok {p:Array Nat}{m:Nat} (hp:Pm n p) (h1:1<=m) (hm:m<=n) (hd:Dn f p m):KOK n (cf f) (kas_tail3 m n p) (λr=>Pm n r.2/\r.1<=n/\1<=r.1/\Up f r.2 r.1):=by
 unfold kas_tail3
 have hp':=hp.rev 0 m
 refine KOK.bind _ (KOK.mono (λm' h=>⟨hp',by omega,by omega,h.2.2.1⟩) _ (asc_ok hp' (n - m) m h1 (by omega) λi j hij hj=>?_))
 rw [g_rev (by rw [hp.size];exact hm),g_rev (by rw [hp.size];exact hm),if_pos ⟨by omega,by omega⟩,if_pos ⟨by omega,by omega⟩]
 exact hd _ _ (by omega) (by omega)
theorem descPart_ok {p:Array Nat}{m:Nat} (hp:Pm n p) (h1:1<=m) (hm:m < n) (hd:Dn f p (m + 1)):KOK n (cf f) (kas_descPart m n p) (λr=>Pm n r.2/\r.1<=n/\1<=r.1/\Up f r.2 r.1):=by
 unfold kas_descPart
 refine KOK.bind _ (KOK.mono (λr h=>?_) _ (desc_ok (n - (m + 1)) p (m + 1) 0 hp (by omega) (by omega) (by omega) hd λi hi hi'=>by rw [show i=m + 1 - 1 by omega]))
 obtain ⟨a1,a2,a3,a4,a5,a6⟩:=h
 split
 ·exact tail3_ok (a1.rev _ _) (by omega) a3 λi j hij hj=>by
   rw [rev_same a1 a3 a4 a6,rev_same a1 a3 a4 a6]
   exact a5 i j hij hj
 ·exact tail3_ok a1 (by omega) a3 a5
theorem count_ok {p:Array Nat} (hn:1<=n) (hp:Pm n p):KOK n (cf f) (kas_count n p) (λr=>Pm n r.2/\r.1<=n/\1<=r.1/\Up f r.2 r.1):=by
 unfold kas_count
 refine KOK.bind _ (KOK.mono (λm h=>?_) _ (asc_ok hp (n - 1) 1 (zF _) (by omega) λi j hij hj=>by rw [show i=j by omega];omega))
 obtain ⟨a1,a2,a3,a4⟩:=h
 split
 ·exact ⟨hp,by omega,a1,a3⟩
 ·rename_i hne
  have hlt:m < n:=by
   have:¬ m=n:=by simpa using hne
   omega
  have a4':=a4 (by omega)
  split
  ·rename_i hm1
   refine ⟨by rw [getD_at];exact hp.lt (by omega),by rw [getD_at];exact hp.lt (by omega),?_⟩
   rw [getD_at,getD_at]
   by_cases hc:g f p 0 < g f p (m - 1)
   ·have e:cf f (at' p 0) (at' p (m - 1))=true:=decide_eq_true hc
    rw [e];dsimp only;rw [if_pos rfl]
    exact ⟨hp,by omega,a1,a3⟩
   ·have e:cf f (at' p 0) (at' p (m - 1))=false:=decide_eq_false hc
    rw [e];dsimp only;rw [if_neg zO]
    have all:∀ k,k < m->g f p k=g f p 0:=λk hk=>by
     have:=a3 0 k (by omega) hk
     have:=a3 k (m - 1) (by omega) (by omega)
     omega
    have gr:∀ k,g f (kas_rev p 0 m) k=g f p k:=λk=>by
     rw [g_rev (by rw [hp.size];omega)]
     split
     ·rw [all _ (by omega),all k (by omega)]
     ·rfl
    refine descPart_ok (hp.rev _ _) a1 hlt λi j hij hj=>?_
    rw [gr,gr]
    by_cases hjm:j < m
    ·rw [all i (by omega),all j hjm];omega
    ·have ej:j=m:=by omega
     subst ej
     by_cases hi:i=j
     ·subst hi;omega
     ·have:=all i (by omega)
      have:=all (j - 1) (by omega)
      omega
  ·refine descPart_ok hp a1 hlt λi j hij hj=>?_
   have em:m=1:=by omega
   subst em
   by_cases hi:i=j
   ·subst hi;omega
   ·have e1:i=0:=by omega
    have e2:j=1:=by omega
    subst e1 e2
    have:g f p 1 < g f p 0:=a4'
    omega
theorem place_ok {p:Array Nat}{k:Nat} (hp:Pm n p) (hk:k < n) (hu:Up f p k):∀ (t l r:Nat),l<=r->r<=k->r<=l + t->(∀ i,i < l->g f p i<=g f p k)->(∀ i,r<=i->i < k->g f p k < g f p i) ->
  KOK n (cf f) (kas_place p k t l r) (λl'=>l'<=k/\(∀ i,i < l'->g f p i<=g f p k)/\∀ i,l'<=i->i < k->g f p k < g f p i)
 | 0,l,r,h1,h2,h3,ha,hb=>⟨by omega,ha,λi hi hi'=>hb i (by omega) hi'⟩
 | t + 1,l,r,h1,h2,h3,ha,hb=>by
  unfold kas_place
  split
  ·exact ⟨by omega,ha,λi hi hi'=>hb i (by omega) hi'⟩
  ·rename_i hlr
   refine ⟨by rw [getD_at];exact hp.lt hk,by rw [getD_at];exact hp.lt (by omega),?_⟩
   rw [getD_at,getD_at]
   by_cases hc:g f p k < g f p ((l + r) / 2)
   ·have e:cf f (at' p k) (at' p ((l + r) / 2))=true:=decide_eq_true hc
    rw [e];dsimp only;rw [if_pos rfl]
    refine place_ok hp hk hu t l ((l + r) / 2) (by omega) (by omega) (by omega) ha λi hi hi'=>?_
    have:=hu ((l + r) / 2) i (by omega) hi'
    omega
   ·have e:cf f (at' p k) (at' p ((l + r) / 2))=false:=decide_eq_false hc
    rw [e];dsimp only;rw [if_neg zO]
    refine place_ok hp hk hu t ((l + r) / 2 + 1) r (by omega) (by omega) (by omega) (λi hi=>?_) hb
    have:=hu i ((l + r) / 2) (by omega) (by omega)
    omega
theorem bin_ok:∀ (t:Nat) (p:Array Nat) (k:Nat),Pm n p->k + t=n->Up f p k->KOK n (cf f) (kas_bin t p k) (λp'=>Pm n p'/\Up f p' n)
 | 0,p,k,hp,hk,hu=>⟨hp,by rw [<-hk];exact hu⟩
 | t + 1,p,k,hp,hk,hu=>by
  unfold kas_bin
  refine KOK.bind _ (KOK.mono (λl h=>?_) _ (place_ok hp (by omega) hu k 0 k (by omega) (by omega) (by omega) (λi hi=>absurd hi (z0 _)) λi hi hi'=>absurd hi' (by omega)))
  obtain ⟨a1,a2,a3⟩:=h
  refine bin_ok t _ (k + 1) (hp.bub _ _) (by omega) λi j hij hj=>?_
  have hs:k < p.size:=by rw [hp.size];omega
  rw [g_bub hs (by omega),g_bub hs (by omega)]
  have el:k - (k - l)=l:=by omega
  rw [el]
  by_cases hil:i=l
  ·rw [if_pos hil]
   by_cases hjl:j=l
   ·rw [if_pos hjl];omega
   ·rw [if_neg hjl,if_pos ⟨by omega,by omega⟩]
    have:=a3 (j - 1) (by omega) (by omega)
    omega
  ·rw [if_neg hil]
   by_cases hi2:l < i/\i<=k
   ·rw [if_pos hi2]
    rw [if_neg (by omega),if_pos ⟨by omega,by omega⟩]
    exact hu _ _ (by omega) (by omega)
   ·rw [if_neg hi2]
    have hi3:i < l:=by omega
    by_cases hjl:j=l
    ·rw [if_pos hjl];exact a2 i hi3
    ·rw [if_neg hjl]
     by_cases hj2:l < j/\j<=k
     ·rw [if_pos hj2];exact hu _ _ (by omega) (by omega)
     ·rw [if_neg hj2];exact hu _ _ hij (by omega)
theorem sort_ok (hn:1<=n):KOK n (cf f) (kas_sort n) (λp=>Pm n p/\Up f p n):=by
 unfold kas_sort
 refine KOK.bind _ (KOK.mono (λr h=>?_) _ (count_ok hn (show Pm n (List.toArray (List.range n)) from Array.Perm.refl _)))
 obtain ⟨a1,a2,a3,a4⟩:=h
 split
 ·have e:max r.1 1=r.1:=by omega
  rw [e]
  exact bin_ok _ _ _ a1 (by omega) a4
 ·have e:r.1=n:=by omega
  exact ⟨a1,by rw [<-e];exact a4⟩
end
end SmSort
namespace SmSort
def lx:List Int->List Int->Bool
 | [],[]=>false
 | [],_::_=>true
 | _::_,[]=>false
 | x::xs,y::ys=>if x=y then lx xs ys else decide (x < y)
theorem lx_irr:∀ r:List Int,lx r r=false
 | []=>rfl
 | x::xs=>by unfold lx;rw [if_pos rfl];exact lx_irr xs
theorem lx_tr:∀ {a b c:List Int},lx a b=true->lx b c=true->lx a c=true
 | [],[],_,h,_=>by cases h
 | [],_::_,[],_,h=>by cases h
 | [],_::_,_::_,_,_=>rfl
 | _::_,[],_,h,_=>by cases h
 | _::_,_::_,[],_,h=>by cases h
 | x::xs,y::ys,z::zs,h,h'=>by
  unfold lx at h h' ⊢
  split at h
  ·split at h'
   ·rename_i e1 e2;rw [if_pos (e1.trans e2)];exact lx_tr h h'
   ·rename_i e1 e2
    simp only [decide_eq_true_eq] at h'
    rw [if_neg (by omega)];simp only [decide_eq_true_eq];omega
  ·simp only [decide_eq_true_eq] at h
   split at h'
   ·rename_i e1 e2
    rw [if_neg (by omega)];simp only [decide_eq_true_eq];omega
   ·simp only [decide_eq_true_eq] at h'
    rw [if_neg (by omega)];simp only [decide_eq_true_eq];omega
theorem lx_tot:∀ {a b:List Int},lx a b=false->lx b a=false->a=b
 | [],[],_,_=>rfl
 | [],_::_,h,_=>by cases h
 | _::_,[],_,h=>by cases h
 | x::xs,y::ys,h,h'=>by
  unfold lx at h h'
  split at h
  ·rename_i e;subst e;rw [if_pos rfl] at h';rw [lx_tot h h']
  ·rename_i e
   rw [if_neg λz=>e z.symm] at h'
   simp only [decide_eq_false_iff_not] at h h'
   omega
def rk (rs:List (List Int)) (r:List Int):Int:=((rs.countP λx=>lx x r:Nat):Int)
theorem countP_lt {α:Type}{p q:α->Bool}{a:α}:∀ {l:List α},(∀ x,p x=true->q x=true)->a∈l->p a=false->q a=true->l.countP p < l.countP q
 | [],_,h,_,_=>by cases h
 | x::l,hpq,h,h1,h2=>by
  have hm:l.countP p<=l.countP q:=List.countP_mono_left λx _=>hpq x
  rcases zE.mp h with rfl | h
  ·rw [List.countP_cons_of_neg (by rw [h1];exact zO),List.countP_cons_of_pos h2];omega
  ·have:=countP_lt hpq h h1 h2
   rw [List.countP_cons,List.countP_cons]
   cases e:p x with
   | true=>rw [hpq x e];simp;omega
   | false=>cases e2:q x <;> simp <;> omega
theorem rk_lt {rs:List (List Int)}{a b:List Int} (ha:a∈rs):decide (rk rs a < rk rs b)=lx a b:=by
 unfold rk
 cases h:lx a b with
 | true=>
  have:=countP_lt (p:=λx=>lx x a) (q:=λx=>lx x b) (λx hx=>lx_tr hx h) ha (lx_irr a) h
  simp only [decide_eq_true_eq];omega
 | false=>
  have hm:rs.countP (λx=>lx x b)<=rs.countP (λx=>lx x a):=List.countP_mono_left λx _ hx=>by
   cases h':lx b a with
   | true=>exact lx_tr hx h'
   | false=>rw [lx_tot h h'];exact hx
  simp only [decide_eq_false_iff_not];omega
end SmSort
namespace L2
open PySem PySem.Spec PyProof.Rows PySem.W SmSort
theorem ObjOk.at {P:Program}{w:World}{H:Hp}{h:Heap}{a:Addr}{o:HO} (x:ObjOk P w H h a o):∃ ob,h.get? a=some ob:=by
 cases o with
 | lst xs=>obtain ⟨_,_,_,_,e⟩:=x;exact ⟨_,e⟩
 | tup xs=>obtain ⟨_,_,_,ob,e,_⟩:=x;exact ⟨_,e⟩
 | dK kvs=>obtain ⟨_,_,_,_,o,_,_,e,_⟩:=x;exact ⟨_,e⟩
 | dT kvs=>obtain ⟨_,_,_,_,o,_,_,e,_⟩:=x;exact ⟨_,e⟩
 | set S n=>obtain ⟨o,_,_,_,e,_⟩:=x;exact ⟨_,e⟩
 | ins C dx fs=>obtain ⟨_,_,_,e,_⟩:=x;exact ⟨_,e⟩
 | own y=>obtain ⟨_,e⟩:=x;exact ⟨_,e⟩
 | xd fs=>obtain ⟨_,⟨_,_,_,e,_⟩,_⟩:=x;exact ⟨_,e⟩
 | rng lo hi=>obtain ⟨_,_,_,e⟩:=x;exact ⟨_,e⟩
 | frz ob u=>obtain ⟨e,_⟩:=x;exact ⟨_,e⟩
 | tbl ps=>exact ⟨_,(show h.get? a=some _ from x)⟩
 | met f y=>exact ⟨_,(show h.get? a=some _ from x)⟩
 | ext φ=>obtain ⟨_,⟨_,e⟩,_⟩:=x;exact ⟨_,e⟩
section
variable {X:Cx}{pins:List (Addr×Obj)}{σ:St}{H:Hp}{s:Shared}
theorem Inv.sortedTo {m:Str->Option Value}{h':Heap}{D:Addr}{its:List Value}{c:Nat}{xs:List V} (I:Inv X pins σ H s) (F0:Fr X.base X.env.locals s.heap m) (F:Fr X.base X.env.locals h' m)
  (N:News X.base X.env.locals h' ((D,listOf its.toArray c)::allNews X.base s.heap X.env.locals)) (lt:∀ q∈allNews X.base s.heap X.env.locals,q.1 < D) (hv:Vals xs its) (hz:xs.length<=sizeLine) :
  Inv X pins σ (upd H D (.lst xs)) { s with heap:=h' }/\H D=none:=by
 obtain ⟨eD,nL,nb⟩:=N (D,listOf its.toArray c) (.head _)
 have oldD:s.heap.get? D=none:=by
  cases q:s.heap.get? D with
  | none=>rfl
  | some o=>exact absurd (lt (D,o) (mem_allNews nL nb q)) (yL _)
 have hD:H D=none:=by
  cases q:H D with
  | none=>rfl
  | some u=>
   obtain ⟨ob,e⟩:=(I.hok D u q).at
   rw [oldD] at e;cases e
 have keep:∀ b o,b≠X.env.locals->s.heap.get? b=some o->h'.get? b=some o:=λb o hb e=>by
  cases q:X.base.get? b with
  | some u=>
   have:=I.bk b u q
   rw [e] at this;cases this
   exact F.keep b _ q
  | none=>exact (N (b,o) (.tail _ (mem_allNews hb q e))).1
 have neD:∀ b o,s.heap.get? b=some o->b≠D:=λb o e z=>by rw [z,oldD] at e;cases e
 have neT:∀ b u,H b=some u->b≠D:=λb u e z=>by rw [z,hD] at e;cases e
 refine ⟨I.step (g':=s.gens) (t':=s.toks) (d':=s.drawn) (ch:=[]) (λ_ z=>nomatch z) (λb o hb _ _ e _=>keep b o hb e) (λb o hb _ _ e _=>⟨o.slots,keep b o hb e⟩) (λb o _ e n=>by rw [xH (neD b o e)];exact n) (λb o _ e=>?_)
  (λb ys e=>by rw [xH (neT b _ e)];exact e) (λb o u e=>by rw [xH (neT b _ e)];exact e) (λb ps e=>⟨#[],by rw [xH (neT b _ e),e,Array.append_empty]⟩) (λm' hm=>?_) (λb u e=>?_) I.bare,hD⟩
 ·by_cases hb:b=X.env.locals
  ·obtain ⟨o',_,_,q,_⟩:=F.ns
   exact ⟨o',by rw [hb];exact q⟩
  ·exact ⟨o,keep b o hb e⟩
 ·obtain ⟨o1,es1,ep1,e1,d1,k1,f1⟩:=hm
  obtain ⟨o2,es2,ep2,e2,d2,k2,f2⟩:=F0.ns
  rw [e1] at e2;cases e2
  rw [d1] at d2;cases d2
  obtain ⟨o3,es3,ep3,e3,d3,k3,f3⟩:=F.ns
  exact ⟨o3,es3,ep3,e3,d3,k3,λname=>(f3 name).trans ((f2 name).symm.trans (f1 name))⟩
 ·by_cases hb:b=D
  ·subst hb;rw [yx] at e;cases e
   exact ⟨hz,its,c,hv,eD⟩
  ·rw [xH hb] at e
   refine (I.hok b u e).stay (λc v hc q=>keep c v (λz=>?_) q) (λc q=>by rw [xH (neT c _ q)];exact q) λc ys q=>by rw [xH (neT c _ q)];exact q
   rcases hc with rfl | hc
   ·rw [z,I.free] at e;cases e
   ·rw [z,I.free] at hc;cases hc
end
section
variable {prog:Program}{w:World}{A:Around}{E:Value->Shared->Prop}{s:Shared}
theorem snds_short {its:List Value} (few:its.length < 2):(its.toArray.zip its.toArray).map (·.2)=its.toArray:=by
 rcases its with _ | ⟨x,_ | ⟨y,r⟩⟩
 ·simp
 ·simp
 ·exact absurd few (by simp)
theorem sort_short {a:Addr}{its:List Value}{k:Nat}{P:PySem.Fin->Shared->Prop} (hx:s.heap.get? a=some (seqObj "list" its.toArray k)) (few:its.length < 2)
  (done:P (.done (.ret .none)) { s with heap:=sortedHeap s.heap a its its.toArray }):wpAny (model prog w) A (Builtin.«list.sort» ⟨[.ref a],[]⟩) P E s:=by
 have here:a < s.heap.objs.size:=Heap.lt_size hx
 have line:its.length<=sizeLine:=by rw [sizeLine_eq];omega
 rw [list_sort_plain]
 obtain ⟨e1,at1⟩:∃ e1,(s.heap.update a (Obj.mapSeq λ_=>(#[]:Array Value))).get? a=some (seqObj "list" #[] e1):=⟨_,get?_update_seq hx (λ_=>#[])⟩
 refine wpAny_bind (listItems_at hx rfl (wpAny_bind (listUpdate_at hx rfl (wpAny_bind (seqEpoch_at at1 rfl (wpAny_bind (wpAny_newTuple (wpAny_bind (wpAny_newList (wpAny_holding ?_) (za _))) line))))
  (by rw [zP];exact line) (za _))))
 have at2:(((s.heap.update a (Obj.mapSeq λ_=>(#[]:Array Value))).push (seqObj "tuple" its.toArray 0)).push (seqObj "list" #[] 0)).get? a=some (seqObj "list" #[] e1):=
  Heap.get?_push_of_some _ (Heap.get?_push_of_some _ at1)
 show wpAny (model prog w) A _ P E { s with heap:=((s.heap.update a (Obj.mapSeq λ_=>(#[]:Array Value))).push (seqObj "tuple" its.toArray 0)).push (seqObj "list" #[] 0) }
 have less:its.toArray.size < 2:=by rw [zP];exact few
 have snds:(arrOf (SortSt.mk' general' (its.toArray.zip its.toArray) #[] 7 none)).map (·.2)=its.toArray:=by
  show (its.toArray.zip its.toArray).map (·.2)=its.toArray
  exact snds_short few
 dsimp only
 rw [if_pos less,if_pos less]
 refine wpAny_bind (wpAny_pure ?_)
 rw [StateT.run_pure]
 refine wpAny_bind (wpAny_pure ?_)
 dsimp only
 refine wpAny_bind (seqEpoch_at at2 rfl (wpAny_bind (listUpdate_at at2 rfl ?_ (za _) (by rw [snds,zP];omega))))
 simp only [bne_self_eq_false,zj,if_false]
 rw [snds]
 exact wpAny_pure done
theorem sorted_short {l:Addr}{its:List Value}{Q:Value->Shared->Prop} (hl:s.heap.IsList l its.toArray) (few:its.length < 2)
  (done:Q (.ref (s.heap.objs.size + 1)) { s with heap:=sortedAll s.heap its its.toArray }):wpAny (model prog w) A (call (.builtin "sorted") [.ref l]) Q E s:=by
 have line:its.length<=sizeLine:=by rw [sizeLine_eq];omega
 refine Calls.call_function_entry kind_sorted plain_sorted entry_sorted (args_sorted1 _) ?_
 unfold Builtin.«sorted»
 refine wpAny_bind (m:=checkCount "sorted" 1 1 _) (wpAny_pure (wpAny_bind (collect_list hl (wpAny_bind (wpAny_newList ?_ line)) line)))
 have sz:((s.heap.push (seqObj "list" #[] 0)).update s.heap.objs.size (Obj.mapSeq (·++its.toArray))).objs.size=s.heap.objs.size + 1:=by rw [Heap.size_update,size_push']
 have atL:(((s.heap.push (seqObj "list" #[] 0)).update s.heap.objs.size (Obj.mapSeq (·++its.toArray))).push (seqObj "list" its.toArray 0)).get? (s.heap.objs.size + 1)=some (seqObj "list" its.toArray 0):=by
  rw [<-sz];exact Heap.get?_push_size _ rfl
 show wpAny _ _ _ _ _ { s with heap:=((s.heap.push (seqObj "list" #[] 0)).update s.heap.objs.size (Obj.mapSeq (·++its.toArray))).push (seqObj "list" its.toArray 0) }
 rw [sz]
 exact wpAny_bind (wpAny_holding (wpAny_call_entry slot_list_sort ⟨_,atL,rfl⟩ entry_list_sort (sort_short atL few ⟨_,rfl,wpAny_pure ⟨_,rfl,done⟩⟩) (args_list_sort _)))
end
section
variable {X:Cx}
theorem vals_refs:∀ {ps:List (Addr×List Int)}{us:List Value},Vals (ps.map λa=>V.ref a.1) us->us=ps.map λa=>Value.ref a.1
 | [],us,r=>by cases r;rfl
 | a::ps,us,r=>by
  cases r with
  | cons x y=>rw [vals_refs y];cases x;rfl
def RowAt (h:Heap) (a:Addr) (r:List Int):Prop:=∃ o items n,h.get? a=some o/\o.cls=.type "tuple" /\ o.data=.seq items n/\Vals (r.map V.int) items.toList
theorem vals_lex {prog:Program}{w:World}{A:Around}{s:Shared}{b fin:Bool}{Q:Bool->Shared->Prop}:∀ {r r':List Int}{us us':List Value}{i:Nat},Vals (r.map V.int) us->Vals (r'.map V.int) us'->fin=decide (us.length < us'.length)->Q (lx r r') s ->
  KatLex prog w A b fin Q (us.zip us') i s
 | [],[],us,us',i,ru,ru',hf,q=>by cases ru;cases ru';exact kat_nil (by rw [hf];exact q)
 | [],_::_,us,us',i,ru,ru',hf,q=>by
  cases ru;cases ru' with
  | cons _ _=>exact kat_nil (by rw [hf];simpa [lx] using q)
 | _::_,[],us,us',i,ru,ru',hf,q=>by
  cases ru';cases ru with
  | cons _ _=>exact kat_nil (by rw [hf];simpa [lx] using q)
 | x::r,y::r',us,us',i,ru,ru',hf,q=>by
  cases ru with
  | cons rx ru=>
  cases ru' with
  | cons ry ru'=>
  obtain ⟨t,rfl⟩:=rx
  obtain ⟨t',rfl⟩:=ry
  refine kat_cons (wpAny_eqBool_int ?_)
  unfold lx at q
  by_cases e:x=y
  ·subst e
   rw [if_pos rfl] at q
   rw [show (x == x)=true from by simp]
   exact kat_yes (vals_lex ru ru' (by rw [hf];simp) q)
  ·rw [if_neg e] at q
   rw [show (x == y)=false from by simpa using e]
   refine kat_no ?_
   cases (b && i == 0) with
   | true=>exact oneLt_int q
   | false=>exact kat_one _ _ (lt_int q)
theorem kat_tups {h:Heap}:∀ {ps:List (Addr×List Int)},(∀ a∈ps,RowAt h a.1 a.2/\a.2≠[])->∃ fs,KatTups h (ps.map λa=>Value.ref a.1) fs/\fs.length=ps.length/\∀ v∈fs,∃ i t,v=Value.int i t
 | [],_=>⟨[],KatTups.nil,rfl,λ_ z=>nomatch z⟩
 | (a,r)::ps,hp=>by
  obtain ⟨fs,k,l,f⟩:=kat_tups λa ha=>hp a (.tail _ ha)
  obtain ⟨⟨o,items,n,ho,hc,hd,hv⟩,hn⟩:=hp (a,r) (.head _)
  match r,hn,hv with
  | x::r,_,hv=>
   obtain ⟨u,hu,t,e⟩:=Vals.get (i:=0) hv rfl
   refine ⟨u::fs,KatTups.cons ho hc hd (by rw [<-hu];simp) k,by simp [l],λv hv=>?_⟩
   rcases zE.mp hv with rfl | hv
   ·exact ⟨x,t,e⟩
   ·exact f v hv
theorem range_map {α:Type} (d:α) (l:List α):(List.range l.length).map (λi=>l.getD i d)=l:=by
 apply List.ext_getElem
 ·simp
 ·intro i h1 h2
  simp [List.getD,h2]
theorem vals_of_refs:∀ (ps:List (Addr×List Int)),Vals (ps.map λa=>V.ref a.1) (ps.map λa=>Value.ref a.1)
 | []=>.nil
 | _::ps=>.cons rfl (vals_of_refs ps)
theorem call_sortT:CallR X (.builtin "sorted") (λxs H Q=>∃ p,∃ ps:List (Addr×List Int),xs=[.ref p]/\SqL X.K H p (ps.map λa=>V.ref a.1)/\ps.length < 64/\(∀ a∈ps,H a.1=some (.tup (a.2.map V.int))/\a.2≠[]) /\
  ∀ l qs,H l=none->List.Perm qs ps->qs.Pairwise (λa b=>lx b.2 a.2=false)->Q (.ref l) (upd H l (.lst (qs.map λa=>V.ref a.1)))):=by
 intro pins s σ H xs us Q I r h
 obtain ⟨p,ps,rfl,hq,h64,hrow,q⟩:=h
 obtain ⟨u,rfl,rx⟩:=vals1 r
 cases rx
 obtain ⟨its,r',pl,hz⟩:=I.list hq
 have ei:=vals_refs r'
 subst ei
 have hlen:(ps.map λa=>Value.ref a.1).length=ps.length:=by simp
 by_cases h2:ps.length < 2
 ·refine sorted_short pl.isList (by omega) ?_
  have sz:((s.heap.push (seqObj "list" #[] 0)).update s.heap.objs.size (Obj.mapSeq (·++(ps.map λa=>Value.ref a.1).toArray))).objs.size=s.heap.objs.size + 1:=by rw [Heap.size_update,size_push']
  have kp:∀ b o,s.heap.get? b=some o->(sortedAll s.heap (ps.map λa=>Value.ref a.1) (ps.map λa=>Value.ref a.1).toArray).get? b=some o:=λb o e=>by
   have lb:b < s.heap.objs.size:=Heap.lt_size e
   unfold sortedAll sortedHeap
   rw [Heap.get?_update_ne _ _ _ _ (zW (yk lb))]
   refine Heap.get?_push_of_some _ (Heap.get?_push_of_some _ ?_)
   rw [Heap.get?_update_ne _ _ _ _ (zW (yk lb))]
   refine Heap.get?_push_of_some _ ?_
   rw [Heap.get?_update_ne _ _ _ _ (zW lb)]
   exact Heap.get?_push_of_some _ e
  obtain ⟨c,ec⟩:∃ c,(sortedAll s.heap (ps.map λa=>Value.ref a.1) (ps.map λa=>Value.ref a.1).toArray).get? (s.heap.objs.size + 1)=some (seqObj "list" (ps.map λa=>Value.ref a.1).toArray c):=by
   have e0:=Heap.get?_push_size ((s.heap.push (seqObj "list" #[] 0)).update s.heap.objs.size (Obj.mapSeq (·++(ps.map λa=>Value.ref a.1).toArray))) (o:=seqObj "list" (ps.map λa=>Value.ref a.1).toArray 0) rfl
   rw [sz] at e0
   unfold sortedAll sortedHeap
   have e1:=get?_update_seq e0 (λ_=>(#[]:Array Value))
   exact ⟨_,get?_update_seq (Heap.get?_push_of_some _ (Heap.get?_push_of_some _ e1)) _⟩
  refine ⟨.ref (s.heap.objs.size + 1),_,I.laid (t':=s.toks) kp (yp _) (show ObjOk X.prog X.w _ _ _ (.lst (ps.map λa=>V.ref a.1)) from ⟨hz,_,c,r',ec⟩),rfl,q _ ps (I.hok.fresh (yp _)) (List.Perm.refl _) ?_⟩
  match ps,h2 with
  | [],_=>exact .nil
  | [_],_=>exact List.pairwise_singleton _ _
 ·obtain ⟨m,F⟩:=I.fr
  refine kat_sorted F (news_all (g:=X.base) (h:=s.heap)) pl.isList (by omega) (by omega) λD e1 h' F' N' lt=>?_
  have keep:∀ b o,b≠X.env.locals->s.heap.get? b=some o->h'.get? b=some o:=λb o hb e=>by
   cases q:X.base.get? b with
   | some u=>
    have:=I.bk b u q
    rw [e] at this;cases this
    exact F'.keep b _ q
   | none=>exact (N' (b,o) (.tail _ (mem_allNews hb q e))).1
  have rowAt:∀ a∈ps,RowAt h' a.1 a.2/\a.2≠[]:=λa ha=>by
   obtain ⟨ht,hn⟩:=hrow a ha
   obtain ⟨_,its,rv,o,e,c,n,d⟩:=I.hok a.1 _ ht
   refine ⟨⟨o,_,n,keep a.1 o (λz=>?_) e,c,d,rv⟩,hn⟩
   rw [z,I.free] at ht;cases ht
  obtain ⟨fs,kt,lf,hf⟩:=kat_tups rowAt
  refine kat_kind (T:=.type "int") kt (by omega) (λv hv=>?_) (by decide) ?_
  ·obtain ⟨i,t,rfl⟩:=hf v hv
   exact Looks.now
  have n1:1<=(ps.map λa=>Value.ref a.1).length:=by omega
  refine KOK.wp (c:=cf λi=>rk (ps.map (·.2)) ((ps.map (·.2)).getD i [])) (λi j C hi hj hC=>?_) (λpp hp=>?_) _ (sort_ok (f:=λi=>rk (ps.map (·.2)) ((ps.map (·.2)).getD i [])) n1)
  ·have hi':i < ps.length:=by omega
   have hj':j < ps.length:=by omega
   obtain ⟨⟨o,items,n,ho,hc,hd,hv⟩,hn⟩:=rowAt ps[i] (yI hi')
   obtain ⟨⟨o',items',n',ho',hc',hd',hv'⟩,hn'⟩:=rowAt ps[j] (yI hj')
   unfold kas_ask
   have ei:(ps.map λa=>Value.ref a.1).getD i Value.none=.ref ps[i].1:=by simp [hi']
   have ej:(ps.map λa=>Value.ref a.1).getD j Value.none=.ref ps[j].1:=by simp [hj']
   rw [ei,ej]
   refine kat_lt ho hd ho' hd' (vals_lex hv hv' (by simp) ?_)
   have e:cf (λi=>rk (ps.map (·.2)) ((ps.map (·.2)).getD i [])) i j=lx ps[i].2 ps[j].2:=by
    unfold cf
    have e1:(ps.map (·.2)).getD i []=ps[i].2:=by simp [hi']
    have e2:(ps.map (·.2)).getD j []=ps[j].2:=by simp [hj']
    simp only [e1,e2]
    exact rk_lt (zp.mpr ⟨ps[i],yI hi',rfl⟩)
   rw [e] at hC
   exact hC
  ·obtain ⟨pm,up⟩:=hp
   refine KasFin.intro F' N' (UpdF.head λx hx=>zW (lt x hx)) λh2' c F2 N2=>?_
   have pl:pp.toList.Perm (List.range ps.length):=by
    have:=pm.toList
    rw [hlen] at this
    simpa using this
   have eo:(pp.toList.map λi=>(ps.map λa=>Value.ref a.1).getD i Value.none)=(pp.toList.map λi=>ps.getD i (0,[])).map λa=>Value.ref a.1:=by
    rw [yl]
    refine List.map_congr_left λi hi=>?_
    have hi':i < ps.length:=zx.mp (pl.mem_iff.mp hi)
    simp [hi']
   have perm:(pp.toList.map λi=>ps.getD i (0,[])).Perm ps:=by
    have:=pl.map λi=>ps.getD i (0,[])
    rwa [range_map] at this
   rw [eo] at N2
   have hzz:((pp.toList.map λi=>ps.getD i (0,[])).map λa=>V.ref a.1).length<=sizeLine:=by
    rw [zA,perm.length_eq,sizeLine_eq];omega
   obtain ⟨I2,hD⟩:=I.sortedTo F F2 N2 lt (vals_of_refs _) hzz
   refine ⟨.ref D,_,I2,rfl,q D _ hD perm ?_⟩
   rw [List.pairwise_iff_getElem]
   intro i j hi hj hij
   simp only [zA,Array.length_toList] at hi hj
   simp only [List.getElem_map,Array.getElem_toList]
   have hn:pp.size=ps.length:=by rw [pm.size];exact hlen
   have key:=up i j (Nat.le_of_lt hij) (by omega)
   have a1:pp[i] < ps.length:=zx.mp (pl.mem_iff.mp (by simp))
   have a2:pp[j] < ps.length:=zx.mp (pl.mem_iff.mp (by simp))
   unfold g at'  at key
   simp only [hi,hj,getElem?_pos,Option.getD_some] at key
   have e1:(ps.map (·.2)).getD pp[i] []=ps[pp[i]].2:=by simp [a1]
   have e2:(ps.map (·.2)).getD pp[j] []=ps[pp[j]].2:=by simp [a2]
   rw [e1,e2] at key
   have e3:ps.getD pp[i] (0,[])=ps[pp[i]]:=by simp [a1]
   have e4:ps.getD pp[j] (0,[])=ps[pp[j]]:=by simp [a2]
   rw [e3,e4]
   have:=rk_lt (rs:=ps.map (·.2)) (a:=ps[pp[j]].2) (b:=ps[pp[i]].2) (zp.mpr ⟨_,yI a2,rfl⟩)
   rw [<-this]
   simp only [decide_eq_false_iff_not]
   omega
end
end L2
namespace L2
open PySem PySem.Spec PyProof.Rows
def notStar:Expr->Bool
 | .Starred _ _=>false
 | _=>true
theorem star_cons {e:Expr}{es:List Expr}{env:Env} (h:notStar e=true):starEach (e::es) env=(false,eval e env)::starEach es env:=by
 cases e <;> first | rfl | cases h
@[irreducible] def PA2 (X:Cx) (es:List Expr) (t:TA):Prop:=PA X es t
theorem yu {X:Cx}{es:List Expr}{t:TA} (h:PA2 X es t):PA X es t:=by unfold PA2 at h;exact h
theorem pa_in {X:Cx}{es:List Expr}{t:TA} (h:PA X es t):PA2 X es t:=by unfold PA2;exact h
theorem xB {X:Cx}:PA2 X [] tNil:=pa_in wd
theorem yw {X:Cx}{e:Expr}{es:List Expr}{te:TE}{t:TA} (ha:PE X e te) (hr:PA2 X es t) (hn:notStar e=true):PA2 X (e::es) (tCons te t):=pa_in (pa_cons ha (yu hr) (star_cons hn))
@[irreducible] def PSs2 (X:Cx) (es:List Stmt) (t:TS):Prop:=PSs X es t
theorem xD {X:Cx}{es:List Stmt}{t:TS} (h:PSs2 X es t):PSs X es t:=by unfold PSs2 at h;exact h
theorem bl_in {X:Cx}{es:List Stmt}{t:TS} (h:PSs X es t):PSs2 X es t:=by unfold PSs2;exact h
theorem xS {X:Cx}{a:Stmt}{t:TS} (h:PS X a t):PSs2 X [a] t:=bl_in (pss_one h)
theorem xQ {X:Cx}{a b:Stmt}{rest:List Stmt}{t u:TS} (h:PS X a t) (hr:PSs2 X (b::rest) u):PSs2 X (a::b::rest) (tSeq t u):=bl_in (pss_cons h (xD hr))
end L2
namespace L2
open PySem PySem.Spec PyProof.Rows
section
variable {K:PySem.W.Frag}{a:Addr}{xs:List V}{n:Nat}{caps:List Nat}{g:TG}{tc:TT}{te:TE}{σ:St}{H:Hp}{Qf:Addr->Hp->List V->Prop}
theorem comp_of {J:It} (Pv:Nat->St->List V->Hp->Prop) (len:Nat) (h0:Pv 0 (tau0 n caps σ) [] H) (hn:len<=1000) (hl:∀ i τ acc H,Pv i τ acc H->acc.length<=i)
  (hgo:∀ i τ acc H,i < len->Pv i τ acc H->J.go i H) (hstop:∀ τ acc H,Pv len τ acc H->J.stop len H)
  (hs:∀ i τ acc H (C:St->List V->Hp->Prop),i < len->Pv i τ acc H->(∀ τ acc H,Pv (i + 1) τ acc H->C τ acc H)->∀ x H',J.yld i H x H'->g x τ H' fun τ2 H2=>tc τ2 H2 λb H3=>if b=true then te τ2 H3 λy H4=>C τ2 (acc++[y]) H4 else C τ2 acc H3)
  (hd:∀ τ acc H,Pv len τ acc H->∀ p,H p=none->Qf p H acc) :
  ∃ W:Nat->Nat->St->List V->Hp->Prop,(∃ m,W 0 m (tau0 n caps σ) [] H)/\∀ i m τ acc H,W i m τ acc H ->
   (J.stop i H/\acc.length<=sizeLine/\∀ p,H p=none->Qf p H acc) \/
   (J.go i H/\acc.length < sizeLine/\∀ x H',J.yld i H x H'->g x τ H' fun τ2 H2=>tc τ2 H2 λb H3=>if b=true then te τ2 H3 λy H4=>∃ m',m' < m/\W (i + 1) m' τ2 (acc++[y]) H4 else ∃ m',m' < m/\W (i + 1) m' τ2 acc H3):=by
 have line:1001<=sizeLine:=by rw [sizeLine_eq];decide
 refine ⟨λi m τ acc H=>m=len - i/\i<=len/\Pv i τ acc H,⟨len,by simp,za _,h0⟩,?_⟩
 rintro i m τ acc H ⟨rfl,hi,p⟩
 have q:=hl i τ acc H p
 by_cases hlt:i < len
 ·exact .inr ⟨hgo i τ acc H hlt p,by omega,λx H' y=>hs i τ acc H (fun τ acc H=>∃ m',m' < len - i/\m'=len - (i + 1)/\i + 1<=len/\Pv (i + 1) τ acc H) hlt p (fun τ acc H p'=>⟨len - (i + 1),by omega,rfl,hlt,p'⟩) x H' y⟩
 ·have e:i=len:=by omega
  subst e
  exact .inl ⟨hstop τ acc H p,by omega,hd τ acc H p⟩
theorem comp_tup (Pv:Nat->St->List V->Hp->Prop) (h0:Pv 0 (tau0 n caps σ) [] H) (hn:xs.length<=1000) (hl:∀ i τ acc H,Pv i τ acc H->acc.length<=i/\SqT K H a xs)
  (hs:∀ i x τ acc H (C:St->List V->Hp->Prop),xs[i]?=some x->Pv i τ acc H->(∀ τ acc H,Pv (i + 1) τ acc H->C τ acc H)->g x τ H fun τ2 H2=>tc τ2 H2 λb H3=>if b=true then te τ2 H3 λy H4=>C τ2 (acc++[y]) H4 else C τ2 acc H3)
  (hd:∀ τ acc H,Pv xs.length τ acc H->∀ p,H p=none->Qf p H acc) :
  ∃ W:Nat->Nat->St->List V->Hp->Prop,(∃ m,W 0 m (tau0 n caps σ) [] H)/\∀ i m τ acc H,W i m τ acc H ->
   ((Itt K a).stop i H/\acc.length<=sizeLine/\∀ p,H p=none->Qf p H acc) \/
   ((Itt K a).go i H/\acc.length < sizeLine/\∀ x H',(Itt K a).yld i H x H'->g x τ H' fun τ2 H2=>tc τ2 H2 λb H3=>if b=true then te τ2 H3 λy H4=>∃ m',m' < m/\W (i + 1) m' τ2 (acc++[y]) H4 else ∃ m',m' < m/\W (i + 1) m' τ2 acc H3):=
 comp_of (J:=Itt K a) Pv xs.length h0 hn (λi τ acc H p=>(hl i τ acc H p).1) (λi τ acc H hi p=>⟨xs,xs[i],(hl i τ acc H p).2,by simp [hi]⟩) (fun τ acc H p=>⟨xs,(hl _ τ acc H p).2,zF _⟩)
  (λi τ acc H C hi p c x H' y=>by obtain ⟨e,y⟩:=y;subst e;exact hs i x τ acc _ C (y xs (hl i τ acc _ p).2) p c) hd
theorem xz (Pv:Nat->St->List V->Hp->Prop) (h0:Pv 0 (tau0 n caps σ) [] H) (hn:xs.length<=1000) (hl:∀ i τ acc H,Pv i τ acc H->acc.length<=i/\SqL K H a xs)
  (hs:∀ i x τ acc H (C:St->List V->Hp->Prop),xs[i]?=some x->Pv i τ acc H->(∀ τ acc H,Pv (i + 1) τ acc H->C τ acc H)->g x τ H fun τ2 H2=>tc τ2 H2 λb H3=>if b=true then te τ2 H3 λy H4=>C τ2 (acc++[y]) H4 else C τ2 acc H3)
  (hd:∀ τ acc H,Pv xs.length τ acc H->∀ p,H p=none->Qf p H acc) :
  ∃ W:Nat->Nat->St->List V->Hp->Prop,(∃ m,W 0 m (tau0 n caps σ) [] H)/\∀ i m τ acc H,W i m τ acc H ->
   ((Itl K a).stop i H/\acc.length<=sizeLine/\∀ p,H p=none->Qf p H acc) \/
   ((Itl K a).go i H/\acc.length < sizeLine/\∀ x H',(Itl K a).yld i H x H'->g x τ H' fun τ2 H2=>tc τ2 H2 λb H3=>if b=true then te τ2 H3 λy H4=>∃ m',m' < m/\W (i + 1) m' τ2 (acc++[y]) H4 else ∃ m',m' < m/\W (i + 1) m' τ2 acc H3):=
 comp_of (J:=Itl K a) Pv xs.length h0 hn (λi τ acc H p=>(hl i τ acc H p).1) (λi τ acc H hi p=>⟨xs,xs[i],(hl i τ acc H p).2,by simp [hi]⟩) (fun τ acc H p=>⟨xs,(hl _ τ acc H p).2,zF _⟩)
  (λi τ acc H C hi p c x H' y=>by obtain ⟨e,y⟩:=y;subst e;exact hs i x τ acc _ C (y xs (hl i τ acc _ p).2) p c) hd
theorem for_enumT {tb:TS}{D:Ends} (Pv:Nat->St->Hp->Prop) (h0:Pv 0 σ H) (hl:∀ i σ H,i<=xs.length->Pv i σ H->SqT K H a xs)
  (hs:∀ i x q σ H,xs[i]?=some x->H q=none->Pv i σ H->g (.ref q) σ (upd H q (.tup [.int i,x])) fun σ2 H2=>tb (D.lp (Pv (i + 1))) σ2 H2) (hd:∀ σ H,Pv xs.length σ H->D.nx σ H) :
  ∃ W:Nat->Nat->St->Hp->Prop,(∃ m,W 0 m σ H)/\∀ i m σ H,W i m σ H ->
   ((IteT K a).stop i H/\D.nx σ H)\/((IteT K a).go i H/\∃ N:St->Hp->Prop,(∀ σ' H',N σ' H'->∃ m',m' < m/\W (i + 1) m' σ' H')/\∀ x H',(IteT K a).yld i H x H'->g x σ H' fun σ2 H2=>tb (D.lp N) σ2 H2):=by
 refine ⟨λi m σ H=>m=xs.length - i/\i<=xs.length/\Pv i σ H,⟨xs.length,by simp,za _,h0⟩,?_⟩
 rintro i m σ H ⟨rfl,hi,p⟩
 have q:=hl i σ H hi p
 by_cases hlt:i < xs.length
 ·refine .inr ⟨⟨xs,xs[i],q,by simp [hlt]⟩,Pv (i + 1),fun σ' H' p'=>⟨xs.length - (i + 1),by omega,rfl,hlt,p'⟩,λx H' y=>?_⟩
  obtain ⟨q',x',hq,e1,e2,y⟩:=y
  subst e1;subst e2
  exact hs i x' q' σ _ (y xs q) hq p
 ·have e:i=xs.length:=by omega
  subst e
  exact .inl ⟨⟨xs,q,zF _⟩,hd σ H p⟩
end
end L2
namespace Sm
open PySem L2 SmSort
def But (p:Addr) (H H':Hp):Prop:=∀ b u,b≠p->H b=some u->H' b=some u
theorem But.refl (p:Addr) (H:Hp):But p H H:=λ_ _ _ h=>h
theorem But.trans {p:Addr} {H H1 H2:Hp} (a:But p H H1) (b:But p H1 H2):But p H H2:=λc u n h=>b c u n (a c u n h)
theorem But.set {p:Addr}{H:Hp}{o:HO}:But p H (upd H p o):=λb u n h=>by rw [xH n];exact h
theorem But.new {p l:Addr}{H:Hp}{o:HO} (h:H l=none):But p H (upd H l o):=λb u n e=>by rw [xH (yz e h)];exact e
def Purse (H:Hp) (p:Addr):Prop:=∃ a b c:Int,H p=some (.lst [.int a,.int b,.int c])
def Go (p:Addr) (H H':Hp):Prop:=But p H H'/\Purse H' p
theorem Go.trans {p:Addr} {H H1 H2:Hp} (a:Go p H H1) (b:Go p H1 H2):Go p H H2:=⟨a.1.trans b.1,b.2⟩
theorem Go.refl {p:Addr}{H:Hp} (a:Purse H p):Go p H H:=⟨But.refl p H,a⟩
theorem Purse.new {p l:Addr}{H:Hp}{o:HO} (a:Purse H p) (h:H l=none):Purse (upd H l o) p:=by
 obtain ⟨x,y,z,e⟩:=a
 exact ⟨x,y,z,by rw [xH (yz e h)];exact e⟩
theorem Purse.ne {p l:Addr}{H:Hp} (a:Purse H p) (h:H l=none):l≠p:=by
 obtain ⟨x,y,z,e⟩:=a
 exact (yz e h).symm
theorem Go.new {p l:Addr} {H H1:Hp}{o:HO} (a:Go p H H1) (h:H1 l=none):Go p H (upd H1 l o):=⟨a.1.trans (But.new h),a.2.new h⟩
theorem Purse.tup {p t:Addr}{H:Hp}{xs:List V} (a:Purse H p) (h:H t=some (.tup xs)):t≠p:=by
 obtain ⟨x,y,z,e⟩:=a
 exact ne_of h e (by intro z;cases z)
def Tups (H H':Hp):Prop:=∀ b xs,H b=some (.tup xs)->H' b=some (.tup xs)
theorem Go.tups {p:Addr}{H H':Hp} (a:Go p H H') (h:Purse H p):Tups H H':=λb xs e=>a.1 b _ (h.tup e) e
theorem Tups.new {l:Addr}{H:Hp}{o:HO} (h:H l=none):Tups H (upd H l o):=λb u e=>by rw [xH (yz e h)];exact e
theorem Tups.same {H H':Hp} (h:Same H H'):Tups H H':=λb u e=>h b _ e
structure M4 where
 lo:Int
 hi:Int
 t:Int
 m:Int
def M4.vs (r:M4):List V:=[.int r.lo,.int r.hi,.int r.t,.int r.m]
def apart (a b:M4):Prop:=a.lo≠b.lo/\a.lo≠b.hi/\a.hi≠b.lo/\a.hi≠b.hi
structure Good (w:Int) (ms:List M4):Prop where
 few:ms.length<=60
 each:∀ r∈ms,0<=r.lo/\r.lo < r.hi/\r.hi < w/\1<=r.t/\r.t<=1000000000/\1<=r.m/\r.m<=99
 order:ms.Pairwise λa b=>a.t < b.t\/(a.t=b.t/\a.lo < b.lo/\apart a b)
def RowsAt (H:Hp) (ps:List (Addr×M4)):Prop:=∀ a∈ps,H a.1=some (.tup a.2.vs)
structure BookAt (H:Hp) (b:Addr) (rooms:List Int) (tr tm:Addr) (ps:List (Addr×M4)):Prop where
 book:H b=some (.tup [.ref tr,.ref tm])
 rooms:H tr=some (.tup (rooms.map V.int))
 meets:H tm=some (.tup (ps.map λa=>V.ref a.1))
 rows:RowsAt H ps
theorem RowsAt.tups {H H':Hp}{ps:List (Addr×M4)} (a:RowsAt H ps) (t:Tups H H'):RowsAt H' ps:=λx hx=>t _ _ (a x hx)
theorem BookAt.tups {H H':Hp}{b tr tm:Addr}{rooms:List Int}{ps:List (Addr×M4)} (a:BookAt H b rooms tr tm ps) (t:Tups H H'):BookAt H' b rooms tr tm ps:=
 ⟨t _ _ a.book,t _ _ a.rooms,t _ _ a.meets,a.rows.tups t⟩
def spLaw (K:PySem.W.Frag):Sp:=λvs H Q _=>∃ (a:Addr) (ns:List Int),vs=[.ref a]/\SqL K H a (ns.map V.int)/\ns.length<=63/\∀ H',Q (.bl true) H'
def spPurse (K:PySem.W.Frag):Sp:=λvs H Q _=>∃ (a:Addr) (ns:List Int) (k:Nat),vs=[.ref a,.int k]/\SqL K H a (ns.map V.int)/\k < 1000/\∀ p H',H p=none->Purse H' p->Same H H'->Q (.ref p) H'
def spTake:Sp:=λvs H Q _=>∃ p n,vs=[.ref p,.int n]/\0 < n/\n < 2 ^ 200/\Purse H p/\∀ d H',0<=d->d < n->Go p H H'->Q (.int d) H'
def spFar:Sp:=λvs H Q _=>∃ p,vs=[.ref p]/\Purse H p/\∀ d H',0<=d->d<=1000000000->Go p H H'->Q (.int d) H'
def spRooms:Sp:=λvs H Q _=>∃ p,∃ n:Nat,vs=[.ref p,.int n]/\n<=1000/\Purse H p/\∀ (t:Addr) (rooms:List Int) (H':Hp),Go p H H'->H' t=some (.tup (rooms.map V.int))->rooms.length=n->(∀ r∈rooms,(0:Int)<=r/\r<=99)->Q (.ref t) H'
def spStep:Sp:=λvs H Q _=>∃ p,vs=[.ref p]/\Purse H p/\∀ d H',0<=d->d<=16000000->Go p H H'->Q (.int d) H'
def spMeetings:Sp:=λvs H Q _=>∃ p,∃ w:Int,∃ n:Nat,vs=[.ref p,.int w,.int n]/\n<=60/\w < 1000/\(n=0\/2<=w)/\Purse H p /\
 ∀ (t:Addr) (ps:List (Addr×M4)) (H':Hp),Go p H H'->H' t=some (.tup (ps.map λa=>V.ref a.1))->RowsAt H' ps->Good w (ps.map (·.2))->ps.length=n->Q (.ref t) H'
def spBook:Sp:=λvs H Q _=>∃ p,∃ a:Int,∃ n:Nat,vs=[.ref p,.int a,.int n]/\1<=a/\a<=100/\n<=60/\Purse H p /\
 ∀ (b:Addr) (rooms:List Int) (tr tm:Addr) (ps:List (Addr×M4)) (H':Hp),Go p H H'->BookAt H' b rooms tr tm ps->1<=rooms.length->(rooms.length:Int)<=a->(∀ r∈rooms,(0:Int)<=r/\r<=99)->Good rooms.length (ps.map (·.2))->ps.length<=n->Q (.ref b) H'
theorem iteD {c A B:Prop} [Decidable c] (h1:c->A) (h2:¬ c->B):if decide c=true then A else B:=by
 by_cases h:c
 ·rw [if_pos (decide_eq_true h)];exact h1 h
 ·rw [if_neg (by simpa using h)];exact h2 h
theorem iteB0 {c:Bool}{A B:Prop} (hc:c=false) (h:B):if c=true then A else B:=by
 rw [if_neg (by rw [hc];exact zO)];exact h
theorem iteB1 {c:Bool}{A B:Prop} (hc:c=true) (h:A):if c=true then A else B:=by
 rw [if_pos hc];exact h
theorem iteB {c:Bool}{A B:Prop} (h1:c=true->A) (h2:c=false->B):if c=true then A else B:=by
 cases c with
 | true=>exact h1 rfl
 | false=>exact h2 rfl
theorem yy {H:Hp}{p:Addr}{o:HO} (h:H p=none):Same H (upd H p o):=λb u e=>by
 rw [xH (yz e h)];exact e
def M4.row (r:M4):List Int:=[r.t,r.lo,r.hi,r.m]
structure FOk (w when':Int) (bs:List Int) (fs:List (Addr×M4)):Prop where
 each:∀ a∈fs,0<=a.2.lo/\a.2.lo < a.2.hi/\a.2.hi < w/\1<=a.2.t/\a.2.t<=when'/\1<=a.2.m/\a.2.m<=99
 pw:fs.Pairwise λa b=>a.2.t=b.2.t->apart a.2 b.2
 bz:∀ a∈fs,a.2.t=when'->a.2.lo∈bs/\a.2.hi∈bs
theorem FOk.step {w wh gap one other m:Int}{bs bs':List Int}{fs:List (Addr×M4)}{a:Addr} (F:FOk w wh bs fs) (h1:1<=wh) (g0:0<=gap) (o0:0<=one) (o1:one < w) (p0:0<=other) (p1:other < w) (ne:one≠other)
  (m0:1<=m) (m1:m<=99) (hg:gap=0->one ∉ bs/\other ∉ bs) (hb:∀ x∈bs,gap=0->x∈bs') (hb1:one∈bs') (hb2:other∈bs') :
  FOk w (wh + gap) bs' (fs++[(a,⟨if other < one then other else one,if other > one then other else one,wh + gap,m⟩)]):=by
 refine ⟨λb hb=>?_,?_,λb hm e=>?_⟩
 ·rcases zX.mp hb with h | h
  ·obtain ⟨a1,a2,a3,a4,a5,a6,a7⟩:=F.each b h
   exact ⟨a1,a2,a3,a4,by omega,a6,a7⟩
  ·cases zM.mp h
   by_cases c:other < one
   ·rw [if_pos c,if_neg (by omega)];exact ⟨p0,c,o1,by show 1<=wh + gap;omega,Int.le_refl _,m0,m1⟩
   ·rw [if_neg c,if_pos (by omega)];exact ⟨o0,by show one < other;omega,p1,by show 1<=wh + gap;omega,Int.le_refl _,m0,m1⟩
 ·rw [List.pairwise_append]
  refine ⟨F.pw,List.pairwise_singleton _ _,λb hb c hc e=>?_⟩
  cases zM.mp hc
  have e':b.2.t=wh + gap:=e
  obtain ⟨a1,a2,a3,a4,a5,a6,a7⟩:=F.each b hb
  have g:gap=0:=by omega
  obtain ⟨x1,x2⟩:=F.bz b hb (by omega)
  obtain ⟨n1,n2⟩:=hg g
  have q1:b.2.lo≠one:=λz=>n1 (z ▸ x1)
  have q2:b.2.lo≠other:=λz=>n2 (z ▸ x1)
  have q3:b.2.hi≠one:=λz=>n1 (z ▸ x2)
  have q4:b.2.hi≠other:=λz=>n2 (z ▸ x2)
  unfold apart
  dsimp only
  by_cases c:other < one
  ·rw [if_pos c,if_neg (by omega)];exact ⟨q2,q1,q4,q3⟩
  ·rw [if_neg c,if_pos (by omega)];exact ⟨q1,q2,q3,q4⟩
 ·rcases zX.mp hm with h | h
  ·obtain ⟨a1,a2,a3,a4,a5,a6,a7⟩:=F.each b h
   obtain ⟨x1,x2⟩:=F.bz b h (by omega)
   exact ⟨hb _ x1 (by omega),hb _ x2 (by omega)⟩
  ·cases zM.mp h
   by_cases c:other < one
   ·rw [if_pos c,if_neg (by omega)];exact ⟨hb2,hb1⟩
   ·rw [if_neg c,if_pos (by omega)];exact ⟨hb1,hb2⟩
def M4.late (l:Int) (r:M4):M4:=⟨r.lo,r.hi,r.t + l,r.m⟩
theorem FOk.good {w wh l:Int}{bs:List Int}{fs qs:List (Addr×M4)} (F:FOk w wh bs fs) (n:fs.length<=60) (l0:0<=l) (l1:fs≠[]->wh + l<=1000000000) (p:qs.Perm fs) (s:qs.Pairwise λa b=>lx b.2.row a.2.row=false) :
  Good w (qs.map λa=>a.2.late l):=by
 refine ⟨by rw [zA,p.length_eq];exact n,λr hr=>?_,?_⟩
 ·obtain ⟨a,ha,rfl⟩:=zp.mp hr
  have hm:=p.mem_iff.mp ha
  obtain ⟨a1,a2,a3,a4,a5,a6,a7⟩:=F.each a hm
  have:=l1 (List.ne_nil_of_mem hm)
  unfold M4.late
  exact ⟨a1,a2,a3,by show 1<=a.2.t + l;omega,by show a.2.t + l<=1000000000;omega,a6,a7⟩
 ·rw [List.pairwise_map]
  have ap:qs.Pairwise λa b=>a.2.t=b.2.t->apart a.2 b.2:=(List.Perm.pairwise_iff (λ{x y} h e=>by
   obtain ⟨a1,a2,a3,a4⟩:=h e.symm
   exact ⟨a1.symm,a3.symm,a2.symm,a4.symm⟩) p).mpr F.pw
  refine (s.and ap).imp λ{a b} ⟨h1,h2⟩=>?_
  unfold M4.late
  dsimp only
  unfold M4.row lx at h1
  by_cases e:a.2.t=b.2.t
  ·have q:=h2 e
   rw [if_pos e.symm] at h1
   unfold lx at h1
   rw [if_neg λz=>q.1 z.symm] at h1
   simp only [decide_eq_false_iff_not] at h1
   refine .inr ⟨by omega,?_,q⟩
   have:=q.1
   omega
  ·rw [if_neg λz=>e z.symm] at h1
   simp only [decide_eq_false_iff_not] at h1
   exact .inl (by omega)
def toM4 (r:List Int):M4:=⟨r.getD 1 0,r.getD 2 0,r.getD 0 0,r.getD 3 0⟩
theorem rows_back {fs:List (Addr×M4)}{qs:List (Addr×List Int)} (p:qs.Perm (fs.map λa=>(a.1,a.2.row))) (s:qs.Pairwise λa b=>lx b.2 a.2=false) :
  ∃ rs:List (Addr×M4),rs.Perm fs/\(rs.Pairwise λa b=>lx b.2.row a.2.row=false)/\qs=rs.map λa=>(a.1,a.2.row):=by
 have e:qs=(qs.map λa=>(a.1,toM4 a.2)).map λa=>(a.1,a.2.row):=by
  rw [yl]
  refine (List.map_id qs).symm.trans (List.map_congr_left λx hx=>?_)
  obtain ⟨a,_,rfl⟩:=zp.mp (p.mem_iff.mp hx)
  rfl
 refine ⟨qs.map λa=>(a.1,toM4 a.2),?_,?_,e⟩
 ·have:=p.map λa=>(a.1,toM4 a.2)
  rw [yl] at this
  refine this.trans (.of_eq ?_)
  refine (List.map_congr_left λx _=>?_).trans (List.map_id fs)
  rfl
 ·rw [e,List.pairwise_map] at s
  exact s
theorem flat_ints (bs:List Int):(bs.map V.int).all flatV=true:=by
 rw [zg]
 intro x hx
 obtain ⟨b,_,rfl⟩:=zp.mp hx
 rfl
theorem inV_ints {x:Int}{bs:List Int}:inV (.int x) (bs.map V.int)=decide (x∈bs):=by
 unfold inV
 induction bs with
 | nil=>rfl
 | cons b bs ih=>
  rw [zt,List.any_cons,ih]
  by_cases h:x=b
  ·subst h;simp [eqV]
  ·have h':¬ b=x:=λz=>h z.symm
   simp [eqV,h,h']
def PvM (p lf:Addr) (w:Int) (n:Nat) (H:Hp) (i:Nat) (σ:St) (H3:Hp):Prop:=
 ∃ v6 v7 v8 v9 v10 wh lb bs,∃ fs:List (Addr×M4),σ=[some (.ref p),some (.int w),some (.int n),some (.ref lf),some (.int wh),some (.ref lb),v6,v7,v8,v9,v10,none] /\
  H3 lf=some (.lst (fs.map λa=>V.ref a.1))/\H3 lb=some (.lst (List.map V.int bs))/\lb≠lf/\lb≠p/\(∀ a∈fs,H3 a.1=some (.tup (a.2.row.map V.int)))/\FOk w wh bs fs/\fs.length=i/\bs.length<=2 * i/\1<=wh/\wh<=10000000 + 16000000 * i/\Go p H H3
theorem PvM.step {p lf lb t:Addr}{w wh gap one other m:Int}{n i:Nat}{H Hx:Hp}{bs bs':List Int}{fs:List (Addr×M4)} {v6 v7 v8 v9 v10:Option V} (npf:lf≠p) (hlf:H lf=none)
  (F:FOk w wh bs fs) (lenf:fs.length=i) (lenb:bs'.length<=2 * i + 2) (wh1:1<=wh) (wh2:wh<=10000000 + 16000000 * i) (hf:Hx lf=some (.lst (fs.map λa=>V.ref a.1))) (hb:Hx lb=some (.lst (List.map V.int bs'))) (nb:lb≠lf) (nbp:lb≠p)
  (rows:∀ a∈fs,Hx a.1=some (.tup (a.2.row.map V.int))) (go:Go p H Hx) (ht:Hx t=none)
  (g0:0<=gap) (g1:gap<=16000000) (o0:0<=one) (o1:one < w) (p0:0<=other) (p1:other < w) (ne:one≠other) (m0:1<=m) (m1:m<=99) (hg:gap=0->one ∉ bs/\other ∉ bs) (hb0:∀ x∈bs,gap=0->x∈bs') (hb1:one∈bs') (hb2:other∈bs') :
  PvM p lf w n H (i + 1) [some (.ref p),some (.int w),some (.int n),some (.ref lf),some (.int (wh + gap)),some (.ref lb),v6,v7,v8,v9,v10,none]
   (upd (upd Hx t (.tup [.int (wh + gap),.int (if other < one then other else one),.int (if other > one then other else one),.int m])) lf (.lst ((fs.map λa=>V.ref a.1)++[.ref t]))):=by
 have ntf:t≠lf:=(yz hf ht).symm
 refine ⟨v6,v7,v8,v9,v10,wh + gap,lb,bs',fs++[(t,⟨if other < one then other else one,if other > one then other else one,wh + gap,m⟩)],rfl,by rw [yx,zC];rfl,?_,nb,nbp,λa ha=>?_,F.step wh1 g0 o0 o1 p0 p1 ne m0 m1 hg hb0 hb1 hb2,by rw [zK,lenf];rfl,by omega,by omega,by omega,λb u nb e=>?_,?_⟩
 ·rw [xH nb,xH (yz hb ht)];exact hb
 ·rcases zX.mp ha with h | h
  ·have:=rows a h
   rw [xH (ne_of this hf (by intro z;cases z)),xH (yz this ht)];exact this
  ·cases zM.mp h
   rw [xH ntf,yx];rfl
 ·rw [xH (yz e hlf),xH (yz (go.1 b u nb e) ht)];exact go.1 b u nb e
 ·have:=go.2.new (o:=.tup [.int (wh + gap),.int (if other < one then other else one),.int (if other > one then other else one),.int m]) ht
  obtain ⟨x,y,z,e⟩:=this
  exact ⟨x,y,z,by rw [xH npf.symm];exact e⟩
theorem oth_ok {one x w:Int} (o0:0<=one) (o1:one < w) (x0:0<=x) (x1:x < w - 1):0<=(one + 1 + x) % w/\(one + 1 + x) % w < w/\one≠(one + 1 + x) % w:=by
 refine ⟨yh _ (by omega),yb _ (by omega),?_⟩
 by_cases h:one + 1 + x < w
 ·rw [Int.emod_eq_of_lt (by omega) h];omega
 ·have e:(one + 1 + x) % w=(one + 1 + x - w) % w:=by
   have:one + 1 + x=(one + 1 + x - w) + w:=by omega
   rw [this,Int.add_emod_right];congr 1;omega
  rw [e,Int.emod_eq_of_lt (by omega) (by omega)];omega
theorem Go.same {p:Addr} {H H1 H2:Hp} (a:Go p H H1) (s:Same H1 H2):Go p H H2:=⟨λb u n e=>s b u (a.1 b u n e),by obtain ⟨x,y,z,e⟩:=a.2;exact ⟨x,y,z,s _ _ e⟩⟩
theorem xR {α:Type}{f:α->V}{l:List α}{i:Nat}{x:V} (h:(l.map f)[i]?=some x):∃ r,l[i]?=some r/\x=f r:=by
 rw [zJ] at h
 cases e:l[i]? with
 | none=>rw [e] at h;cases h
 | some r=>rw [e] at h;exact ⟨r,rfl,(Option.some.inj h).symm⟩
theorem xX {α:Type}{l:List α}{i:Nat}{r:α} (h:l[i]?=some r):l.take (i + 1)=l.take i++[r]:=by
 rw [List.take_add_one,h];rfl
theorem SqL.but {K:PySem.W.Frag}{p a:Addr}{H H':Hp}{xs:List V} (h:SqL K H a xs) (hp:H p=none) (s:But p H H'):SqL K H' a xs:=by
 rcases h with (h | ⟨o,h⟩) | h
 ·exact .inl (.inl (s _ _ (yz h hp) h))
 ·exact .inl (.inr ⟨o,s _ _ (yz h hp) h⟩)
 ·exact .inr h
theorem Same.put {l:Addr}{H H':Hp}{o:HO} (h:H l=none) (s:Same H H'):Same H (upd H' l o):=λb u e=>by rw [xH (yz e h)];exact s b u e
theorem BookAt.same {H H':Hp}{b tr tm:Addr}{rooms:List Int}{ps:List (Addr×M4)} (a:BookAt H b rooms tr tm ps) (t:Same H H'):BookAt H' b rooms tr tm ps:=a.tups (Tups.same t)
theorem wE {H:Hp}{l:Addr}{xs:List V} (h:H l=some (.lst xs)):tyS H (.ref l)=some "list" := by simp only [tyS,h]
def spWhole:Sp:=λvs H Q _=>∃ x t,vs=[x]/\tyS H x=some t/\Q (.bl (t == "int")) H
def inB (lo hi:Int):V->Bool
 | .int i=>decide (lo<=i) && decide (i<=hi)
 | _=>false
def spWithin:Sp:=λvs H Q _=>∃ x t lo hi,vs=[x,.int lo,.int hi]/\tyS H x=some t/\Q (.bl (inB lo hi x)) H
theorem tyS_int {H:Hp}{x:V} (h:tyS H x=some "int"):∃ i,x=.int i:=by
 cases x with
 | int i=>exact ⟨i,rfl⟩
 | ref a=>
  unfold tyS at h
  dsimp only at h
  split at h <;> simp at h
 | _=>simp [tyS] at h
theorem inB_no {H:Hp}{x:V}{t:String}{lo hi:Int} (h:tyS H x=some t) (n:¬ t = "int"):inB lo hi x=false:=by
 cases x with
 | int i=>simp [tyS] at h;exact absurd h.symm n
 | _=>rfl
def hasW (w:Int) (r:M4):Bool:=decide (r.lo=w) || decide (r.hi=w)
def numsTo (ms:List M4) (w:Int):Nat->List Int
 | 0=>[]
 | i + 1=>numsTo ms w i++(if (ms[i]?).any (hasW w)=true then [(i:Int)] else [])
def cnt (ms:List M4) (t:Int):Nat:=(ms.filter λr=>decide (r.t<=t)).length
theorem cnt_snoc {ms:List M4}{t:Int}{i:Nat}{r:M4} (h:ms[i]?=some r):cnt (ms.take (i + 1)) t=cnt (ms.take i) t + (if r.t<=t then 1 else 0):=by
 unfold cnt
 rw [xX h,zZ,zK]
 congr 1
 by_cases c:r.t<=t <;> simp [c]
def spByTime:Sp:=λvs H Q _=>∃ b t rooms tr tm ps,vs=[.ref b,.int t]/\BookAt H b rooms tr tm ps/\ps.length<=1000/\∀ H',Same H H'->Q (.int (cnt (ps.map (·.2)) t)) H'
end Sm
namespace Sm
open PySem L2 SmSort
def spTimeOf:Sp:=λvs H Q _=>∃ p b j rooms tr tm ps,vs=[.ref p,.ref b,.int j]/\(j=0\/j=1)/\BookAt H b rooms tr tm ps/\Good rooms.length (ps.map (·.2))/\Purse H p/\∀ d H',0<=d->d<=1000000000->Go p H H'->Q (.int d) H'
theorem Good.len {w:Int}{ps:List (Addr×M4)} (g:Good w (ps.map (·.2))):ps.length<=60:=by simpa using g.few
theorem Good.at {w:Int}{ps:List (Addr×M4)} (g:Good w (ps.map (·.2))) {r:Addr×M4} (h:r∈ps):0<=r.2.lo/\r.2.lo < r.2.hi/\r.2.hi < w/\1<=r.2.t/\r.2.t<=1000000000/\1<=r.2.m/\r.2.m<=99:=g.each _ (zp.mpr ⟨r,h,rfl⟩)
end Sm
namespace L2
open PySem PySem.Spec PyProof.Rows
end L2
namespace SmSet
open PySem
theorem below_go {xs:Array Nat}{j:Nat} (so:xs.toList.Pairwise (· < ·)):∀ (fuel lo hi:Nat),hi - lo<=fuel->lo<=hi->hi<=xs.size->(∀ i (h:i < xs.size),i < lo->xs[i] < j)->(∀ i (h:i < xs.size),hi<=i->j<=xs[i]) ->
  SetTable.below.go xs j fuel lo hi<=xs.size/\(∀ i (h:i < xs.size),i < SetTable.below.go xs j fuel lo hi->xs[i] < j)/\∀ i (h:i < xs.size),SetTable.below.go xs j fuel lo hi<=i->j<=xs[i]
 | 0,lo,hi,hf,h1,h2,hl,hh=>by
  have:lo=hi:=by omega
  subst this
  unfold SetTable.below.go
  exact ⟨h2,hl,hh⟩
 | fuel + 1,lo,hi,hf,h1,h2,hl,hh=>by
  unfold SetTable.below.go
  have mono:∀ a b (ha:a < xs.size) (hb:b < xs.size),a < b->xs[a] < xs[b]:=λa b ha hb ab=>by
   have:=List.pairwise_iff_getElem.mp so a b (by simpa using ha) (by simpa using hb) ab
   simpa using this
  by_cases c:lo < hi
  ·rw [if_pos c]
   dsimp only
   have hm:(lo + hi) / 2 < xs.size:=by omega
   have e:xs.getD ((lo + hi) / 2) j=xs[(lo + hi) / 2]:=by simp [Array.getD,hm]
   rw [e]
   by_cases d:xs[(lo + hi) / 2] < j
   ·rw [if_pos d]
    refine below_go so fuel _ _ (by omega) (by omega) h2 (λi h hi'=>?_) hh
    by_cases q:i=(lo + hi) / 2
    ·subst q;exact d
    ·exact Nat.lt_trans (mono i ((lo + hi) / 2) h hm (by omega)) d
   ·rw [if_neg d]
    refine below_go so fuel _ _ (by omega) (by omega) (by omega) hl (λi h hi'=>?_)
    by_cases q:i=(lo + hi) / 2
    ·subst q;omega
    ·have:=mono ((lo + hi) / 2) i hm h (by omega)
     omega
  ·rw [if_neg c]
   have:lo=hi:=by omega
   subst this
   exact ⟨h2,hl,hh⟩
theorem below_spec {xs:Array Nat}{j:Nat} (so:xs.toList.Pairwise (· < ·)):SetTable.below xs j<=xs.size/\(∀ i (h:i < xs.size),i < SetTable.below xs j->xs[i] < j)/\∀ i (h:i < xs.size),SetTable.below xs j<=i->j<=xs[i]:=
 below_go so _ _ _ (by omega) (by omega) (zF _) (λ_ _ h=>absurd h (z0 _)) (λi h hi=>absurd h (by omega))
theorem below_at {xs:Array Nat}{j i:Nat} (so:xs.toList.Pairwise (· < ·)) (h:xs[i]?=some j):SetTable.below xs j=i:=by
 obtain ⟨hi,e⟩:=Array.getElem?_eq_some_iff.mp h
 obtain ⟨b1,b2,b3⟩:=below_spec (j:=j) so
 rcases Nat.lt_trichotomy (SetTable.below xs j) i with c | c | c
 ·have hb:SetTable.below xs j < xs.size:=by omega
  have:=b3 _ hb (zF _)
  have m:=List.pairwise_iff_getElem.mp so (SetTable.below xs j) i (by simpa using hb) (by simpa using hi) c
  simp only [Array.getElem_toList] at m
  omega
 ·exact c
 ·have:=b2 i hi c
  omega
theorem slot_live {t:SetTable}{j i:Nat} (so:t.place.toList.Pairwise (· < ·)) (h:t.place[i]?=some j):t.slot j=.live i:=by
 unfold SetTable.slot
 dsimp only
 rw [below_at so h,h]
 simp
theorem slot_empty {t:SetTable}{j:Nat} (nd:t.dummies=#[]) (h:j ∉ t.place.toList):t.slot j=.empty:=by
 unfold SetTable.slot
 dsimp only
 rw [if_neg,if_neg]
 ·rw [nd]
  unfold SetTable.has
  simp
 ·intro c
  have:t.place[SetTable.below t.place j]?=some j:=by simpa using c
  exact h (by simpa using Array.mem_of_getElem? this)
def adv (m:Nat) (p:SetTable.Probe):SetTable.Probe:=
 if p.more > 0 then { p with j:=p.j + 1,more:=p.more - 1 } else
 { p with j:=(SetTable.leap m p.i p.perturb).1,more:=SetTable.runEnd m (SetTable.leap m p.i p.perturb).1 - (SetTable.leap m p.i p.perturb).1,i:=(SetTable.leap m p.i p.perturb).1,perturb:=(SetTable.leap m p.i p.perturb).2 }
theorem advance_eq (t:SetTable) (p:SetTable.Probe):t.advance p=adv t.mask p:=rfl
def run (m i u:Nat):SetTable.Probe:={ j:=i,more:=SetTable.runEnd m i - i,i,perturb:=u,dummy:=none }
def start (m:Nat) (h:Int):SetTable.Probe:=run m (SetTable.bits h % (m + 1)) (SetTable.bits h)
def ad (m:Nat):Nat->SetTable.Probe->SetTable.Probe
 | 0,p=>p
 | n + 1,p=>ad m n (adv m p)
theorem ad_succ (m n:Nat) (p:SetTable.Probe):ad m (n + 1) p=adv m (ad m n p):=by
 induction n generalizing p with
 | zero=>rfl
 | succ n ih=>exact ih (adv m p)
theorem ad_add (m a b:Nat) (p:SetTable.Probe):ad m (a + b) p=ad m b (ad m a p):=by
 induction a generalizing p with
 | zero=>rw [Nat.zero_add];rfl
 | succ a ih=>rw [Nat.succ_add];exact ih (adv m p)
theorem adv_dummy {m:Nat}{p:SetTable.Probe}:(adv m p).dummy=p.dummy:=by unfold adv;split <;> rfl
theorem ad_dummy {m:Nat}:∀ {n:Nat}{p:SetTable.Probe},(ad m n p).dummy=p.dummy
 | 0,_=>rfl
 | n + 1,p=>(ad_dummy (n:=n)).trans adv_dummy
def at' (m:Nat) (h:Int) (n:Nat):Nat:=(ad m n (start m h)).j
theorem ad_in_run {m i u:Nat}:∀ k,k<=SetTable.runEnd m i - i->ad m k (run m i u)={ j:=i + k,more:=SetTable.runEnd m i - i - k,i,perturb:=u,dummy:=none }
 | 0,_=>rfl
 | k + 1,h=>by
  rw [ad_succ,ad_in_run k (by omega)]
  unfold adv
  dsimp only
  rw [if_pos (by omega)]
  rfl
theorem ad_next_run {m i u:Nat}:ad m (SetTable.runEnd m i - i + 1) (run m i u)=run m ((i * 5 + 1 + u / 32) % (m + 1)) (u / 32):=by
 rw [ad_succ,ad_in_run _ (zF _)]
 unfold adv
 dsimp only
 rw [if_neg (by omega)]
 rfl
theorem runEnd_le {m i:Nat}:SetTable.runEnd m i - i<=9/\i<=SetTable.runEnd m i/\(i<=m->SetTable.runEnd m i<=m):=by
 unfold SetTable.runEnd
 split <;> omega
def runs (m:Nat):Nat->Nat->Nat->Nat×Nat
 | 0,i,u=>(i,u)
 | r + 1,i,u=>runs m r ((i * 5 + 1 + u / 32) % (m + 1)) (u / 32)
theorem runs_at {m:Nat}:∀ (r i u:Nat),∃ c,c<=10 * r/\ad m c (run m i u)=run m (runs m r i u).1 (runs m r i u).2
 | 0,i,u=>⟨0,zF _,rfl⟩
 | r + 1,i,u=>by
  obtain ⟨c,hc,e⟩:=runs_at r ((i * 5 + 1 + u / 32) % (m + 1)) (u / 32)
  refine ⟨SetTable.runEnd m i - i + 1 + c,?_,?_⟩
  ·have:=(runEnd_le (m:=m) (i:=i)).1;omega
  ·rw [ad_add,ad_next_run,e];rfl
theorem runs_add {m:Nat}:∀ (a b i u:Nat),runs m (a + b) i u=runs m b (runs m a i u).1 (runs m a i u).2
 | 0,b,i,u=>by rw [Nat.zero_add];rfl
 | a + 1,b,i,u=>by rw [Nat.succ_add];exact runs_add a b _ _
theorem runs_perturb {m:Nat}:∀ (r i u:Nat),(runs m r i u).2=u / 32 ^ r
 | 0,i,u=>by simp [runs]
 | r + 1,i,u=>by
  show (runs m r _ (u / 32)).2=_
  rw [runs_perturb r,Nat.div_div_eq_div_mul,Nat.pow_succ,Nat.mul_comm]
theorem runs_small {m:Nat}:∀ (r i u:Nat),i<=m->(runs m r i u).1<=m
 | 0,i,u,h=>h
 | r + 1,i,u,h=>runs_small r _ _ (yT.mp (Nat.mod_lt _ (by omega)))
def f5 (m:Nat):Nat->Nat->Nat
 | 0,i=>i
 | s + 1,i=>f5 m s ((i * 5 + 1) % (m + 1))
theorem runs_f5 {m:Nat}:∀ (s i:Nat),(runs m s i 0).1=f5 m s i
 | 0,i=>rfl
 | s + 1,i=>by
  show (runs m s ((i * 5 + 1 + 0 / 32) % (m + 1)) (0 / 32)).1=f5 m s ((i * 5 + 1) % (m + 1))
  rw [Nat.zero_div,Nat.add_zero]
  exact runs_f5 s _
theorem f5_add {m:Nat}:∀ (a b i:Nat),f5 m (a + b) i=f5 m b (f5 m a i)
 | 0,b,i=>by rw [Nat.zero_add];rfl
 | a + 1,b,i=>by rw [Nat.succ_add];exact f5_add a b _
def bitsOf (m:Nat):Nat->Nat->Nat->Nat
 | 0,_,acc=>acc
 | s + 1,i,acc=>bitsOf m s ((i * 5 + 1) % (m + 1)) (acc ||| (2 ^ i))
theorem bitsOf_spec {m j:Nat}:∀ (s i acc:Nat),(bitsOf m s i acc).testBit j=true->acc.testBit j=true\/∃ a,a < s/\f5 m a i=j
 | 0,i,acc,h=>.inl h
 | s + 1,i,acc,h=>by
  rcases bitsOf_spec s _ _ h with h | ⟨a,ha,e⟩
  ·rw [Nat.testBit_or,Bool.or_eq_true] at h
   rcases h with h | h
   ·exact .inl h
   ·rw [Nat.testBit_two_pow] at h
    exact .inr ⟨0,by omega,of_decide_eq_true h⟩
  ·exact .inr ⟨a + 1,by omega,e⟩
def Mask (m:Nat):Prop:=m=7\/m=31\/m=127\/m=511\/m=2047\/m=8191
theorem cover0 {m:Nat} (hm:Mask m):f5 m (m + 1) 0=0/\∀ j,j<=m->∃ a,a<=m/\f5 m a 0=j:=by
 have key:f5 m (m + 1) 0=0/\bitsOf m (m + 1) 0 0=2 ^ (m + 1) - 1:=by
  rcases hm with rfl | rfl | rfl | rfl | rfl | rfl <;> constructor <;> decide +kernel
 refine ⟨key.1,λj hj=>?_⟩
 have:(bitsOf m (m + 1) 0 0).testBit j=true:=by
  rw [key.2,Nat.testBit_two_pow_sub_one]
  exact decide_eq_true (by omega)
 rcases bitsOf_spec _ _ _ this with h | ⟨a,ha,e⟩
 ·simp at h
 ·exact ⟨a,by omega,e⟩
theorem cover {m i j:Nat} (hm:Mask m) (hi:i<=m) (hj:j<=m):∃ s,s<=m/\f5 m s i=j:=by
 obtain ⟨z,all⟩:=cover0 hm
 obtain ⟨a,ha,rfl⟩:=all i hi
 obtain ⟨b,hb,rfl⟩:=all j hj
 by_cases c:a<=b
 ·exact ⟨b - a,by omega,by rw [<-f5_add];congr 1;omega⟩
 ·refine ⟨b + (m + 1) - a,by omega,?_⟩
  rw [<-f5_add,show a + (b + (m + 1) - a)=(m + 1) + b from by omega,f5_add,z]
theorem reach {m i u j:Nat} (hm:Mask m) (hi:i<=m) (hu:u < 2 ^ 64) (hj:j<=m):∃ r,r<=m + 13/\(runs m r i u).1=j:=by
 have p0:(runs m 13 i u).2=0:=by
  rw [runs_perturb]
  exact Nat.div_eq_of_lt (zY hu (by decide))
 obtain ⟨s,hs,e⟩:=cover hm (runs_small 13 i u hi) hj
 refine ⟨13 + s,by omega,?_⟩
 rw [runs_add,p0,runs_f5,e]
theorem bits_lt (h:Int):SetTable.bits h < 2 ^ 64:=by
 unfold SetTable.bits
 have a:=yh h (show (2 ^ 64:Int)≠0 by decide)
 have b:=yb h (show (0:Int) < 2 ^ 64 by decide)
 have c:((h % 2 ^ 64).toNat:Int)=h % 2 ^ 64:=Int.toNat_of_nonneg a
 have d:((2 ^ 64:Nat):Int)=(2:Int) ^ 64:=by decide
 omega
theorem reach_at {m j:Nat}{h:Int} (hm:Mask m) (hj:j<=m):∃ n,n<=10 * (m + 13)/\at' m h n=j:=by
 obtain ⟨r,hr,e⟩:=reach (u:=SetTable.bits h) hm (yT.mp (Nat.mod_lt (SetTable.bits h) (show 0 < m + 1 by omega))) (bits_lt h) hj
 obtain ⟨c,hc,e2⟩:=runs_at (m:=m) r (SetTable.bits h % (m + 1)) (SetTable.bits h)
 refine ⟨c,by omega,?_⟩
 unfold at' start
 rw [e2,e];rfl
theorem least {P:Nat->Prop}:∀ n,P n->∃ k,k<=n/\P k/\∀ i,i < k->¬ P i:=by
 intro n
 induction n using Nat.strongRecOn with
 | _ n ih=>
  intro h
  by_cases c:∃ i,i < n/\P i
  ·obtain ⟨i,hi,pi⟩:=c
   obtain ⟨k,hk,pk,al⟩:=ih i hi pi
   exact ⟨k,by omega,pk,al⟩
  ·exact ⟨n,zF _,h,λi hi pi=>c ⟨i,hi,pi⟩⟩
theorem first_free {m:Nat}{O:Nat->Prop} (h:Int) (hm:Mask m) (he:∃ j,j<=m/\¬ O j):∃ N,N<=10 * (m + 13)/\¬ O (at' m h N)/\∀ n,n < N->O (at' m h n):=by
 obtain ⟨j,hj,no⟩:=he
 obtain ⟨n,hn,e⟩:=reach_at (h:=h) hm hj
 obtain ⟨k,hk,pk,al⟩:=least (P:=λn=>¬ O (at' m h n)) n (by rw [e];exact no)
 exact ⟨k,by omega,pk,λi hi=>Classical.byContradiction λc=>al i hi c⟩
theorem at_le {m:Nat}{h:Int}:∀ n,at' m h n<=m:=by
 have key:∀ n,(ad m n (start m h)).j + (ad m n (start m h)).more<=m:=by
  have step:∀ p:SetTable.Probe,p.j + p.more<=m->(adv m p).j + (adv m p).more<=m:=λp hp=>by
   unfold adv
   split
   ·dsimp only;omega
   ·dsimp only
    have l:(SetTable.leap m p.i p.perturb).1<=m:=yT.mp (Nat.mod_lt _ (by omega))
    have:=runEnd_le (m:=m) (i:=(SetTable.leap m p.i p.perturb).1)
    have:=this.2.2 l
    omega
  intro n
  induction n with
  | zero=>
   show SetTable.bits h % (m + 1) + (SetTable.runEnd m (SetTable.bits h % (m + 1)) - SetTable.bits h % (m + 1))<=m
   have l:SetTable.bits h % (m + 1)<=m:=yT.mp (Nat.mod_lt _ (by omega))
   have:=runEnd_le (m:=m) (i:=SetTable.bits h % (m + 1))
   have:=this.2.2 l
   omega
  | succ n ih=>rw [ad_succ];exact step _ ih
 intro n
 have:=key n
 unfold at'
 omega
end SmSet
namespace SmSet
open PySem
structure Tab (t:SetTable) (es:Array (Int×Value)):Prop where
 mask:Mask t.mask
 nd:t.dummies=#[]
 so:t.place.toList.Pairwise (· < ·)
 sz:t.place.size=es.size
 small:∀ j∈t.place.toList,j<=t.mask
 light:es.size * 5 < t.mask * 3
 way:∀ i (h:i < es.size),∃ n,t.place[i]?=some (at' t.mask es[i].1 n)/\∀ n',n' < n->at' t.mask es[i].1 n'∈t.place.toList
theorem Tab.room {t:SetTable}{es:Array (Int×Value)} (T:Tab t es):es.size<=t.mask:=by have:=T.light;omega
theorem Tab.fits {t:SetTable}{es:Array (Int×Value)} (T:Tab t es):t.fits es.size=true:=by
 unfold SetTable.fits SetTable.fill
 have:=T.room
 rw [T.sz,T.nd]
 simp
 exact this
theorem Tab.odd {t:SetTable}{es:Array (Int×Value)} (T:Tab t es):t.gaveWay=false:=by
 unfold SetTable.gaveWay
 rcases T.mask with h | h | h | h | h | h <;> rw [h] <;> rfl
theorem as_long:∀ (n:Nat) (l:List Nat),(∀ j,j < n->j∈l)->n<=l.length
 | 0,_,_=>za _
 | n + 1,l,h=>by
  have:=as_long n (l.erase n) λj hj=>(List.mem_erase_of_ne (by omega)).mpr (h j (by omega))
  rw [List.length_erase_of_mem (h n (by omega))] at this
  have:=List.length_pos_of_mem (h n (by omega))
  omega
theorem left_out {l:List Nat}{m:Nat} (h:l.length<=m):∃ j,j<=m/\j ∉ l:=by
 refine Classical.byContradiction λc=>?_
 have:=as_long (m + 1) l λj hj=>Classical.byContradiction λz=>c ⟨j,by omega,z⟩
 omega
theorem Tab.left {t:SetTable}{es:Array (Int×Value)} (T:Tab t es):∃ j,j<=t.mask/\¬ j∈t.place.toList:=by
 have:=left_out (l:=t.place.toList) (m:=t.mask) (by rw [Array.length_toList,T.sz];exact T.room)
 exact this
theorem Tab.first {t:SetTable}{es:Array (Int×Value)} (T:Tab t es) (h:Int):∃ N,N<=10 * (t.mask + 13)/\¬ at' t.mask h N∈t.place.toList/\∀ n,n < N->at' t.mask h n∈t.place.toList:=first_free h T.mask T.left
theorem at_index {t:SetTable}{j:Nat} (h:j∈t.place.toList):∃ i:Nat,t.place[i]?=some j:=by
 obtain ⟨i,hi,e⟩:=List.getElem_of_mem h
 exact ⟨i,by rw [<-Array.getElem?_toList,zG hi,e]⟩
theorem probe_go {t:SetTable}{es:Array (Int×Value)} (T:Tab t es) {hashAt:Nat->Int}{h:Int}{N:Nat} (hN:¬ at' t.mask h N∈t.place.toList) (hall:∀ n,n < N->at' t.mask h n∈t.place.toList) :
  ∀ (d k fuel:Nat),N - k=d->k<=N->d < fuel ->
   (∃ n i,k<=n/\n < N/\t.place[i]?=some (at' t.mask h n)/\hashAt i=h/\(∀ n',k<=n'->n' < n->∀ i',t.place[i']?=some (at' t.mask h n')->hashAt i'≠h)/\SetTable.probe.go t hashAt h fuel (ad t.mask k (start t.mask h))=some (.candidate (at' t.mask h n) i (ad t.mask (n + 1) (start t.mask h)))) \/
   ((∀ n',k<=n'->n' < N->∀ i',t.place[i']?=some (at' t.mask h n')->hashAt i'≠h)/\SetTable.probe.go t hashAt h fuel (ad t.mask k (start t.mask h))=some (.empty (at' t.mask h N) none))
 | d,k,0,e,hk,hf=>absurd hf (z0 _)
 | 0,k,fuel + 1,e,hk,hf=>by
  have:k=N:=by omega
  subst this
  refine .inr ⟨λn' h1 h2=>absurd h1 (by omega),?_⟩
  unfold SetTable.probe.go
  rw [show (ad t.mask k (start t.mask h)).j=at' t.mask h k from rfl,slot_empty T.nd hN]
  dsimp only
  rw [ad_dummy]
  rfl
 | d + 1,k,fuel + 1,e,hk,hf=>by
  obtain ⟨i,hi⟩:=at_index (hall k (by omega))
  by_cases c:hashAt i=h
  ·refine .inl ⟨k,i,zF _,by omega,hi,c,λn' h1 h2=>absurd h1 (by omega),?_⟩
   unfold SetTable.probe.go
   rw [show (ad t.mask k (start t.mask h)).j=at' t.mask h k from rfl,slot_live T.so hi]
   dsimp only
   rw [if_pos (by rw [c];simp),advance_eq,<- ad_succ]
  ·have step:SetTable.probe.go t hashAt h (fuel + 1) (ad t.mask k (start t.mask h))=SetTable.probe.go t hashAt h fuel (ad t.mask (k + 1) (start t.mask h)):=by
    conv=>lhs;unfold SetTable.probe.go
    rw [show (ad t.mask k (start t.mask h)).j=at' t.mask h k from rfl,slot_live T.so hi]
    dsimp only
    rw [if_neg (by simpa using c),advance_eq,<- ad_succ]
   have here:∀ i',t.place[i']?=some (at' t.mask h k)->hashAt i'≠h:=λi' hi'=>by
    have:=(below_at T.so hi').symm.trans (below_at T.so hi)
    rw [this];exact c
   rw [step]
   rcases probe_go T hN hall d (k + 1) fuel (by omega) (by omega) (by omega) with ⟨n,i2,a1,a2,a3,a4,a5,a6⟩ | ⟨a1,a2⟩
   ·refine .inl ⟨n,i2,by omega,a2,a3,a4,λn' h1 h2 i' hi'=>?_,a6⟩
    by_cases q:n'=k
    ·subst q;exact here i' hi'
    ·exact a5 n' (by omega) h2 i' hi'
   ·refine .inr ⟨λn' h1 h2 i' hi'=>?_,a2⟩
    by_cases q:n'=k
    ·subst q;exact here i' hi'
    ·exact a1 n' (by omega) h2 i' hi'
end SmSet
namespace SmSet
open PySem
section
variable {prog:Program}{w:World}{K:Type} [DecidableEq K] {knd:HeapKind prog w K}{A:Around}{E:Value->Shared->Prop}{s:Shared}{a:Addr}
def Keys (knd:HeapKind prog w K) (h:Heap) (es:Array (Int×Value)) (ks:Nat->K):Prop:=∀ i (hi:i < es.size),∃ b,es[i]=(knd.hash (ks i),.ref b)/\knd.is h (ks i) b
def Calm (knd:HeapKind prog w K) (A:Around) (s:Shared):Prop:=∀ (k:K) (b:Addr),knd.is s.heap k b->∀ (E:Value->Shared->Prop) (Q:Bool->Shared->Prop),Q false s->wpAny (model prog w) A (ofAClassStatement 8 (.ref b)) Q E s
theorem not_seen {k:K}{c:Addr} (hk:knd.is s.heap k c) (cl:Calm knd A s):∀ (ys:List Value),(∀ y∈ys,∃ k b,y=.ref b/\knd.is s.heap k b)->∀ {Q:Bool->Shared->Prop},Q false s->wpAny (model prog w) A (searchCouldBeSeen (.ref c) ys) Q E s:=by
 intro ys hy Q q
 unfold searchCouldBeSeen
 refine wpAny_bind ?_
 refine wpAny_forIn_list _ (λrest r s'=>r.1=none/\s'=s/\∀ y∈rest,∃ k b,y=.ref b/\knd.is s.heap k b) _ ?_ ?_ _ _ ⟨rfl,rfl,hy⟩
 ·rintro y rest r s' ⟨hr,rfl,hall⟩
  obtain ⟨k2,b,rfl,hb⟩:=hall _ zo
  have next:∀ u∈rest,∃ k b,u=Value.ref b/\knd.is s'.heap k b:=λu hu=>hall u (zc _ hu)
  dsimp only
  split
  ·exact wpAny_pure ⟨rfl,rfl,next⟩
  ·refine wpAny_bind (knd.quiet hk ?_)
   simp only [yg,zj,if_false]
   refine wpAny_bind (knd.quiet hb ?_)
   simp only [yg,zj,if_false]
   refine wpAny_bind (cl _ _ hk _ _ ?_)
   simp only [zj,if_false]
   refine wpAny_bind (cl _ _ hb _ _ ?_)
   simp only [zj,if_false]
   exact wpAny_pure ⟨rfl,rfl,next⟩
 ·rintro ⟨r1,r2⟩ s' ⟨hr,rfl,_⟩
  simp only at hr
  subst hr
  exact wpAny_pure q
theorem search {o:Obj}{es:Array (Int×Value)}{ep:Nat}{t:SetTable}{ks:Nat->K}{kx:K}{c:Addr}{adding:Bool}{Q:SetFound->Shared->Prop} (hr:knd.room A) (ho:s.heap.get? a=some o) (hd:o.data=.set es ep t) (T:Tab t es) (ke:Keys knd s.heap es ks) (hx:knd.is s.heap kx c) (cl:Calm knd A s)
  (qt:∀ r:Option Nat,(r=none->adding=true)->(∃ i,i < es.size/\ks i=kx)->Q (.there r) s) {N:Nat} (hN:¬ at' t.mask (knd.hash kx) N∈t.place.toList) (hall:∀ n,n < N->at' t.mask (knd.hash kx) n∈t.place.toList) (hNb:N<=10 * (t.mask + 13))
  (qf:(∀ i,i < es.size->ks i≠kx)->Q (.free (at' t.mask (knd.hash kx) N) false) s) :
  ∀ (fuel k:Nat) (st:Option SetTable.Probe),N - k < fuel->k<=N->st.getD (t.probeStart (knd.hash kx))=ad t.mask k (start t.mask (knd.hash kx))->(∀ n',n' < k->∀ i',t.place[i']?=some (at' t.mask (knd.hash kx) n')->ks i'≠kx) ->
   wpAny (model prog w) A (setSearchFrom a (.ref c) (knd.hash kx) adding fuel st) Q E s
 | 0,k,st,hf,_,_,_=>absurd hf (z0 _)
 | fuel + 1,k,st,hf,hk,hst,prev=>by
  unfold setSearchFrom
  refine wpAny_bind (wpAny_setState_of ho hd T.fits ?_)
  dsimp only
  rw [T.odd,hst]
  simp only [zj,if_false]
  unfold SetTable.probe
  rcases probe_go T hN hall (hashAt:=λi=>((es[i]?).map (·.1)).getD 0) _ k (10 * SetTable.turns t.mask) rfl hk (by unfold SetTable.turns;omega) with ⟨n,i,a1,a2,a3,a4,a5,a6⟩ | ⟨a1,a2⟩
  ·generalize hp:SetTable.probe.go t _ (knd.hash kx) (10 * SetTable.turns t.mask) (ad t.mask k (start t.mask (knd.hash kx)))=pr
   have e:=hp.symm.trans a6
   subst e
   have hi:i < es.size:=by
    have:=(Array.getElem?_eq_some_iff.mp a3).1
    rw [T.sz] at this;exact this
   obtain ⟨b,eb,hb⟩:=ke i hi
   have eg:es[i]?=some (knd.hash (ks i),.ref b):=by rw [<-eb];exact Array.getElem?_eq_getElem hi
   dsimp only
   rw [eg]
   dsimp only
   have sl:=slot_live T.so a3
   have mem:t.sameMemory t.moves t.mask=some true:=by simp [SetTable.sameMemory]
   have again:=search (adding:=adding) hr ho hd T ke hx cl qt hN hall hNb qf fuel (n + 1) (some (ad t.mask (n + 1) (start t.mask (knd.hash kx)))) (by omega) (by omega) rfl
   have more:ks i≠kx->∀ n',n' < n + 1->∀ i',t.place[i']?=some (at' t.mask (knd.hash kx) n')->ks i'≠kx:=λne n' hn i' hi'=>by
    by_cases q:n' < k
    ·exact prev n' q i' hi'
    by_cases q2:n'=n
    ·subst q2
     have:=(below_at T.so hi').symm.trans (below_at T.so a3)
     rw [this];exact ne
    ·intro z
     have hl:i' < es.size:=by
      have:=(Array.getElem?_eq_some_iff.mp hi').1
      rw [T.sz] at this;exact this
     obtain ⟨b',eb',_⟩:=ke i' hl
     exact a5 n' (by omega) (by omega) i' hi' (by simp [eb',hl,z])
   have stored:∀ y∈List.map (λx=>x.snd) (Array.filter (λx=>x.fst == knd.hash kx) es).toList,∃ k b,y=Value.ref b/\knd.is s.heap k b:=λy hy=>by
    obtain ⟨e,he,rfl⟩:=zp.mp hy
    have he:e∈es:=by
     have:e∈es/\e.fst=knd.hash kx:=by simpa using he
     exact this.1
    obtain ⟨j,hj,rfl⟩:=Array.getElem_of_mem he
    obtain ⟨b',eb',hb'⟩:=ke j hj
    exact ⟨_,b',by rw [eb'],hb'⟩
   split
   ·refine wpAny_bind (not_seen hx cl _ stored ?_)
    simp only [zj,if_false]
    refine wpAny_bind (wpAny_holding (knd.eqBool hr hb hx ?_))
    refine wpAny_bind (wpAny_setState_of ho hd T.fits ?_)
    dsimp only
    rw [mem]
    dsimp only
    rw [if_pos (show (true=true) from rfl),sl]
    dsimp only
    rw [eg]
    dsimp only
    by_cases q:ks i=kx
    ·rw [decide_eq_true q]
     cases adding with
     | true=>exact wpAny_pure (qt _ (λ_=>rfl) ⟨i,hi,q⟩)
     | false=>
      simp only [yE,zj,if_false]
      refine wpAny_bind (wpAny_isSame_ref_self ?_)
      exact wpAny_pure (qt _ (λz=>by cases z) ⟨i,hi,q⟩)
    ·rw [decide_eq_false q]
     simp only [yM,zj,if_false]
     refine wpAny_bind (wpAny_isSame_ref_self ?_)
     exact again (more q)
   ·refine wpAny_bind (wpAny_holding (knd.eqBool hr hb hx ?_))
    refine wpAny_bind (wpAny_setState_of ho hd T.fits ?_)
    dsimp only
    rw [mem]
    dsimp only
    rw [if_pos (show (true=true) from rfl),sl]
    dsimp only
    rw [eg]
    dsimp only
    by_cases q:ks i=kx
    ·rw [decide_eq_true q]
     cases adding with
     | true=>exact wpAny_pure (qt _ (λ_=>rfl) ⟨i,hi,q⟩)
     | false=>
      simp only [yE,zj,if_false]
      refine wpAny_bind (wpAny_isSame_ref_self ?_)
      exact wpAny_pure (qt _ (λz=>by cases z) ⟨i,hi,q⟩)
    ·rw [decide_eq_false q]
     simp only [yM,zj,if_false]
     refine wpAny_bind (wpAny_isSame_ref_self ?_)
     exact again (more q)
  ·generalize hp:SetTable.probe.go t _ (knd.hash kx) (10 * SetTable.turns t.mask) (ad t.mask k (start t.mask (knd.hash kx)))=pr
   have e:=hp.symm.trans a2
   subst e
   dsimp only
   refine wpAny_pure (qf λi hi z=>?_)
   obtain ⟨m,hm,al⟩:=T.way i hi
   obtain ⟨b,eb,_⟩:=ke i hi
   rw [eb] at hm al
   dsimp only at hm al
   rw [z] at hm al
   have mN:m < N:=Classical.byContradiction λc=>by
    by_cases q:N=m
    ·subst q
     exact hN (by simpa using Array.mem_of_getElem? hm)
    ·exact hN (al N (by omega))
   by_cases q:m < k
   ·exact prev m q i hm z
   ·refine a1 m (by omega) mN i hm ?_
    simp [eb,hi,z]
structure SetT (knd:HeapKind prog w K) (h:Heap) (a:Addr) (es:Array (Int×Value)) (ep:Nat) (t:SetTable) (ks:Nat->K):Prop where
 obj:h.get? a=some { cls:=.type "set", data:=.set es ep t }
 tab:Tab t es
 keys:Keys knd h es ks
end
end SmSet
namespace SmSet
open PySem
theorem insert_get {α:Type}{l:List α}{p:Nat}{x:α} (hp:p<=l.length) (i:Nat):(l.take p++x::l.drop p)[i]?=if i < p then l[i]? else if i=p then some x else l[i - 1]?:=by
 have lt:(l.take p).length=p:=by rw [zT];omega
 by_cases c:i < p
 ·rw [if_pos c,yJ (by omega),List.getElem?_take_of_lt c]
 ·rw [if_neg c,z4 (by omega),lt]
  by_cases d:i=p
  ·rw [if_pos d,d,Nat.sub_self];rfl
  ·rw [if_neg d,show i - p=(i - p - 1) + 1 from by omega,List.getElem?_cons_succ,yN]
   congr 1;omega
theorem Tab.put {t:SetTable}{es:Array (Int×Value)} (T:Tab t es) {h:Int}{x:Value}{N:Nat} (hN:¬ at' t.mask h N∈t.place.toList) (hall:∀ n,n < N->at' t.mask h n∈t.place.toList) (pl:Bool) :
  (((es.size + 1) * 5 < t.mask * 3)->Tab { (t.put (at' t.mask h N)).1 with plain:=pl } (SetTable.insertAt es (t.put (at' t.mask h N)).2 (h,x)))/\(t.put (at' t.mask h N)).1.dummies=#[]/\(t.put (at' t.mask h N)).1.mask=t.mask/\(t.put (at' t.mask h N)).1.place.size=es.size + 1:=by
 have e1:(t.put (at' t.mask h N)).1={ t with place:=SetTable.insertAt t.place (SetTable.below t.place (at' t.mask h N)) (at' t.mask h N) }:=by
  unfold SetTable.put
  dsimp only
  rw [T.nd]
  unfold SetTable.has
  simp
 have e2:(t.put (at' t.mask h N)).2=SetTable.below t.place (at' t.mask h N):=rfl
 rw [e1,e2]
 generalize hj:at' t.mask h N=j at *
 obtain ⟨b1,b2,b3⟩:=below_spec (j:=j) T.so
 generalize hp:SetTable.below t.place j=p at *
 have lp:(SetTable.insertAt t.place p j).toList=t.place.toList.take p++j::t.place.toList.drop p:=SetTable.toList_insertAt ..
 have le:(SetTable.insertAt es p (h,x)).toList=es.toList.take p++(h,x)::es.toList.drop p:=SetTable.toList_insertAt ..
 have p1:p<=t.place.toList.length:=by rw [Array.length_toList];exact b1
 have p2:p<=es.toList.length:=by rw [Array.length_toList,<- T.sz];exact b1
 have s1:(SetTable.insertAt t.place p j).size=es.size + 1:=by
  rw [<-Array.length_toList,lp,zK,yC,zT,yH,Array.length_toList,<- T.sz];omega
 have s2:(SetTable.insertAt es p (h,x)).size=es.size + 1:=by
  rw [<-Array.length_toList,le,zK,yC,zT,yH,Array.length_toList]
  have:=T.sz
  omega
 have mem:∀ j',j'∈(SetTable.insertAt t.place p j).toList↔j'=j\/j'∈t.place.toList:=λj'=>by
  rw [lp,zX,zE]
  constructor
  ·rintro (h | h | h)
   ·exact .inr (ye h)
   ·exact .inl h
   ·exact .inr (yO h)
  ·rintro (h | h)
   ·exact .inr (.inl h)
   ·rw [<-List.take_append_drop p t.place.toList,zX] at h
    exact h.imp id .inr
 refine ⟨λlight=>⟨T.mask,T.nd,?_,by rw [s2];exact s1,λj' hj'=>?_,by rw [s2];exact light,λi hi=>?_⟩,T.nd,rfl,s1⟩
 ·show (SetTable.insertAt t.place p j).toList.Pairwise (· < ·)
  rw [lp,List.pairwise_append,List.pairwise_cons]
  refine ⟨T.so.sublist (List.take_sublist _ _),⟨λy hy=>?_,T.so.sublist (List.drop_sublist _ _)⟩,λy hy z hz=>?_⟩
  ·obtain ⟨i,hi,e⟩:=List.getElem_of_mem hy
   rw [List.getElem_drop] at e
   have hl:p + i < t.place.size:=by rw [yH,Array.length_toList] at hi;omega
   have q:=b3 (p + i) hl (by omega)
   rw [Array.getElem_toList] at e
   rw [e] at q
   have ne:y≠j:=λz=>hN (by rw [<-z];exact yO hy)
   omega
  ·obtain ⟨i,hi,e⟩:=List.getElem_of_mem hy
   rw [List.getElem_take] at e
   rw [zT,Array.length_toList] at hi
   have hl:i < t.place.size:=by omega
   have q:=b2 i hl (by omega)
   rw [Array.getElem_toList] at e
   rw [e] at q
   rcases zE.mp hz with z1 | z1
   ·rw [z1];exact q
   ·obtain ⟨k,hk,ek⟩:=List.getElem_of_mem z1
    rw [List.getElem_drop] at ek
    have hl':p + k < t.place.size:=by rw [yH,Array.length_toList] at hk;omega
    have q2:=b3 (p + k) hl' (by omega)
    rw [Array.getElem_toList] at ek
    rw [ek] at q2
    omega
 ·have hj':j'∈(SetTable.insertAt t.place p j).toList:=hj'
  rcases (mem j').mp hj' with z | z
  ·rw [z,<- hj];exact at_le N
  ·exact T.small j' z
 ·show ∃ n,(SetTable.insertAt t.place p j)[i]?=some (at' t.mask (SetTable.insertAt es p (h,x))[i].1 n)/\∀ n',n' < n->at' t.mask (SetTable.insertAt es p (h,x))[i].1 n'∈(SetTable.insertAt t.place p j).toList
  have ge:(SetTable.insertAt es p (h,x))[i]?=some (SetTable.insertAt es p (h,x))[i]:=Array.getElem?_eq_getElem hi
  generalize (SetTable.insertAt es p (h,x))[i]=e at ge ⊢
  rw [<-Array.getElem?_toList,le,insert_get p2] at ge
  rw [<-Array.getElem?_toList,lp,insert_get p1,<- lp]
  have old:∀ k,es.toList[k]?=some e->∃ n,t.place.toList[k]?=some (at' t.mask e.1 n)/\∀ n',n' < n->at' t.mask e.1 n'∈(SetTable.insertAt t.place p j).toList:=λk hk=>by
   rw [Array.getElem?_toList] at hk
   obtain ⟨hk',ek⟩:=Array.getElem?_eq_some_iff.mp hk
   obtain ⟨n,a1,a2⟩:=T.way k hk'
   rw [ek] at a1 a2
   exact ⟨n,by rw [Array.getElem?_toList];exact a1,λn' hn=>(mem _).mpr (.inr (a2 n' hn))⟩
  by_cases c:i < p
  ·rw [if_pos c] at ge ⊢;exact old i ge
  ·rw [if_neg c] at ge ⊢
   by_cases d:i=p
   ·rw [if_pos d] at ge ⊢
    cases ge
    exact ⟨N,by rw [hj],λn' hn=>(mem _).mpr (.inr (hall n' hn))⟩
   ·rw [if_neg d] at ge ⊢;exact old (i - 1) ge
def occ (ow:Array (Option Nat)) (j:Nat):Prop:=(ow.getD j (some 0)).isNone=false
theorem free_spec {m:Nat}{ow:Array (Option Nat)}:∀ (fuel i u:Nat),(∃ r,r < fuel/\¬ occ ow (runs m r i u).1) ->
  ∃ n,SetTable.layClean.free m ow fuel i u=some (ad m n (run m i u)).j/\¬ occ ow (ad m n (run m i u)).j/\∀ n',n' < n->occ ow (ad m n' (run m i u)).j
 | 0,i,u,⟨r,h,_⟩=>absurd h (z0 _)
 | fuel + 1,i,u,⟨r,h,no⟩=>by
  unfold SetTable.layClean.free
  cases e:(List.range (SetTable.runEnd m i + 1 - i)).find? λk=>(ow.getD (i + k) (some 0)).isNone with
  | some k=>
   dsimp only
   obtain ⟨hk,hlt,before⟩:=List.find?_range_eq_some.mp e
   have hlt:k < SetTable.runEnd m i + 1 - i:=zx.mp hlt
   have inr:∀ k',k'<=k->(ad m k' (run m i u)).j=i + k':=λk' hk'=>by rw [ad_in_run k' (by omega)]
   refine ⟨k,by rw [inr k (zF _)],?_,λn' hn=>?_⟩
   ·rw [inr k (zF _)]
    unfold occ
    rw [hk];simp
   ·rw [inr n' (by omega)]
    unfold occ
    have:=before n' hn
    simpa using this
  | none=>
   dsimp only
   have all:∀ k,k < SetTable.runEnd m i + 1 - i->occ ow (i + k):=λk hk=>by
    have:=List.find?_eq_none.mp e k (zx.mpr hk)
    unfold occ
    cases q:(ow.getD (i + k) (some 0)).isNone with
    | false=>rfl
    | true=>exact absurd q this
   have r0:r≠0:=λz=>by
    subst z
    refine no ?_
    exact all 0 (by have:=(runEnd_le (m:=m) (i:=i)).2.1;omega)
   obtain ⟨r',rfl⟩:=Nat.exists_eq_succ_of_ne_zero r0
   obtain ⟨n,a1,a2,a3⟩:=free_spec fuel ((i * 5 + 1 + u / 32) % (m + 1)) (u / 32) ⟨r',by omega,no⟩
   have next:∀ n',ad m (SetTable.runEnd m i - i + 1 + n') (run m i u)=ad m n' (run m ((i * 5 + 1 + u / 32) % (m + 1)) (u / 32)):=λn'=>by rw [ad_add,ad_next_run]
   refine ⟨SetTable.runEnd m i - i + 1 + n,?_,?_,λn' hn=>?_⟩
   ·rw [next];exact a1
   ·rw [next];exact a2
   ·by_cases c:n' < SetTable.runEnd m i - i + 1
    ·rw [ad_in_run n' (by omega)]
     exact all n' (by have:=(runEnd_le (m:=m) (i:=i)).2.1;omega)
    ·rw [show n'=SetTable.runEnd m i - i + 1 + (n' - (SetTable.runEnd m i - i + 1)) from by omega,next]
     exact a3 _ (by omega)
structure Lay (m:Nat) (hs:List Int) (ow:Array (Option Nat)):Prop where
 sz:ow.size=m + 1
 each:∀ (k:Nat) (h:Int),hs[k]?=some h->∃ n,ow[at' m h n]?=some (some k)/\∀ n',n' < n->occ ow (at' m h n')
 low:∀ (j k:Nat),ow[j]?=some (some k)->k < hs.length
 one:∀ (j j' k:Nat),ow[j]?=some (some k)->ow[j']?=some (some k)->j=j'
theorem occ_iff {ow:Array (Option Nat)}{j:Nat} (h:j < ow.size):occ ow j↔∃ k,ow[j]?=some (some k):=by
 unfold occ
 rw [show ow.getD j (some 0)=ow[j] from by simp [Array.getD,h],Array.getElem?_eq_getElem h]
 cases ow[j] <;> simp
theorem Lay.left {m:Nat}{hs:List Int}{ow:Array (Option Nat)} (L:Lay m hs ow) (few:hs.length<=m):∃ j,j<=m/\¬ occ ow j:=by
 refine Classical.byContradiction λc=>?_
 have all:∀ j,j < m + 1->∃ k,ow[j]?=some (some k):=λj hj=>(occ_iff (by rw [L.sz];exact hj)).mp (Classical.byContradiction λz=>c ⟨j,by omega,z⟩)
 have pick:∀ k,∃ j,k < hs.length->ow[j]?=some (some k):=λk=>by
  by_cases hk:k < hs.length
  ·obtain ⟨n,a,_⟩:=L.each k hs[k] (zG hk)
   exact ⟨_,λ_=>a⟩
  ·exact ⟨0,λz=>absurd z hk⟩
 have:=as_long (m + 1) ((List.range hs.length).map λk=>(pick k).choose) λj hj=>by
  obtain ⟨k,hk⟩:=all j hj
  have kl:=L.low j k hk
  exact zp.mpr ⟨k,zx.mpr kl,L.one _ _ _ ((pick k).choose_spec kl) hk⟩
 rw [zA,List.length_range] at this
 omega
theorem Lay.step {m:Nat}{hs:List Int}{ow:Array (Option Nat)} (hm:Mask m) (L:Lay m hs ow) (few:hs.length<=m) (h:Int) :
  ∃ j,SetTable.layClean.free m ow (SetTable.turns m) (SetTable.bits h % (m + 1)) (SetTable.bits h)=some j/\Lay m (hs++[h]) (ow.setIfInBounds j (some hs.length)):=by
 obtain ⟨j0,hj0,no⟩:=L.left few
 obtain ⟨r,hr,e⟩:=reach (u:=SetTable.bits h) hm (yT.mp (Nat.mod_lt (SetTable.bits h) (show 0 < m + 1 by omega))) (bits_lt h) hj0
 obtain ⟨n,a1,a2,a3⟩:=free_spec (m:=m) (ow:=ow) (SetTable.turns m) (SetTable.bits h % (m + 1)) (SetTable.bits h) ⟨r,by unfold SetTable.turns;omega,by rw [e];exact no⟩
 have ej:(ad m n (run m (SetTable.bits h % (m + 1)) (SetTable.bits h))).j=at' m h n:=rfl
 rw [ej] at a1 a2
 have a3:∀ n',n' < n->occ ow (at' m h n'):=a3
 have jl:at' m h n < ow.size:=by rw [L.sz];exact yT.mpr (at_le n)
 have get:∀ j,(ow.setIfInBounds (at' m h n) (some hs.length))[j]?=if at' m h n=j then some (some hs.length) else ow[j]?:=λj=>by
  rw [Array.getElem?_setIfInBounds]
  by_cases c:at' m h n=j
  ·rw [if_pos c,if_pos c,if_pos jl]
  ·rw [if_neg c,if_neg c]
 have keep:∀ j,occ ow j->j < ow.size->occ (ow.setIfInBounds (at' m h n) (some hs.length)) j:=λj oj hj=>by
  rw [occ_iff (by rw [Array.size_setIfInBounds];exact hj),get]
  by_cases c:at' m h n=j
  ·exact ⟨_,by rw [if_pos c]⟩
  ·rw [if_neg c];exact (occ_iff hj).mp oj
 have free:∀ k,ow[at' m h n]?≠some (some k):=λk z=>a2 ((occ_iff jl).mpr ⟨k,z⟩)
 refine ⟨_,a1,by rw [Array.size_setIfInBounds];exact L.sz,λk x hx=>?_,λj k hj=>?_,λj j' k h1 h2=>?_⟩
 ·by_cases c:k < hs.length
  ·rw [yJ c] at hx
   obtain ⟨n2,b1,b2⟩:=L.each k x hx
   refine ⟨n2,?_,λn' hn=>keep _ (b2 n' hn) (by rw [L.sz];exact yT.mpr (at_le n'))⟩
   rw [get,if_neg λz=>free k (by rw [z];exact b1)]
   exact b1
  ·rw [z4 (by omega)] at hx
   have:k - hs.length=0:=by
    have:=(zH.mp hx).1
    simp at this;omega
   rw [this] at hx
   cases hx
   have:k=hs.length:=by omega
   subst this
   exact ⟨n,by rw [get,if_pos rfl],λn' hn=>keep _ (a3 n' hn) (by rw [L.sz];exact yT.mpr (at_le n'))⟩
 ·rw [get] at hj
  rw [zK,yd]
  split at hj
  ·cases hj;omega
  ·have:=L.low j k hj;omega
 ·rw [get] at h1 h2
  split at h1 <;> split at h2
  ·rename_i x y;rw [<-x,<- y]
  ·cases h1;have:=L.low _ _ h2;omega
  ·cases h2;have:=L.low _ _ h1;omega
  ·exact L.one _ _ _ h1 h2
theorem lay_fold {m:Nat} (hm:Mask m):∀ (l hs:List Int) (ow:Array (Option Nat)),Lay m hs ow->hs.length + l.length<=m + 1 ->
  ∃ ow',l.foldl (λ(acc:Option (Array (Option Nat)×Nat)) h=>do
   let (owner,k) <- acc
   let j <- SetTable.layClean.free m owner (SetTable.turns m) (SetTable.bits h % (m + 1)) (SetTable.bits h)
   pure (owner.setIfInBounds j (some k),k + 1)) (some (ow,hs.length))=some (ow',hs.length + l.length)/\Lay m (hs++l) ow'
 | [],hs,ow,L,_=>⟨ow,rfl,by rw [zz];exact L⟩
 | h::l,hs,ow,L,few=>by
  obtain ⟨j,e,L'⟩:=L.step hm (by rw [yC] at few;omega) h
  have few':(hs++[h]).length + l.length<=m + 1:=by rw [zK,yd];rw [yC] at few;omega
  obtain ⟨ow',e2,L2⟩:=lay_fold hm l (hs++[h]) _ L' few'
  refine ⟨ow',?_,by rw [List.append_assoc] at L2;exact L2⟩
  rw [List.foldl_cons]
  show l.foldl _ ((SetTable.layClean.free m ow (SetTable.turns m) (SetTable.bits h % (m + 1)) (SetTable.bits h)).bind λj=>some (ow.setIfInBounds j (some hs.length),hs.length + 1))=_
  rw [e]
  rw [zK,yd] at e2
  rw [yC]
  rw [show hs.length + (l.length + 1)=hs.length + 1 + l.length from by omega]
  exact e2
theorem lay_clean {m:Nat} (hm:Mask m) {hashes:Array Int} (few:hashes.size<=m + 1):∃ ow,SetTable.layClean m hashes=some ow/\Lay m hashes.toList ow:=by
 have L0:Lay m [] (Array.replicate (m + 1) none):=⟨by simp,λk h e=>(by cases e),(λj k e=>by rw [Array.getElem?_replicate] at e;split at e <;> cases e),(λj j' k e=>by rw [Array.getElem?_replicate] at e;split at e <;> cases e)⟩
 obtain ⟨ow,e,L⟩:=lay_fold hm hashes.toList [] _ L0 (by rw [yi,Array.length_toList];omega)
 refine ⟨ow,?_,by simpa using L⟩
 unfold SetTable.layClean
 rw [<-Array.foldl_toList]
 have:=congrArg (Option.map (·.1)) e
 exact this
theorem perm_of {l l':List Nat} (h:l.Nodup) (h':l'.Nodup) (e:∀ x,x∈l↔x∈l'):l.Perm l':=by
 rw [List.perm_iff_count]
 intro a
 rw [h.count,h'.count]
 by_cases c:a∈l
 ·rw [if_pos c,if_pos ((e a).mp c)]
 ·rw [if_neg c,if_neg λz=>c ((e a).mpr z)]
theorem fm_some {α β:Type}{f:α->Option β}{g:α->β}:∀ {l:List α},(∀ x∈l,f x=some (g x))->l.filterMap f=l.map g
 | [],_=>rfl
 | x::l,h=>by
  rw [List.filterMap_cons_some (h x zo),zt,fm_some λy hy=>h y (zc _ hy)]
theorem fm_pair {f:Nat->Option Nat}:∀ (l:List Nat),(l.filterMap λj=>(f j).map (j,·)).map (·.1)=l.filter λj=>(f j).isSome
 | []=>rfl
 | x::l=>by
  cases e:f x with
  | none=>rw [List.filterMap_cons_none (by rw [e];rfl),yP (by rw [e];simp),fm_pair l]
  | some k=>rw [List.filterMap_cons_some (b:=(x,k)) (by rw [e];rfl),yQ (by rw [e];rfl),zt,fm_pair l]
theorem relaid_spec {t:SetTable}{es:Array (Int×Value)}{wanted m:Nat} (hw:SetTable.sizeAbove wanted - 1=m) (hm:Mask m) (light:es.size * 5 < m * 3) :
  ∃ t' order,t.relaid (es.map (·.1)) wanted=some (t',order)/\(order.filterMap (es[·]?)).toList.Perm es.toList/\Tab t' (order.filterMap (es[·]?)):=by
 obtain ⟨ow,e,L⟩:=lay_clean (hashes:=es.map (·.1)) hm (by rw [Array.size_map];omega)
 have lh:(es.map (·.1)).toList.length=es.size:=by rw [Array.length_toList,Array.size_map]
 have hh:∀ (k:Nat) (x:Int×Value),es[k]?=some x->(es.map (·.1)).toList[k]?=some x.1:=λk x hx=>by rw [Array.getElem?_toList,Array.getElem?_map,hx];rfl
 let lv:=(List.range (m + 1)).filterMap λj=>(ow.getD j none).map (j,·)
 have e2:t.relaid (es.map (·.1)) wanted=some ({ mask:=m,place:=(lv.map (·.1)).toArray,dummies:=#[],finger:=t.finger,led:=t.led,moves:=t.movedTo m,plain:=t.plain },(lv.map (·.2)).toArray):=by
  unfold SetTable.relaid SetTable.laid
  rw [hw,e]
  rfl
 have f1:lv.map (·.1)=(List.range (m + 1)).filter λj=>(ow.getD j none).isSome:=fm_pair _
 have f2:∀ p∈lv,ow[p.1]?=some (some p.2)/\p.1<=m:=λp hp=>by
  obtain ⟨j,hj,q⟩:=ya.mp hp
  have hj:j < m + 1:=zx.mp hj
  have hs:j < ow.size:=by rw [L.sz];exact hj
  rw [show ow.getD j none=ow[j] from by simp [Array.getD,hs]] at q
  cases eo:ow[j] with
  | none=>rw [eo] at q;cases q
  | some k=>rw [eo] at q;cases q;exact ⟨by rw [Array.getElem?_eq_getElem hs,eo],by show j<=m;omega⟩
 have f3:∀ j k,ow[j]?=some (some k)->(j,k)∈lv:=λj k h=>by
  obtain ⟨hs,eo⟩:=Array.getElem?_eq_some_iff.mp h
  refine ya.mpr ⟨j,zx.mpr (by rw [L.sz] at hs;exact hs),?_⟩
  rw [show ow.getD j none=ow[j] from by simp [Array.getD,hs],eo];rfl
 have so1:(lv.map (·.1)).Pairwise (· < ·):=by rw [f1];exact List.pairwise_lt_range.filter _
 have so2:lv.Pairwise λa b=>a.1 < b.1:=List.pairwise_map.mp so1
 have nd:(lv.map (·.2)).Nodup:=by
  refine List.pairwise_map.mpr (so2.imp_of_mem λ{a b} ha hb h z=>?_)
  have:=L.one _ _ _ (f2 a ha).1 (by rw [z];exact (f2 b hb).1)
  omega
 have kl:∀ p∈lv,p.2 < es.size:=λp hp=>by have:=L.low _ _ (f2 p hp).1;rw [lh] at this;exact this
 have pm:(lv.map (·.2)).Perm (List.range es.size):=perm_of nd List.nodup_range λk=>by
  constructor
  ·intro h
   obtain ⟨p,hp,rfl⟩:=zp.mp h
   exact zx.mpr (kl p hp)
  ·intro h
   have hk:k < es.size:=zx.mp h
   obtain ⟨n,a,_⟩:=L.each k es[k].1 (hh k _ (Array.getElem?_eq_getElem hk))
   exact zp.mpr ⟨_,f3 _ _ a,rfl⟩
 let g:Nat->Int×Value:=λk=>(es[k]?).getD (0,Value.none)
 have gk:∀ k,k < es.size->es[k]?=some (g k):=λk hk=>by show es[k]?=some ((es[k]?).getD _);rw [Array.getElem?_eq_getElem hk];rfl
 have e3:((lv.map (·.2)).toArray.filterMap (es[·]?)).toList=lv.map λp=>g p.2:=by
  rw [Array.toList_filterMap,List.filterMap_map]
  exact fm_some λp hp=>gk p.2 (kl p hp)
 have e4:es.toList=(List.range es.size).map g:=by
  have:=filterMap_getElem?_range es
  rw [fm_some (g:=g) λk hk=>gk k (zx.mp hk)] at this
  exact this.symm
 refine ⟨_,_,e2,?_,?_⟩
 ·rw [e3,e4,show (λp:Nat×Nat=>g p.2)=g ∘ (·.2) from rfl,<- yl]
  exact pm.map g
 ·have sz:((lv.map (·.2)).toArray.filterMap (es[·]?)).size=lv.length:=by rw [<-Array.length_toList,e3,zA]
  have ll:lv.length=es.size:=by have:=pm.length_eq;rw [zA,List.length_range] at this;exact this
  refine ⟨hm,rfl,by simpa using so1,by rw [sz];simp,λj hj=>?_,by rw [sz,ll];exact light,λi hi=>?_⟩
  ·have hj:j∈lv.map (·.1):=by simpa using hj
   obtain ⟨p,hp,rfl⟩:=zp.mp hj
   exact (f2 p hp).2
  ·have ge:((lv.map (·.2)).toArray.filterMap (es[·]?))[i]?=some ((lv.map (·.2)).toArray.filterMap (es[·]?))[i]:=Array.getElem?_eq_getElem hi
   generalize ((lv.map (·.2)).toArray.filterMap (es[·]?))[i]=x at ge ⊢
   rw [<-Array.getElem?_toList,e3,zJ] at ge
   cases ep:lv[i]? with
   | none=>rw [ep] at ge;cases ge
   | some p=>
    rw [ep] at ge
    have ge:g p.2=x:=Option.some.inj ge
    have hp:=zB ep
    have hx:=gk p.2 (kl p hp)
    rw [ge] at hx
    obtain ⟨n,a1,a2⟩:=L.each p.2 x.1 (hh p.2 x hx)
    have ej:=L.one _ _ _ a1 (f2 p hp).1
    refine ⟨n,?_,λn' hn=>?_⟩
    ·show ((lv.map (·.1)).toArray)[i]?=some (at' m x.1 n)
     rw [List.getElem?_toArray,zJ,ep,ej];rfl
    ·show at' m x.1 n'∈((lv.map (·.1)).toArray).toList
     obtain ⟨k,hk⟩:=(occ_iff (by rw [L.sz];exact yT.mpr (at_le n'))).mp (a2 n' hn)
     simpa using ⟨k,f3 _ _ hk⟩
end SmSet
namespace SmSet
open PySem
section
variable {prog:Program}{w:World}{K:Type} [DecidableEq K] {knd:HeapKind prog w K}{A:Around}{E:Value->Shared->Prop}{s:Shared}{a:Addr}
def Hashy (knd:HeapKind prog w K):Prop:=∀ (A:Around) (s:Shared) (k:K) (b:Addr),knd.is s.heap k b->∀ (E:Value->Shared->Prop) (Q:Bool->Shared->Prop),(∀ v,Q v s)->wpAny (model prog w) A (hashByValue 8 (.ref b)) Q E s
def SetObj (es:Array (Int×Value)) (ep:Nat) (t:SetTable):Obj:={ cls:=.type "set", data:=.set es ep t }
theorem store {es es':Array (Int×Value)}{ep:Nat}{t t':SetTable}{Q:Unit->Shared->Prop} (ho:s.heap.get? a=some (SetObj es ep t)) (hz:es'.size<=sizeLine)
  (h:∀ h',Heap.SameBut a s.heap h'->h'.get? a=some (SetObj es' (ep + 1) t')->Q () { s with heap:=h' }):wpAny (model prog w) A (storeSet a es' t') Q E s:=by
 refine wpAny_storeSet_of ho rfl (h _ (Heap.SameBut.update s.heap a (Obj.putSet es' t')) ?_) hz
 have:=Heap.get?_update_self (Obj.putSet es' t') ho (by rw [putSet_of es' t' rfl];rfl)
 rw [putSet_of es' t' rfl] at this;exact this
theorem grown_mask {n m:Nat} (hm:Mask m) (lt:(n - 1) * 5 < m * 3) (n1:1<=n) (full:n * 5 ≥ m * 3) (few:n<=4000):Mask (SetTable.sizeAbove (SetTable.grown n) - 1)/\n * 5 < (SetTable.sizeAbove (SetTable.grown n) - 1) * 3/\SetTable.sizeAbove (SetTable.grown n)<=8192:=by
 rcases hm with rfl | rfl | rfl | rfl | rfl | rfl
 ·have:n=5:=by omega
  subst this
  exact ⟨.inr (.inl (by decide +kernel)),by decide +kernel,by decide +kernel⟩
 ·have:n=19:=by omega
  subst this
  exact ⟨.inr (.inr (.inl (by decide +kernel))),by decide +kernel,by decide +kernel⟩
 ·have:n=77:=by omega
  subst this
  exact ⟨.inr (.inr (.inr (.inl (by decide +kernel)))),by decide +kernel,by decide +kernel⟩
 ·have:n=307:=by omega
  subst this
  exact ⟨.inr (.inr (.inr (.inr (.inl (by decide +kernel))))),by decide +kernel,by decide +kernel⟩
 ·have:n=1229:=by omega
  subst this
  exact ⟨.inr (.inr (.inr (.inr (.inr (by decide +kernel))))),by decide +kernel,by decide +kernel⟩
 ·omega
theorem add {es:Array (Int×Value)}{ep:Nat}{t:SetTable}{ks:Nat->K}{kx:K}{c:Addr}{Q:Bool->Shared->Prop} (hr:knd.room A) (S:SetT knd s.heap a es ep t ks) (hx:knd.is s.heap kx c) (cl:Calm knd A s) (hb:Hashy knd) (few:es.size < 4000)
  (qt:(∃ i,i < es.size/\ks i=kx)->Q false s)
  (qf:∀ (h':Heap) (es':Array (Int×Value)) (ep':Nat) (t':SetTable),(∀ i,i < es.size->ks i≠kx)->Heap.SameBut a s.heap h'->h'.get? a=some (SetObj es' ep' t')->Tab t' es'->es'.toList.Perm (es.toList++[(knd.hash kx,.ref c)])->Q true { s with heap:=h' }) :
  wpAny (model prog w) A (setAddHashed a (.ref c) (knd.hash kx)) Q E s:=by
 obtain ⟨N,n1,n2,n3⟩:=S.tab.first (knd.hash kx)
 have line:10000<=sizeLine:=by rw [sizeLine_eq];decide
 unfold setAddHashed setAddHashedIn
 refine wpAny_holding (wpAny_bind (wpAny_setState_of S.obj rfl S.tab.fits ?_))
 dsimp only
 rw [show byScan (.ref c) es=false from rfl]
 simp only [zj,if_false]
 refine wpAny_bind ?_
 unfold setSearch
 have lim:10 * (t.mask + 13) < 100000:=by
  rcases S.tab.mask with h | h | h | h | h | h <;> rw [h] <;> decide
 refine search hr S.obj rfl S.tab S.keys hx cl (λr h f=>?_) n2 n3 n1 (λnf=>?_) 100000 0 none (by omega) (za _) rfl (λn' h=>absurd h (z0 _))
 ·exact wpAny_pure (qt f)
 ·dsimp only
  refine wpAny_bind (wpAny_setState_of S.obj rfl S.tab.fits ?_)
  dsimp only
  have m7:7<=t.mask:=by rcases S.tab.mask with h | h | h | h | h | h <;> omega
  have lt:=S.tab.light
  have e200:SetTable.tooFull=λt=>decide (t.fill * 5 ≥ t.mask * 3):=rfl
  have tail:∀ tt,(∃ pl,tt={ (t.put (at' t.mask (knd.hash kx) N)).1 with plain:=pl })->wpAny (model prog w) A (do
    storeSet a (SetTable.insertAt es (t.put (at' t.mask (knd.hash kx) N)).2 (knd.hash kx,Value.ref c)) tt
    if (!false && tt.tooFull)=true then do
     setRelay a (SetTable.grown (es.size + 1))
     pure true
    else pure true) Q E s:=by
   rintro tt ⟨pl,rfl⟩
   obtain ⟨pt,pd,pm,ps⟩:=S.tab.put (x:=Value.ref c) n2 n3 pl
   have pp:=SetTable.insertAt_perm es (t.put (at' t.mask (knd.hash kx) N)).2 (knd.hash kx,Value.ref c)
   rw [Array.toList_push] at pp
   have sz:(SetTable.insertAt es (t.put (at' t.mask (knd.hash kx) N)).2 (knd.hash kx,Value.ref c)).size=es.size + 1:=by
    have:=pp.length_eq
    rw [Array.length_toList,zK,Array.length_toList,yd] at this;exact this
   generalize (t.put (at' t.mask (knd.hash kx) N)).1=T1 at pt pd pm ps ⊢
   generalize SetTable.insertAt es (t.put (at' t.mask (knd.hash kx) N)).2 (knd.hash kx,Value.ref c)=es1 at pt pp sz ⊢
   have fit:({ T1 with plain:=pl }:SetTable).fits es1.size=true:=by
    unfold SetTable.fits SetTable.fill
    dsimp only
    rw [ps,pd,sz,pm]
    simp
    omega
   refine wpAny_bind (store S.obj (by omega) λh' sb go=>?_)
   have full:({ T1 with plain:=pl }:SetTable).tooFull=decide ((es.size + 1) * 5 ≥ t.mask * 3):=by
    unfold SetTable.tooFull SetTable.fill
    dsimp only
    rw [ps,pd,pm];rfl
   rw [full]
   by_cases c:(es.size + 1) * 5 ≥ t.mask * 3
   ·rw [decide_eq_true c]
    simp only [yX,Bool.and_self,if_true]
    obtain ⟨gm,gl,gz⟩:=grown_mask S.tab.mask (by rw [Nat.add_sub_cancel];exact lt) (by omega) c (by omega)
    obtain ⟨t2,order,er,pr,T2⟩:=relaid_spec (t:={ T1 with plain:=pl }) (es:=es1) rfl gm (by rw [sz];exact gl)
    refine wpAny_bind ?_
    unfold setRelay
    refine wpAny_bind (wpAny_setState_of (s:={ s with heap:=h' }) go rfl fit ?_)
    dsimp only
    rw [if_neg (by omega)]
    refine wpAny_bind ?_
    rw [er]
    show wpAny (model prog w) A (if ((order.filterMap (es1[·]?)).size != es1.size)=true then _ else _) _ _ _
    have s2:(order.filterMap (es1[·]?)).size=es1.size:=by have:=pr.length_eq;rw [Array.length_toList,Array.length_toList] at this;exact this
    rw [if_neg (by rw [s2];simp)]
    refine wpAny_pure ?_
    dsimp only
    refine store (s:={ s with heap:=h' }) go (by rw [s2];omega) λh2 sb2 go2=>?_
    exact wpAny_pure (qf h2 _ _ _ nf (sb.trans sb2) go2 T2 (pr.trans pp))
   ·rw [decide_eq_false c]
    simp only [yX,yM,zj,if_false]
    exact wpAny_pure (qf h' _ _ _ nf sb go (pt (by omega)) pp)
  split
  ·refine wpAny_bind (hb _ _ _ _ hx _ _ λv=>tail _ ?_)
   cases v with
   | true=>exact ⟨(t.put (at' t.mask (knd.hash kx) N)).1.plain,rfl⟩
   | false=>exact ⟨false,rfl⟩
  ·refine wpAny_bind (wpAny_pure (tail _ ⟨(t.put (at' t.mask (knd.hash kx) N)).1.plain,rfl⟩))
end
end SmSet
namespace SmSet
open PySem PySem.Spec
def Kp (h0 h:Heap):Prop:=∀ b o,h0.get? b=some o->h.get? b=some o
section
variable {prog:Program}{w:World}{K:Type} [DecidableEq K] [Inhabited K] {knd:HeapKind prog w K}
def Holds (knd:HeapKind prog w K) (h:Heap) (a:Addr) (xs:List (Addr×K)):Prop:=∃ es ep t,h.get? a=some (SetObj es ep t)/\Tab t es/\es.toList.Perm (xs.map λx=>(knd.hash x.2,Value.ref x.1))
theorem Holds.setT {h:Heap}{a:Addr}{xs:List (Addr×K)} (H:Holds knd h a xs) (hk:∀ x∈xs,knd.is h x.2 x.1):∃ es ep t ks,SetT knd h a es ep t ks/\es.toList.Perm (xs.map λx=>(knd.hash x.2,Value.ref x.1))/\es.size=xs.length/\∀ i,i < es.size->ks i∈xs.map (·.2):=by
 obtain ⟨es,ep,t,ho,T,pm⟩:=H
 have ln:es.size=xs.length:=by have:=pm.length_eq;rw [Array.length_toList,zA] at this;exact this
 have pick:∀ i,∃ x:Addr×K,i < es.size->x∈xs/\es[i]?=some (knd.hash x.2,Value.ref x.1):=λi=>by
  by_cases hi:i < es.size
  ·have:=pm.mem_iff.mp (show es[i]∈es.toList from by simp)
   obtain ⟨x,hx,e⟩:=zp.mp this
   exact ⟨x,λ_=>⟨hx,by rw [Array.getElem?_eq_getElem hi,<- e]⟩⟩
  ·exact ⟨(0,default),λz=>absurd z hi⟩
 refine ⟨es,ep,t,λi=>((pick i).choose).2,⟨ho,T,λi hi=>?_⟩,pm,ln,λi hi=>zp.mpr ⟨_,((pick i).choose_spec hi).1,rfl⟩⟩
 obtain ⟨h1,h2⟩:=(pick i).choose_spec hi
 exact ⟨_,Option.some.inj ((Array.getElem?_eq_getElem hi).symm.trans h2),hk _ h1⟩
theorem Holds.move {h h':Heap}{a:Addr}{xs:List (Addr×K)} (H:Holds knd h a xs) (k:∀ o,h.get? a=some o->h'.get? a=some o):Holds knd h' a xs:=by
 obtain ⟨es,ep,t,ho,T,pm⟩:=H
 exact ⟨es,ep,t,k _ ho,T,pm⟩
section
variable {A:Around}{R:Result->Shared->Prop}{I:Addr}{fp wr:List Addr}{G:Array GenState->Array GenState->Prop}{n:Nat}{P:Nat->Value->Prop}{St:Nat->Shared->Prop} {h0:Heap}{xs:List (Addr×K)}
theorem loop (W:WalksS prog w A.in1 I fp wr G n P St) (S:Addr) (hSf:S ∉ fp) (hr:knd.room A.in1) (cl:∀ B (s':Shared),Calm knd B s') (hb:Hashy knd) (f0:h0.get? S=none) (f1:∀ b∈wr,h0.get? b=none) (isK:∀ h h' k b,Kp h h'->knd.is h k b->knd.is h' k b)
  (hn:xs.length=n) (few:n < 4000) (nd:(xs.map (·.2)).Nodup) (hx:∀ x∈xs,knd.is h0 x.2 x.1) (hv:∀ i v,P i v->∃ x,xs[i]?=some x/\v=.ref x.1) :
  ∀ (k i:Nat) (s:Shared),n - i=k->i<=n->St i s->Kp h0 s.heap->Holds knd s.heap S (xs.take i) ->
   (∀ s',Moved (S::wr) G s s'->Holds knd s'.heap S xs->R (.ok (.ret .none)) s')->codeAny (model prog w) A (.builtin "set.update.loop" ⟨[.ref S,.ref I],[]⟩) R s:=by
 have hSw:S ∉ wr:=λh=>hSf (W.sub _ h)
 have sub:∀ b∈wr,b∈S::wr:=λb hb=>zc _ hb
 intro k
 induction k with
 | zero=>
  intro i s hk hi hst kp hS hR
  obtain rfl:i=n:=by omega
  refine codeAny_builtin PyProof.Rows.F.entry_set_update_loop ?_
  rw [Around.under_plainId PyProof.Rows.F.plain_set_update_loop _]
  show wpAny _ A.in1 (pyNext (.ref I) >>= _) _ _ s
  refine wpAny_bind (W.done s _ _ hst λs' hm=>?_)
  show wpAny _ A.in1 (ret Value.none) _ _ s'
  rw [<-hn,zU] at hS
  exact wpAny_pure (hR s' (hm.mono sub) (hS.move λo e=>hm.heap S o hSw e))
 | succ k ih=>
  intro i s hk hi hst kp hS hR
  have lt:i < n:=by omega
  refine codeAny_builtin PyProof.Rows.F.entry_set_update_loop ?_
  rw [Around.under_plainId PyProof.Rows.F.plain_set_update_loop _]
  show wpAny _ A.in1 (pyNext (.ref I) >>= _) _ _ s
  refine wpAny_bind (W.item i s _ _ lt hst λv s' hP hst' hm=>?_)
  obtain ⟨x,hxi,rfl⟩:=hv i v hP
  have kp':Kp h0 s'.heap:=λb o e=>hm.heap b o (λz=>by rw [f1 b z] at e;cases e) (kp b o e)
  have hS':Holds knd s'.heap S (xs.take i):=hS.move λo e=>hm.heap S o hSw e
  have is':∀ y∈xs,knd.is s'.heap y.2 y.1:=λy hy=>isK _ _ _ _ kp' (hx y hy)
  obtain ⟨es,ep,t,ks,T,pm,ez,mem⟩:=hS'.setT λy hy=>is' y (ye hy)
  have hxm:=zB hxi
  show wpAny _ A.in1 (holding [Value.ref x.1] (setAdd S (.ref x.1)) >>= _) _ _ s'
  refine wpAny_bind (wpAny_holding ?_)
  unfold setAdd
  refine wpAny_holding ?_
  refine wpAny_bind (knd.pyHash hr (is' x hxm) ?_)
  refine add (s:={ s' with toks:=s'.toks + knd.draws x.2 }) hr ⟨T.obj,T.tab,T.keys⟩ (is' x hxm) (cl _ _) hb (by rw [ez,zT];omega) (λf=>?_) (λh' es' ep' t' nf sb go T' pm'=>?_)
  ·exfalso
   obtain ⟨j,hj,e⟩:=f
   have m1:=mem j hj
   rw [e,List.map_take] at m1
   obtain ⟨j',hj'⟩:=zn m1
   rw [List.getElem?_take] at hj'
   split at hj'
   ·rename_i lt'
    have e1:(xs.map (·.2))[i]?=some x.2:=by rw [zJ,hxi];rfl
    have:=(List.getElem?_inj (zH.mp hj').1 nd).mp (hj'.trans e1.symm)
    omega
   ·cases hj'
  ·have kp2:Kp h0 h':=λb o e=>by rw [sb.2 b (λz=>by rw [z,f0] at e;cases e)];exact kp' b o e
   refine wpAny_pure ⟨plainId_quiet PyProof.Rows.F.plain_set_update_loop _,ih (i + 1) _ (by omega) lt (W.frame _ s' _ _ hst' (ym _ _) λb hb' o e=>?_) kp2 ⟨es',ep',t',go,T',?_⟩ λs'' hm'' hS''=>?_⟩
   ·rw [sb.2 b (λz=>hSf (by rw [<-z];exact hb'))];exact e
   ·rw [List.take_add_one,hxi,zC]
    exact pm'.trans (pm.append_right _)
   ·refine hR s'' (Moved.trans W.gtrans ((hm.mono sub).then_heap (ym _ _) λb o hb' e=>?_) hm'') hS''
    rw [sb.2 b (λz=>hb' (by rw [z];exact zo))];exact e
end
section
variable {A:Around}{E:Value->Shared->Prop}{s:Shared}{xs:List (Addr×K)}
end
end
end SmSet
namespace L2
open PySem PySem.Spec PyProof.Rows
section
variable {X:Cx}
def oV:Option Int->V
 | none=>.non
 | some i=>.int i
end
end L2
namespace Sm
open PySem L2 SmSort
theorem xj {H:Hp}{l:Addr}{xs:List V} (h:H l=some (.tup xs)):tyS H (.ref l)=some "tuple" := by simp only [tyS,h]
theorem wF {H H':Hp}{x:V}{t:String} (s:Same H H') (h:tyS H x=some t):tyS H' x=some t:=by
 cases x with
 | ref a=>
  unfold tyS at h ⊢
  dsimp only at h ⊢
  cases e:H a with
  | none=>rw [e] at h;simp at h
  | some o=>rw [e] at h;rw [s a o e];exact h
 | _=>exact h
theorem ixN_nat {n k:Nat} (h:k < n):ixN n (k:Int)=some k:=by
 unfold ixN
 rw [if_pos (by omega),if_pos (by omega)];simp
end Sm
namespace Sm
open PySem L2 SmSort
abbrev Fn:=Nat->Option Int
def put (f:Fn) (k:Nat) (x:Option Int):Fn:=λi=>if i=k then x else f i
theorem put_same {f:Fn}{k:Nat}{x:Option Int}:put f k x k=x:=by unfold put;rw [if_pos rfl]
theorem put_ne {f:Fn}{k i:Nat}{x:Option Int} (h:i≠k):put f k x i=f i:=by unfold put;rw [if_neg h]
def lone (k:Nat) (x:Int):Fn:=λi=>if i=k then some x else none
def below (o:Option Int) (t:Int):Bool:=match o with
 | some y=>decide (y < t)
 | none=>false
theorem below_iff {o:Option Int}{t:Int}:below o t=true↔∃ y,o=some y/\y < t:=by
 cases o <;> simp [below]
def upto (o:Option Int) (t:Int):Bool:=match o with
 | some y=>decide (y<=t)
 | none=>false
structure W3 where
 g:Nat
 o:Nat
 t:Int
def two (m:M4):List W3:=[⟨m.lo.toNat,m.hi.toNat,m.t⟩,⟨m.hi.toNat,m.lo.toNat,m.t⟩]
def ways2 (ms:List M4):List W3:=ms.flatMap two
def fstep (st:Fn) (x:W3):Fn:=if st x.o=none/\below (st x.g) x.t=true then put st x.o (some x.t) else st
def fwd (ms:List M4) (st:Fn):Fn:=(ways2 ms).foldl fstep st
theorem fstep_some {st:Fn}{x:W3}{i:Nat}{y:Int} (h:st i=some y):fstep st x i=some y:=by
 unfold fstep
 split
 ·rename_i c
  by_cases e:i=x.o
  ·rw [e,c.1] at h;cases h
  ·rw [put_ne e];exact h
 ·exact h
def rep (n:Nat) (f:Fn):List (Option Int):=(List.range n).map f
structure W4 where
 n:Nat
 w:W3
def W4.vs (x:W4):List V:=[.int x.n,.int x.w.g,.int x.w.o,.int x.w.t]
def waysN (ms:List M4):Nat->List W4
 | 0=>[]
 | i + 1=>waysN ms i++(match ms[i]? with
  | some m=>[⟨i,⟨m.lo.toNat,m.hi.toNat,m.t⟩⟩,⟨i,⟨m.hi.toNat,m.lo.toNat,m.t⟩⟩]
  | none=>[])
theorem waysN_succ {ms:List M4}{i:Nat}{m:M4} (h:ms[i]?=some m):waysN ms (i + 1)=waysN ms i++[⟨i,⟨m.lo.toNat,m.hi.toNat,m.t⟩⟩,⟨i,⟨m.hi.toNat,m.lo.toNat,m.t⟩⟩]:=by
 conv=>lhs;unfold waysN
 rw [h]
def spWays:Sp:=λvs H Q _=>∃ b rooms tr tm ps,vs=[.ref b]/\BookAt H b rooms tr tm ps/\Good rooms.length (ps.map (·.2))/\∀ l (ws:List (Addr×W4)) H',H l=none->Same H H'->H' l=some (.lst (ws.map λa=>V.ref a.1))->(∀ a∈ws,H' a.1=some (.tup a.2.vs))->ws.map (·.2)=waysN (ps.map (·.2)) ps.length->Q (.ref l) H'
end Sm
namespace L2
open PySem PySem.Spec PyProof.Rows
section
variable {n:Nat}{caps:List Nat}{g:TG}{tc:TT}{te:TE}{σ:St}{H:Hp}{Qf:Addr->Hp->List V->Prop}
theorem comp_range {lo:Int}{m:Nat} (Pv:Nat->St->List V->Hp->Prop) (h0:Pv 0 (tau0 n caps σ) [] H) (hn:m<=1000) (hl:∀ i τ acc H,Pv i τ acc H->acc.length<=i)
  (hs:∀ i τ acc H (C:St->List V->Hp->Prop),i < m->Pv i τ acc H->(∀ τ acc H,Pv (i + 1) τ acc H->C τ acc H)->g (.int (lo + i)) τ H fun τ2 H2=>tc τ2 H2 λb H3=>if b=true then te τ2 H3 λy H4=>C τ2 (acc++[y]) H4 else C τ2 acc H3)
  (hd:∀ τ acc H,Pv m τ acc H->∀ p,H p=none->Qf p H acc) :
  ∃ W:Nat->Nat->St->List V->Hp->Prop,(∃ m,W 0 m (tau0 n caps σ) [] H)/\∀ i m' τ acc H,W i m' τ acc H ->
   ((Itr lo m).stop i H/\acc.length<=sizeLine/\∀ p,H p=none->Qf p H acc) \/
   ((Itr lo m).go i H/\acc.length < sizeLine/\∀ x H',(Itr lo m).yld i H x H'->g x τ H' fun τ2 H2=>tc τ2 H2 λb H3=>if b=true then te τ2 H3 λy H4=>∃ m'',m'' < m'/\W (i + 1) m'' τ2 (acc++[y]) H4 else ∃ m'',m'' < m'/\W (i + 1) m'' τ2 acc H3):=
 comp_of (J:=Itr lo m) Pv m h0 hn hl (λi τ acc H hi p=>hi) (fun τ acc H p=>zF _)
  (λi τ acc H C hi p c x H' y=>by obtain ⟨e1,e2⟩:=y;subst e1;subst e2;exact hs i τ acc _ C hi p c) hd
end
end L2
namespace Sm
open PySem L2 SmSort
def run (ws:List W3) (st:Fn):Fn:=ws.foldl fstep st
theorem run_keep:∀ {ws:List W3}{st:Fn}{i:Nat}{y:Int},st i=some y->run ws st i=some y
 | [],_,_,_,h=>h
 | w::ws,st,i,y,h=>run_keep (ws:=ws) (fstep_some h)
theorem run_from:∀ {ws:List W3}{st:Fn}{i:Nat}{t:Int},run ws st i=some t->st i=none->∃ x∈ws,x.o=i/\x.t=t/\∃ y,run ws st x.g=some y/\y < t
 | [],st,i,t,h,h0=>by
  have:st i=some t:=h
  rw [h0] at this;cases this
 | w::ws,st,i,t,h,h0=>by
  have h':run ws (fstep st w) i=some t:=h
  cases e:fstep st w i with
  | none=>
   obtain ⟨x,hx,a,b,y,hy,lt⟩:=run_from h' e
   exact ⟨x,.tail _ hx,a,b,y,hy,lt⟩
  | some z=>
   have z':=run_keep (ws:=ws) e
   rw [h'] at z';cases z'
   unfold fstep at e
   split at e
   ·rename_i c
    by_cases io:i=w.o
    ·subst io
     rw [put_same] at e;cases e
     obtain ⟨y,hy,lt⟩:=below_iff.mp c.2
     exact ⟨w,.head _,rfl,rfl,y,run_keep (ws:=w::ws) hy,lt⟩
    ·rw [put_ne io,h0] at e;cases e
   ·rw [h0] at e;cases e
end Sm
namespace L2
open PySem PySem.Spec PyProof.Rows
section
variable {X:Cx}{pins:List (Addr×Obj)}{σ:St}{H:Hp}{s:Shared}
theorem Inv.keptAll {m:Str->Option Value}{h':Heap}{tk:Nat} (I:Inv X pins σ H s) (F0:Fr X.base X.env.locals s.heap m) (F:Fr X.base X.env.locals h' m)
  (N:News X.base X.env.locals h' (allNews X.base s.heap X.env.locals)):Inv X pins σ H { s with heap:=h',toks:=tk }:=by
 have keep:∀ b o,b≠X.env.locals->s.heap.get? b=some o->h'.get? b=some o:=λb o hb e=>by
  cases q:X.base.get? b with
  | some u=>
   have:=I.bk b u q
   rw [e] at this;cases this
   exact F.keep b _ q
  | none=>exact (N (b,o) (mem_allNews hb q e)).1
 refine I.step (g':=s.gens) (t':=tk) (d':=s.drawn) (ch:=[]) (λ_ z=>nomatch z) (λb o hb _ _ e _=>keep b o hb e) (λb o hb _ _ e _=>⟨o.slots,keep b o hb e⟩) (λb o _ e n=>n) (λb o _ e=>?_)
  (λb ys e=>e) (λb o u e=>e) (λb ps e=>⟨#[],by rw [e,Array.append_empty]⟩) (λm' hm=>?_) (λb u e=>?_) I.bare
 ·by_cases hb:b=X.env.locals
  ·obtain ⟨o',_,_,q,_⟩:=F.ns
   exact ⟨o',by rw [hb];exact q⟩
  ·exact ⟨o,keep b o hb e⟩
 ·obtain ⟨o1,es1,ep1,e1,d1,k1,f1⟩:=hm
  obtain ⟨o2,es2,ep2,e2,d2,k2,f2⟩:=F0.ns
  rw [e1] at e2;cases e2
  rw [d1] at d2;cases d2
  obtain ⟨o3,es3,ep3,e3,d3,k3,f3⟩:=F.ns
  exact ⟨o3,es3,ep3,e3,d3,k3,λname=>(f3 name).trans ((f2 name).symm.trans (f1 name))⟩
 ·refine (I.hok b u e).stay (λc v hc q=>keep c v (λz=>?_) q) (λc q=>q) λc ys q=>q
  rcases hc with rfl | hc
  ·rw [z,I.free] at e;cases e
  ·rw [z,I.free] at hc;cases hc
theorem bools_of:∀ {bs:List Bool}{us:List Value},Vals (bs.map V.bl) us->LSm.BoolsAre us bs
 | [],us,r=>by cases r;exact .nil
 | b::bs,us,r=>by
  cases r with
  | cons x y=>
   cases x
   exact .cons b (bools_of y)
theorem call_all {K:PySem.W.Frag} (hK:X.K=K) (hc:X.calm=true):CallR X (.builtin "all") (λxs H Q=>∃ p,∃ bs:List Bool,xs=[.ref p]/\SqL K H p (bs.map V.bl)/\Q (.bl (bs.all id)) H):=by
 subst hK
 intro pins s σ H xs us Q I r h
 obtain ⟨p,bs,rfl,hq,q⟩:=h
 obtain ⟨u,rfl,rx⟩:=vals1 r
 cases rx
 obtain ⟨its,r',pl,hz⟩:=I.list hq
 obtain ⟨m,F⟩:=I.fr
 exact LSm.all_bools F (news_all (g:=X.base) (h:=s.heap)) (I.ok.hd hc) pl.isList (bools_of r') λh' tk F' N'=>⟨.bl _,H,I.keptAll F F' N',rfl,q⟩
end
end L2
namespace Sm
open PySem L2 SmSort
end Sm
namespace Sm
open PySem L2 SmSort
def Link (ms:List M4) (n g o:Nat) (t:Int):Prop:=∃ m,ms[n]?=some m/\m.t=t/\((m.lo.toNat=g/\m.hi.toNat=o)\/(m.lo.toNat=o/\m.hi.toNat=g))
theorem waysN_link {ms:List M4}:∀ {i:Nat}{x:W4},x∈waysN ms i->Link ms x.n x.w.g x.w.o x.w.t
 | 0,x,h=>by cases h
 | i + 1,x,h=>by
  unfold waysN at h
  rcases zX.mp h with h | h
  ·exact waysN_link h
  ·cases e:ms[i]? with
   | none=>rw [e] at h;cases h
   | some m=>
    rw [e] at h
    simp only [zE,zI,or_false] at h
    rcases h with rfl | rfl
    ·exact ⟨m,e,rfl,.inl ⟨rfl,rfl⟩⟩
    ·exact ⟨m,e,rfl,.inr ⟨rfl,rfl⟩⟩
end Sm
namespace L2
open PySem PySem.Spec PyProof.Rows
def IzL (K:PySem.W.Frag) (a b:Addr):It:=
 ⟨λi H=>∃ xs ys x y,SqL K H a xs/\SqL K H b ys/\xs[i]?=some x/\ys[i]?=some y,λi H v H'=>∃ p x y,H p=none/\v=.ref p/\H'=upd H p (.tup [x,y])/\∀ xs ys,SqL K H a xs->SqL K H b ys->xs[i]?=some x/\ys[i]?=some y,
  λi H=>∃ xs ys,SqL K H a xs/\SqL K H b ys/\(xs.length<=i\/ys.length<=i)⟩
theorem turn_zipL {P:Program}{w:World}{K:PySem.W.Frag}{es:List Expr}{k:Nat}{pos:Pos} (l1 l2 z TI TO i1 i2:Addr) (ap:ZipApart z TI TO i1 i2 l1 l2) :
  Turn P w K (.Tuple es k pos) (IzL K l1 l2) [z,TI,TO,i1,i2] z (λi h=>IsZip h z TI TO .none/\IsPair h TI (.ref i1) (.ref i2)/\(∃ a b,IsPair h TO a b)/\h.IsListIter i1 l1 i/\h.IsListIter i2 l2 i) where
 mem:=by simp
 obj:=λi h st b hb=>by
  obtain ⟨hz,hTI,⟨a,c,hTO⟩,⟨o1,g1,c1,d1⟩,⟨o2,g2,c2,d2⟩⟩:=st
  simp only [zE,zI,or_false] at hb
  rcases hb with e | e | e | e | e <;> subst e
  ·exact ⟨_,hz,λv q=>nomatch q⟩
  ·exact ⟨_,hTI,λv q=>nomatch q⟩
  ·exact ⟨_,hTO,λv q=>nomatch q⟩
  ·exact ⟨o1,g1,λv q=>by rw [d1] at q;cases q⟩
  ·exact ⟨o2,g2,λv q=>by rw [d2] at q;cases q⟩
 keep:=λi h h' st q=>by
  obtain ⟨hz,hTI,⟨a,c,hTO⟩,⟨o1,g1,r1⟩,⟨o2,g2,r2⟩⟩:=st
  exact ⟨q z (by simp) _ hz,q TI (by simp) _ hTI,⟨a,c,q TO (by simp) _ hTO⟩,⟨o1,q i1 (by simp) o1 g1,r1⟩,⟨o2,q i2 (by simp) o2 g2,r2⟩⟩
 item:=by
  intro X hP hw hK hc i pins s σ H E I hf st hg
  subst hP hw hK
  obtain ⟨xs,ys,x,y,hq1,hq2,hx,hy⟩:=hg
  obtain ⟨its1,rv1,p1,hz1⟩:=I.list hq1
  obtain ⟨its2,rv2,p2,hz2⟩:=I.list hq2
  obtain ⟨u,hu,ru⟩:=rv1.get hx
  obtain ⟨v,hv,rv⟩:=rv2.get hy
  obtain ⟨hZ,hTI,⟨a0,c0,hTO⟩,hi1,hi2⟩:=st
  have fp:=λb hb=>hf b hb
  have lt:∀ b,b∈[z,TI,TO,i1,i2]->b < s.heap.objs.size:=λb hb=>by
   simp only [zE,zI,or_false] at hb
   rcases hb with e | e | e | e | e <;> subst e
   ·exact Heap.lt_size hZ
   ·exact Heap.lt_size hTI
   ·exact Heap.lt_size hTO
   ·exact let ⟨_,z,_⟩:=hi1;Heap.lt_size z
   ·exact let ⟨_,z,_⟩:=hi2;Heap.lt_size z
  refine wpAny_pyNext_zip_item ap hZ hTI hTO hi1 hi2 p1.isList p2.isList (x:=u) (y:=v) (by simpa using hu) (by simpa using hv) λh1 hZ1 hTO1 hi1' hi2' hT hsz hk=>?_
  refine ⟨_,rfl,?_⟩
  refine wpAny_letOwnedTupleGo_zip hZ1 λh2 hZ2 hs2=>?_
  have hs2':Heap.SameBut z h1 h2:=hs2
  have old2:∀ b o,b ∉ [z,TO,i1,i2]->s.heap.get? b=some o->h2.get? b=some o:=λb o hb q=>by
   simp only [zE,zI,or_false,not_or] at hb
   exact hs2'.extBut b o hb.1 (hk b o hb.1 hb.2.1 hb.2.2.1 hb.2.2.2 q)
  have hT2:h2.get? s.heap.objs.size=some { cls:=.type "tuple", data:=.seq #[u,v] }:=hs2'.extBut _ _ (yS (lt z (by simp))) hT
  have nT:H s.heap.objs.size=none:=I.hok.fresh (zF _)
  have sub:∀ b,b∈[z,TO,i1,i2]->b∈[z,TI,TO,i1,i2]:=λb hb=>by
   simp only [zE,zI,or_false] at hb ⊢
   rcases hb with e | e | e | e <;> simp [e]
  refine ⟨.ref s.heap.objs.size,upd H s.heap.objs.size (.tup [x,y]),?_,rfl,⟨_,x,y,nT,rfl,rfl,λys' zs' h1 h2=>by rw [I.list_inj h1 hq1,I.list_inj h2 hq2];exact ⟨hx,hy⟩⟩,⟨hZ2,?_,⟨u,v,?_⟩,?_,?_⟩,λb hb=>?_⟩
  ·refine Inv.step (s:=s) (h':=h2) (g':=s.gens) (d':=s.drawn) (t':=s.toks) (ch:=[z,TO,i1,i2]) I (λb hb=>?_) (λb o _ _ hb q _=>old2 b o hb q) (λb o _ _ hb q _=>⟨o.slots,old2 b o hb q⟩)
    (λb o _ q n=>by rw [xH (zW (Heap.lt_size q))];exact n) (λb o hb q=>⟨o,old2 b o hb q⟩)
    (λb ys q=>by rw [xH (yz q nT)];exact q) (λb o v q=>by rw [xH (yz q nT)];exact q) (λb ps q=>⟨#[],by rw [xH (yz q nT),q];simp⟩)
    (λm hm=>by
     obtain ⟨o,es',ep,q,r⟩:=hm
     exact ⟨o,es',ep,old2 _ o (λhb=>(fp _ (sub _ hb)).2.1 rfl) q,r⟩) (λb v' q=>?_) I.bare
   ·obtain ⟨e0,e1,e2,e3,e4,e5⟩:=fp b (sub b hb)
    exact ⟨e3,e1,e4,e5⟩
   ·by_cases hb:b=s.heap.objs.size
    ·subst hb
     rw [yx] at q
     cases q
     exact ⟨⟨by show 2<=sizeLine;rw [sizeLine_eq];decide,λob e=>by rw [hT2] at e;cases e;rfl⟩,[u,v],.cons ru (.cons rv .nil),⟨_,hT2,rfl,_,rfl⟩⟩
    ·rw [xH hb] at q
     refine (I.hok b v' q).stay (λc ob hc qc=>old2 c ob (λhb=>?_) qc) (λc qc=>by rw [xH (yz qc nT)];exact qc) λc ys qc=>by rw [xH (yz qc nT)];exact qc
     have e0:=(fp c (sub c hb)).1
     rcases hc with z | z
     ·subst z;exact yz q e0 rfl
     ·exact yz z e0 rfl
  ·exact old2 _ _ (by simp only [zE,zI,or_false,not_or];exact ⟨ap.TIz,ap.TITO,ap.TIi1,ap.TIi2⟩) hTI
  ·exact hs2'.extBut _ _ ap.TOz hTO1
  ·obtain ⟨o,q,r⟩:=hi1'
   exact ⟨o,hs2'.extBut i1 o ap.i1z q,r⟩
  ·obtain ⟨o,q,r⟩:=hi2'
   exact ⟨o,hs2'.extBut i2 o ap.i2z q,r⟩
  ·rw [xH (zW (lt b hb))];exact (fp b hb).1
 done:=by
  intro X hP hw hK hc i pins s σ H E I hf st hg
  subst hP hw hK
  obtain ⟨xs,ys,hq1,hq2,hx⟩:=hg
  obtain ⟨its1,rv1,p1,hz1⟩:=I.list hq1
  obtain ⟨its2,rv2,p2,hz2⟩:=I.list hq2
  obtain ⟨hZ,hTI,⟨a0,c0,hTO⟩,hi1,hi2⟩:=st
  have l1':=rv1.length
  have l2':=rv2.length
  have sub:∀ b,b∈[z,TO,i1,i2]->b∈[z,TI,TO,i1,i2]:=λb hb=>by
   simp only [zE,zI,or_false] at hb ⊢
   rcases hb with e | e | e | e <;> simp [e]
  refine wpAny_pyNext_zip_end (I.ok.hd hc) ap hZ hTI hTO hi1 hi2 p1.isList p2.isList (by
   rcases hx with h | h
   ·exact .inl (by simp;omega)
   ·exact .inr (by simp;omega)) λh' hk=>⟨rfl,?_⟩
  have old2:∀ b o,b ∉ [z,TO,i1,i2]->s.heap.get? b=some o->h'.get? b=some o:=λb o hb q=>by
   simp only [zE,zI,or_false,not_or] at hb
   exact hk b o hb.1 hb.2.1 hb.2.2.1 hb.2.2.2 q
  refine Inv.step (s:=s) (h':=h') (g':=s.gens) (d':=s.drawn) (t':=s.toks) (ch:=[z,TO,i1,i2]) I (λb hb=>?_) (λb o _ _ hb q _=>old2 b o hb q) (λb o _ _ hb q _=>⟨o.slots,old2 b o hb q⟩)
    (λb o _ q n=>n) (λb o hb q=>⟨o,old2 b o hb q⟩)
    (λb ys q=>q) (λb o v q=>q) (λb ps q=>⟨#[],by rw [q];simp⟩)
    (λm hm=>by
     obtain ⟨o,es',ep,q,r⟩:=hm
     exact ⟨o,es',ep,old2 _ o (λhb=>(hf _ (sub _ hb)).2.1 rfl) q,r⟩) (λb v' q=>?_) I.bare
  ·obtain ⟨e0,e1,e2,e3,e4,e5⟩:=hf b (sub b hb)
   exact ⟨e3,e1,e4,e5⟩
  ·refine (I.hok b v' q).stay (λc ob hc qc=>old2 c ob (λhb=>?_) qc) (λc qc=>qc) λc ys qc=>qc
   have e0:=(hf c (sub c hb)).1
   rcases hc with z | z
   ·subst z;exact yz q e0 rfl
   ·exact yz z e0 rfl
 self:=λ_ _ _ _ _ st h=>wpAny_pyIter_zip st.1 h
def iZipL (K:PySem.W.Frag) (ta:TA):TI:=fun σ H R=>ta σ H λvs H1=>∃ a b,vs=[.ref a,.ref b]/\(∃ xs,SqL K H1 a xs)/\(∃ ys,SqL K H1 b ys)/\R (IzL K a b) H1
theorem wR {X:Cx}{a b:Expr}{ta:TA} {p pos pos2:Pos}{es:List Expr}{k:Nat}{K:PySem.W.Frag} (hK:X.K=K) (hg:Gl X "zip") (hm:X.mg "zip" = none) (ha:PA X [a,b] ta)
  (hs:starEach [a,b] X.env=(false,eval a X.env)::starEach [b] X.env:=by rfl) (hs2:starEach [b] X.env=[(false,eval b X.env)]:=by rfl) :
  PI X (.Tuple es k pos2) (.Call (.Name "zip" p) [a,b] [] pos) (iZipL K ta):=by
 subst hK
 intro pins s σ H R I h
 refine Call_ (ld_blt I hg hm boot_zip (zy (thn (ha pos pins s σ H _ I h) λus s1 ⟨vs,H1,I1,r1,q1⟩=>?_) (by rw [hs,hs2]) (by rw [hs2];rfl)))
 obtain ⟨l1,l2,e,⟨xs,hq1⟩,⟨ys,hq2⟩,q⟩:=q1
 subst e
 cases r1 with
 | cons r rr=>
  cases rr with
  | cons r' rr=>
   cases rr
   cases r
   cases r'
   obtain ⟨its1,rv1,p1,hz1⟩:=I1.list hq1
   obtain ⟨its2,rv2,p2,hz2⟩:=I1.list hq2
   have lt1:l1 < s1.heap.objs.size:=let ⟨_,z,_⟩:=p1.isList;Heap.lt_size z
   have lt2:l2 < s1.heap.objs.size:=let ⟨_,z,_⟩:=p2.isList;Heap.lt_size z
   refine call_zip_2 p1.isList p2.isList λh' hZ hTI hTO hi1 hi2 hsz hk=>?_
   refine wpAny_pyIter_zip hZ ?_
   have I2:Inv X pins σ H1 { s1 with heap:=h' }:=I1.kept (t':=s1.toks) hk
   refine ⟨s1.heap.objs.size + 4,[s1.heap.objs.size + 4,s1.heap.objs.size + 2,s1.heap.objs.size + 3,s1.heap.objs.size,s1.heap.objs.size + 1],_,_,H1,rfl,I2,turn_zipL l1 l2 _ _ _ _ _ (zipApart_new lt1 lt2),⟨hZ,hTI,⟨_,_,hTO⟩,hi1,hi2⟩,λb hb=>?_,q⟩
   have hb':s1.heap.objs.size<=b:=by
    simp only [zE,zI,or_false] at hb
    rcases hb with e | e | e | e | e <;> rw [e] <;> first | exact zF _ | exact ym _ _
   exact I1.fpOk hb' (I1.hok.fresh hb')
end L2
namespace L2
open PySem PySem.Spec PyProof.Rows
theorem wk {K:PySem.W.Frag}{a b:Addr}{xs ys:List V}{g:TG}{tb:TS}{D:Ends}{σ:St}{H:Hp} (el:xs.length=ys.length) (Pv:Nat->St->Hp->Prop) (h0:Pv 0 σ H) (hl:∀ i σ H,i<=xs.length->Pv i σ H->SqL K H a xs/\SqL K H b ys)
  (hs:∀ i x y q σ H,xs[i]?=some x->ys[i]?=some y->H q=none->Pv i σ H->g (.ref q) σ (upd H q (.tup [x,y])) fun σ2 H2=>tb (D.lp (Pv (i + 1))) σ2 H2) (hd:∀ σ H,Pv xs.length σ H->D.nx σ H) :
  ∃ W:Nat->Nat->St->Hp->Prop,(∃ m,W 0 m σ H)/\∀ i m σ H,W i m σ H ->
   ((IzL K a b).stop i H/\D.nx σ H)\/((IzL K a b).go i H/\∃ N:St->Hp->Prop,(∀ σ' H',N σ' H'->∃ m',m' < m/\W (i + 1) m' σ' H')/\∀ x H',(IzL K a b).yld i H x H'->g x σ H' fun σ2 H2=>tb (D.lp N) σ2 H2):=by
 refine ⟨λi m σ H=>m=xs.length - i/\i<=xs.length/\Pv i σ H,⟨xs.length,by simp,za _,h0⟩,?_⟩
 rintro i m σ H ⟨rfl,hi,p⟩
 obtain ⟨q1,q2⟩:=hl i σ H hi p
 by_cases hlt:i < xs.length
 ·refine .inr ⟨⟨xs,ys,xs[i],ys[i]'(by omega),q1,q2,by simp [hlt],by simp [<-el,hlt]⟩,Pv (i + 1),fun σ' H' p'=>⟨xs.length - (i + 1),by omega,rfl,hlt,p'⟩,λx H' y=>?_⟩
  obtain ⟨q',x',y',hq,e1,e2,y⟩:=y
  subst e1;subst e2
  exact hs i x' y' q' σ _ (y xs ys q1 q2).1 (y xs ys q1 q2).2 hq p
 ·have e:i=xs.length:=by omega
  subst e
  exact .inl ⟨⟨xs,ys,q1,q2,.inl (zF _)⟩,hd σ H p⟩
end L2
namespace Sm
open PySem L2 SmSort
theorem cut_drop (xs:List V) (k:Nat):cutV xs (some (k:Int)) none=xs.drop k:=by
 unfold cutV
 rw [HT.sIx_nat]
 show (xs.drop (min k xs.length)).take (xs.length - min k xs.length)=xs.drop k
 by_cases h:k<=xs.length
 ·rw [Nat.min_eq_left h,List.take_of_length_le (by rw [yH];exact zF _)]
 ·rw [Nat.min_eq_right (by omega),List.drop_eq_nil_of_le (by omega),List.drop_eq_nil_of_le (by omega),List.take_nil]
end Sm
namespace L2
open PySem
theorem iteN {c:Bool}{A:Prop}{D:Ends}{σ:St}{H:Hp} (Pre:St->Hp->Prop) (k:∀ σ H,Pre σ H->D.nx σ H) (h1:c=true->(∀ σ H,Pre σ H->D.nx σ H)->A) (h2:c=false->Pre σ H):if c=true then A else tNext D σ H:=by
 cases c with
 | true=>exact h1 rfl k
 | false=>exact k _ _ (h2 rfl)
end L2
namespace Sm
open PySem L2 SmSort
theorem Go.free {p l:Addr}{H H':Hp} (g:Go p H H') (h:H' l=none) (np:l≠p):H l=none:=by
 cases e:H l with
 | none=>rfl
 | some u=>rw [g.1 l u np e] at h;cases h
end Sm
namespace Sm
open PySem L2 SmSort
def jstep (row F:Fn) (x:W3):Fn:=if below (row x.g) x.t=true/\upto (F x.o) x.t=false then put F x.o (some x.t) else F
def jac (ws:List W3) (row:Fn):Fn:=ws.foldl (jstep row) row
def jrow (ws:List W3) (row:Fn):Nat->Fn
 | 0=>row
 | k + 1=>jac ws (jrow ws row k)
def rk (ws:List W3):Option Int->Nat
 | none=>ws.length + 1
 | some y=>ws.countP λx=>decide (x.t < y)
end Sm
namespace Sm
open PySem L2 SmSort
structure Rows (H0 H:Hp) (ms:List M4) (n k:Nat) (x:Int) (as:List Addr):Prop where
 pos:as≠[]
 few:as.length<=200000
 at':∀ (i:Nat) (a:Addr),as[i]?=some a->H0 a=none/\H a=some (.lst ((rep n (jrow (ways2 ms) (lone k x) i)).map oV))
 ne:∀ i,i + 1 < as.length->rep n (jrow (ways2 ms) (lone k x) (i + 1))≠rep n (jrow (ways2 ms) (lone k x) i)
 last:rep n (jrow (ways2 ms) (lone k x) as.length)=rep n (jrow (ways2 ms) (lone k x) (as.length - 1))
end Sm
namespace L2
open PySem PySem.Spec PyProof.Rows
section
variable {K:PySem.W.Frag}{a:Addr}{xs:List V}{n:Nat}{caps:List Nat}{g:TG}{tc:TT}{te:TE}{σ:St}{H:Hp}{Qf:Addr->Hp->List V->Prop}
end
end L2
namespace Sm
open PySem L2 SmSort
end Sm
namespace Sm
open PySem L2 SmSort
end Sm
namespace Sm
open PySem L2
end Sm
namespace Sm
open PySem L2 SmSort
end Sm
namespace Sm
open PySem L2 SmSort
end Sm
namespace Sm
open PySem L2 SmSort
theorem cut_one (xs:List V) (i:Nat) (h:i < xs.length):cutV xs (some 1) (some ((i:Int) + 1))=(xs.drop 1).take i:=by
 have e:((i:Int) + 1)=((i + 1:Nat):Int):=by omega
 rw [e,show (some (1:Int))=some ((1:Nat):Int) from rfl]
 unfold cutV
 rw [HT.sIx_nat,HT.sIx_nat]
 show (xs.drop (min 1 xs.length)).take (min (i + 1) xs.length - min 1 xs.length)=_
 rw [Nat.min_eq_left (by omega),Nat.min_eq_left (by omega),Nat.add_sub_cancel]
end Sm
namespace Sm
open PySem L2 SmSort
def again (ms:List M4) (day first:Int):Nat->List M4
 | 0=>[]
 | r + 1=>again ms day first r++ms.map (M4.late ((first + r) * day))
end Sm
namespace L2
open PySem PySem.Spec PyProof.Rows
section
variable {X:Cx}{tg:Expr}
end
end L2
namespace L2
open PySem PySem.Spec PyProof.Rows
section
variable {X:Cx}
theorem call_any {K:PySem.W.Frag} (hK:X.K=K) (hc:X.calm=true):CallR X (.builtin "any") (λxs H Q=>∃ p,∃ bs:List Bool,xs=[.ref p]/\SqL K H p (bs.map V.bl)/\Q (.bl (bs.any id)) H):=by
 subst hK
 intro pins s σ H xs us Q I r h
 obtain ⟨p,bs,rfl,hq,q⟩:=h
 obtain ⟨u,rfl,rx⟩:=vals1 r
 cases rx
 obtain ⟨its,r',pl,hz⟩:=I.list hq
 obtain ⟨m,F⟩:=I.fr
 exact LSm.any_bools F (news_all (g:=X.base) (h:=s.heap)) (I.ok.hd hc) pl.isList (bools_of r') λh' tk F' N'=>⟨.bl _,H,I.keptAll F F' N',rfl,q⟩
end
end L2
namespace HT
open PySem PySem.Spec PyProof.Rows
section
variable {prog:Program}{w:World}{A:Around}{E:Value->Shared->Prop}{s:Shared}
end
end HT
namespace L2
open PySem PySem.Spec PyProof.Rows
section
variable {X:Cx}
end
end L2
namespace L2
open PySem PySem.Spec PyProof.Rows
section
variable {X:Cx}{pins:List (Addr×Obj)}{σ:St}{H:Hp}{s:Shared}
theorem wZ {xs:List V}{us:List Value} (r:Vals xs us) {j:Nat} (h:j < us.toArray.size):∃ x,xs[j]?=some x/\RelV x us.toArray[j]:=by
 have hl:=r.length
 simp only [zP] at h
 have a1:j < xs.length:=by omega
 obtain ⟨u,eu,ru⟩:=r.get (i:=j) (x:=xs[j]) (by simp [a1])
 have e1:us.toArray[j]=u:=by rw [List.getElem_toArray];exact Option.some.inj ((zG h).symm.trans eu)
 exact ⟨xs[j],by simp [a1],by rw [e1];exact ru⟩
end
end L2
namespace L2
open PySem PySem.Spec PyProof.Rows
def Eqv (K:PySem.W.Frag) (H:Hp):Nat->V->V->Bool->Prop
 | 0,x,y,b=>(x=y/\(∃ a,x=.ref a)/\b=true)\/(flatV x=true/\flatV y=true/\b=eqV x y)
 | n + 1,x,y,b=>(x=y/\(∃ a,x=.ref a)/\b=true)\/(flatV x=true/\flatV y=true/\b=eqV x y)\/∃ (a c:Addr) (xs ys:List V) (e:Nat->Bool),x=.ref a/\y=.ref c/\((SqL K H a xs/\SqL K H c ys)\/(SqT K H a xs/\SqT K H c ys))/\(a=c->b=true)/\b=(decide (xs.length=ys.length) && (List.range xs.length).all e)/\∀ (i:Nat) (x y:V),xs[i]?=some x->ys[i]?=some y->Eqv K H n x y (e i)
section
variable {X:Cx}{pins:List (Addr×Obj)}{σ:St}{H:Hp}{s:Shared}
theorem eqv_base {A:Around}{x y:V}{b:Bool}{u v:Value} (h:(x=y/\(∃ a,x=.ref a)/\b=true)\/(flatV x=true/\flatV y=true/\b=eqV x y)) (ru:RelV x u) (rv:RelV y v):SeqAt.EqAt A s u v b:=by
 rcases h with ⟨rfl,⟨a,rfl⟩,rfl⟩ | ⟨h1,h2,rfl⟩
 ·cases ru;cases rv
  exact SeqAt.EqAt.same _
 ·exact eqAt_V (A:=A) (s:=s) ru rv h1 h2
theorem eqv_eq (I:Inv X pins σ H s):∀ (n:Nat) {A:Around}{x y:V}{b:Bool}{u v:Value},A.units + n < cLine->Eqv X.K H n x y b->RelV x u->RelV y v->SeqAt.EqAt A s u v b:=by
 intro n
 induction n with
 | zero=>intro A x y b u v hu h ru rv;exact eqv_base h ru rv
 | succ n ih=>
  intro A x y b u v hu h ru rv
  rcases h with h | h | ⟨a,c,xs,ys,e,rfl,rfl,h,hs,hb,hi⟩
  ·exact eqv_base (.inl h) ru rv
  ·exact eqv_base (.inr h) ru rv
  ·cases ru;cases rv
   by_cases ne:a=c
   ·rw [hs ne,ne];exact SeqAt.EqAt.same _
   refine SeqAt.EqAt.of_refs ne ?_
   have hu2:(A.units + 1) + n < cLine:=by omega
   rcases h with ⟨h1,h2⟩ | ⟨h1,h2⟩
   ·obtain ⟨its,r1,p1,_⟩:=I.list h1
    obtain ⟨its2,r2,p2,_⟩:=I.list h2
    have l1:=r1.length
    have l2:=r2.length
    by_cases hl:xs.length=ys.length
    ·have:=SeqAt.RcAt.lists (A:=A) (e:=e) p1.isList p2.isList (by simp;omega) (by omega) λj h1 h2=>by
      obtain ⟨x,ex,rx⟩:=wZ r1 h1
      obtain ⟨y,ey,ry⟩:=wZ r2 h2
      exact ih hu2 (hi j x y ex ey) rx ry
     rw [hb,decide_eq_true hl,zQ,l1]
     simpa using this
    ·rw [hb,decide_eq_false hl,yE]
     exact SeqAt.RcAt.lists_lengths (A:=A) p1.isList p2.isList (by simp;omega) (by omega)
   ·obtain ⟨its,r1,p1,_⟩:=I.tuple h1
    obtain ⟨its2,r2,p2,_⟩:=I.tuple h2
    have l1:=r1.length
    have l2:=r2.length
    have:=SeqAt.RcAt.tuples (A:=A) (e:=e) p1 p2 (by omega) λj h1 h2=>by
     obtain ⟨x,ex,rx⟩:=wZ r1 h1
     obtain ⟨y,ey,ry⟩:=wZ r2 h2
     exact ih hu2 (hi j x y ex ey) rx ry
    by_cases hl:xs.length=ys.length
    ·rw [hb,decide_eq_true hl,zQ,l1]
     have e1:its2.length=its.length:=by omega
     simpa [e1] using this
    ·rw [hb,decide_eq_false hl,yE]
     have e1:¬ its.length=its2.length:=by omega
     have e2:(its.toArray.size == its2.toArray.size)=false:=by simp [e1]
     rw [e2,yM] at this
     exact this
def rEqv (K:PySem.W.Frag) (neg:Bool):R2:=λx y H Q=>∃ (n:Nat) (a c:Addr) (xs ys:List V) (e:Nat->Bool) (b:Bool),n<=20/\x=.ref a/\y=.ref c/\((SqL K H a xs/\SqL K H c ys)\/(SqT K H a xs/\SqT K H c ys))/\b=(decide (xs.length=ys.length) && (List.range xs.length).all e)/\(∀ (i:Nat) (x y:V),xs[i]?=some x->ys[i]?=some y->Eqv K H n x y (e i))/\Q (.bl (if neg then !b else b)) H
theorem op_eqE (hu:X.A.units + 64 < cLine):OpR X (compareOp .Eq) (rEqv X.K false):=by
 intro pins s σ H x y v u Q I rx ry h
 obtain ⟨n,a,c,xs,ys,e,b,hn,rfl,rfl,h,hb,hi,q⟩:=h
 cases rx;cases ry
 rw [if_neg (by decide),hb] at q
 rcases h with ⟨h1,h2⟩ | ⟨h1,h2⟩
 ·obtain ⟨its,r1,p1,_⟩:=I.list h1
  obtain ⟨its2,r2,p2,_⟩:=I.list h2
  have l1:=r1.length
  have l2:=r2.length
  by_cases hl:xs.length=ys.length
  ·rw [decide_eq_true hl,zQ,l1] at q
   exact SeqAt.RcAt.lists (e:=e) p1.isList p2.isList (by simp;omega) (by omega) (λj h1 h2=>by
    obtain ⟨x,ex,rx⟩:=wZ r1 h1
    obtain ⟨y,ey,ry⟩:=wZ r2 h2
    exact eqv_eq I n (by show X.A.units + 1 + n < cLine;omega) (hi j x y ex ey) rx ry) _ _ _ _ ⟨.bl _,H,I,rfl,by simpa using q⟩
  ·rw [decide_eq_false hl,yE] at q
   exact SeqAt.RcAt.lists_lengths p1.isList p2.isList (by simp;omega) (by omega) _ _ _ _ ⟨.bl _,H,I,rfl,q⟩
 ·obtain ⟨its,r1,p1,_⟩:=I.tuple h1
  obtain ⟨its2,r2,p2,_⟩:=I.tuple h2
  have l1:=r1.length
  have l2:=r2.length
  have key:((List.range (min its.toArray.size its2.toArray.size)).all e && its.toArray.size == its2.toArray.size)=(decide (xs.length=ys.length) && (List.range xs.length).all e):=by
   by_cases hl:xs.length=ys.length
   ·have e1:its2.length=its.length:=by omega
    rw [decide_eq_true hl,zQ,l1];simp [e1]
   ·have e1:¬ its.length=its2.length:=by omega
    rw [decide_eq_false hl,yE];simp [e1]
  rw [<-key] at q
  exact SeqAt.RcAt.tuples (e:=e) p1 p2 (by omega) (λj h1 h2=>by
   obtain ⟨x,ex,rx⟩:=wZ r1 h1
   obtain ⟨y,ey,ry⟩:=wZ r2 h2
   exact eqv_eq I n (by show X.A.units + 1 + n < cLine;omega) (hi j x y ex ey) rx ry) _ _ _ _ ⟨.bl _,H,I,rfl,q⟩
theorem op_neE (hu:X.A.units + 64 < cLine):OpR X (compareOp .NotEq) (rEqv X.K true):=by
 intro pins s σ H x y v u Q I rx ry h
 obtain ⟨n,a,c,xs,ys,e,b,hn,rfl,rfl,h,hb,hi,q⟩:=h
 cases rx;cases ry
 rw [if_pos rfl,hb] at q
 rcases h with ⟨h1,h2⟩ | ⟨h1,h2⟩
 ·obtain ⟨its,r1,p1,_⟩:=I.list h1
  obtain ⟨its2,r2,p2,_⟩:=I.list h2
  have l1:=r1.length
  have l2:=r2.length
  by_cases hl:xs.length=ys.length
  ·rw [decide_eq_true hl,zQ,l1] at q
   exact SeqAt.RcNeAt.lists (e:=e) p1.isList p2.isList (by simp;omega) (by omega) (λj h1 h2=>by
    obtain ⟨x,ex,rx⟩:=wZ r1 h1
    obtain ⟨y,ey,ry⟩:=wZ r2 h2
    exact eqv_eq I n (by show X.A.units + 1 + n < cLine;omega) (hi j x y ex ey) rx ry) _ _ _ _ ⟨.bl _,H,I,rfl,by simpa using q⟩
  ·rw [decide_eq_false hl,yE] at q
   exact SeqAt.RcNeAt.lists_lengths p1.isList p2.isList (by simp;omega) (by omega) _ _ _ _ ⟨.bl _,H,I,rfl,q⟩
 ·obtain ⟨its,r1,p1,_⟩:=I.tuple h1
  obtain ⟨its2,r2,p2,_⟩:=I.tuple h2
  have l1:=r1.length
  have l2:=r2.length
  have key:((List.range (min its.toArray.size its2.toArray.size)).all e && its.toArray.size == its2.toArray.size)=(decide (xs.length=ys.length) && (List.range xs.length).all e):=by
   by_cases hl:xs.length=ys.length
   ·have e1:its2.length=its.length:=by omega
    rw [decide_eq_true hl,zQ,l1];simp [e1]
   ·have e1:¬ its.length=its2.length:=by omega
    rw [decide_eq_false hl,yE];simp [e1]
  rw [<-key] at q
  exact SeqAt.RcNeAt.tuples (e:=e) p1 p2 (by omega) (λj h1 h2=>by
   obtain ⟨x,ex,rx⟩:=wZ r1 h1
   obtain ⟨y,ey,ry⟩:=wZ r2 h2
   exact eqv_eq I n (by show X.A.units + 1 + n < cLine;omega) (hi j x y ex ey) rx ry) _ _ _ _ ⟨.bl _,H,I,rfl,q⟩
end
theorem eqV_int (x y:Int):eqV (.int x) (.int y)=decide (x=y):=rfl
end L2
namespace L2
open PySem PySem.Spec PyProof.Rows
section
variable {X:Cx}
theorem int_items:∀ {ns:List Int}{its:List Value},Vals (ns.map V.int) its->∃ xs:List (Int×Tok),its=xs.map (λp=>Value.int p.1 p.2)/\xs.map (·.1)=ns
 | [],_,r=>by cases r;exact ⟨[],rfl,rfl⟩
 | n::ns,_,r=>by
  cases r with
  | cons r1 rr=>
   obtain ⟨t,rfl⟩:=r1
   obtain ⟨xs,rfl,e⟩:=int_items rr
   exact ⟨(n,t)::xs,rfl,by rw [zt,e]⟩
end
end L2
namespace Sm
open PySem L2 SmSort
end Sm
namespace Sm
open PySem L2 SmSort
def mx:Option Int->Option Int->Option Int
 | none,b=>b
 | some a,none=>some a
 | some a,some b=>some (if b > a then b else a)
theorem ahead {n:Nat}{ms:List M4}{m:M4} (g:Good n (ms++[m])) {v:Nat}{x y:Int}{i:Nat} (hi:i≠v) (h:fwd ms (lone v x) i=some y):y<=m.t/\((i=m.lo.toNat\/i=m.hi.toNat)->y < m.t):=by
 obtain ⟨a,ha,ao,at',_⟩:=run_from (ws:=ways2 ms) h (by simp [lone,hi])
 unfold ways2 at ha
 obtain ⟨c,hc,hx⟩:=List.mem_flatMap.mp ha
 have od:=(List.pairwise_append.mp g.order).2.2 c hc m (by simp)
 obtain ⟨c1,c2,c3,_⟩:=g.each c (by simp [hc])
 obtain ⟨m1,m2,m3,_⟩:=g.each m (by simp)
 unfold two at hx
 simp only [zE,zI,or_false] at hx
 have ct:c.t=y:=by rcases hx with rfl | rfl <;> exact at'
 have ci:i=c.lo.toNat\/i=c.hi.toNat:=by
  rcases hx with rfl | rfl
  ·exact .inr ao.symm
  ·exact .inl ao.symm
 refine ⟨by rcases od with h | h <;> omega,λhm=>?_⟩
 rcases od with h | ⟨h1,h2,h3,h4,h5,h6⟩
 ·omega
 ·exfalso
  rcases ci with e | e <;> rcases hm with e' | e' <;> omega
end Sm
namespace L2
open PySem PySem.Spec PyProof.Rows
section
variable {X:Cx}{pins:List (Addr×Obj)}{σ:St}{H:Hp}{s:Shared}
theorem ps_setComp {ix:Nat}{xn:Str}{pos' spos:Pos}{own:List Str}{caps:List Nat}{elt tg iter:Expr}{ifs:List Expr}{scope:Scope}{pos:Pos}{wi:TI}{g:TG}{tc:TT}{te:TE} (hN:X.N.Nodup) (hix:X.N[ix]?=some xn) (hxl:locB X.env.scope xn=true) (hc:X.calm=true) (S:CompScope own caps X.N X.env.scope scope) (hi:PI X tg iter wi)
  (hg:∀ s H fp C,PG (cxComp X own caps scope s H fp C) tg g) (ht:∀ s H fp C,PTs (cxComp X own caps scope s H fp C) ifs tc) (he:∀ s H fp C,PE (cxComp X own caps scope s H fp C) elt te)
  (hs:∀ x,foldedSetIterable iter X.env x=pure x:=by intro _;rfl) (hsw:swapsWith (.ListComp elt [⟨tg,iter,ifs,0⟩] scope pos) (some (.Name xn pos')) spos.line X.env=pure true:=by rfl)
  (hf:fnLoc X xn=true:=by rfl) :
  PS X (.Assign [.Name xn pos'] (.ListComp elt [⟨tg,iter,ifs,0⟩] scope pos) spos) (tAsg (tComp own.length caps wi g tc te) (gName ix)):=by
 have hxl:=locB_of hxl
 intro pins s σ H D0 I h
 rw [exec_Assign_Name_used _ _ _ _ hsw,arm_evalThenUse_ListComp]
 suffices main:wpAny (model X.prog X.w) X.A (comprehension (.ListComp elt [⟨tg,iter,ifs,0⟩] scope pos) scope X.env (firstIterPos [⟨tg,iter,ifs,0⟩] pos) (newList []) false (eval iter X.env) (some (assign (.Name xn pos') X.env))) (λ_ s1=>SP X pins D0 .next s1) X.xe s from
  wpAny_bind (wpAny_standAt (wpAny_bind (wpAny_bind (wpAny_mono main (λ_ s1 h=>wpAny_pure (wpAny_pure h)) λ_ _ e=>e))))
 refine wpAny_comprehension_free (use:=some _) (cl:=clOf scope.names X.env []) rfl hs (closureFor_eq λy hy e=>I.ok.has y.1 (S.fr y hy e)) S.kind S.loc
  (wpAny_mono (hi pins s σ H _ I h) (λv s1 h1=>thn h1 λitv s2 h2=>?_) λ_ _ e=>e)
 obtain ⟨it,fp,tn,J,H2,e,I2,T,st2,f2,W,⟨m0,w0⟩,turn⟩:=h2
 subst e
 refine wpAny_newObj_type (wpAny_newFunctionEnv S.nocell (by intro y hy;simp at hy) (λh₁ hns₁ hsb₁=>?_) S.kind)
 dsimp only at hns₁ hsb₁ ⊢
 generalize hH2:s2.heap.push { cls:=.type "list", dict:=none,data:=.seq ([]:List Value).toArray }=G at hns₁ hsb₁ ⊢
 have hG:G.objs.size=s2.heap.objs.size + 1:=by rw [<-hH2,Heap.size_push]
 have hDC:s2.heap.objs.size≠G.objs.size:=by rw [hG];exact zW (Nat.lt_succ_self _)
 have hCle:s2.heap.objs.size<=G.objs.size:=by rw [hG];exact yp _
 have below:∀ b,b < s2.heap.objs.size->b≠G.objs.size:=λb hb=>by rw [hG];exact zW (yk hb)
 have old:∀ b o,s2.heap.get? b=some o->h₁.get? b=some o:=λb o e=>hsb₁.extBut b o (below b (Heap.lt_size e)) (Heap.get?_push_of_some _ (hH2 ▸ Heap.get?_push_of_some _ e))
 have hacc:h₁.get? s2.heap.objs.size=some { cls:=.type "list", dict:=none,data:=.seq ([]:List Value).toArray }:=hsb₁.extBut _ _ hDC (Heap.get?_push_of_some _ (hH2 ▸ Heap.get?_push_size _ rfl))
 have fl:∀ b∈fp,b < s2.heap.objs.size:=λb hb=>let ⟨o,e,_⟩:=T.obj _ _ st2 b hb;Heap.lt_size e
 have hns₁':h₁.Ns G.objs.size λ_=>none:=hns₁
 have I4:=inv_comp (tk:=s2.toks + ([]:List (Str×Value)).length) I2 S f2 fl (zF _) hCle hDC old hns₁' hacc (λv z=>nomatch z)
 have st4:tn 0 h₁:=T.keep _ _ _ st2 λb _ o e=>old b o e
 generalize hs4:({ s2 with heap:=h₁,toks:=s2.toks + ([]:List (Str×Value)).length }:Shared)=s4 at I4 ⊢
 have e4:s4.heap=h₁:=by rw [<-hs4]
 rw [<-e4] at st4
 -- the loop
 have loop:codeAny (model X.prog X.w) X.A (.compLoop (.ListComp elt [⟨tg,iter,ifs,0⟩] scope pos) 0 (.ref it) (.ref s2.heap.objs.size) (compEnvC scope (clOf scope.names X.env []) G.objs.size X.env))
   (compPost (model X.prog X.w) X.A X.xe (some (assign (.Name xn pos') X.env)) (λ_ s1=>SP X pins D0 .next s1) (.ref s2.heap.objs.size) G.objs.size) s4:=by
  let Y:=cxComp X own caps scope s2 H2 fp G.objs.size
  have stat:∀ {H':Hp}{its:List Value}{n:Nat},(∀ b∈fp,H' b=none)->∀ b∈fp,FpOk Y [(s2.heap.objs.size,({ cls:=.type "list", data:=.seq its.toArray n }:Obj))] H' b:=λ{H' its n} hn b hb=>by
   refine ⟨hn b hb,below b (fl b hb),λz=>?_,.inl hb,λx c e=>(f2 b hb).2.2.2.2.1 x c (xi e),λp hp=>?_⟩
   ·rcases zE.mp (I2.stkSub b z) with e | e
    ·exact (f2 b hb).2.1 e
    ·exact (f2 b hb).2.2.1 e
   ·have e:p=(s2.heap.objs.size,({ cls:=.type "list", data:=.seq its.toArray n }:Obj)):=by simpa using (show p∈[]++[_] from hp)
    subst e
    exact yS (fl b hb)
  refine loop_comp (λn s'=>∃ i τ acc its k H',Inv Y [(s2.heap.objs.size,({ cls:=.type "list", data:=.seq its.toArray k }:Obj))] τ H' s'/\tn i s'.heap/\(∀ b∈fp,H' b=none)/\Vals acc its/\W i n τ acc H') ?_ m0
   ⟨0,_,[],[],0,H2,I4,st4,λb hb=>(f2 b hb).1,.nil,w0⟩
  rintro n s5 ⟨i,τ,acc,its,k,H5,I5,st5,fr5,rv5,w5⟩
  rcases turn i n τ acc H5 w5 with ⟨stop,hz,q⟩ | ⟨go,hz,step⟩
  ·refine thn (T.done Y rfl rfl rfl hc i _ s5 τ H5 (λ_ _=>False) I5 (stat fr5) st5 stop) λr s6 ⟨hr,I6⟩=>?_
   subst hr
   obtain ⟨eD,nD,_,_,_⟩:=I6.pin _ (zD _ (zM.mpr rfl))
   obtain ⟨m6,hm6,_⟩:=I6.loc
   have hC6:H5 G.objs.size=none:=I6.free
   have hok6:HOk X.prog X.w H5 s6.heap:=I6.hok
   have ub:=I6.base
   have IX:Inv X pins σ (upd H5 s2.heap.objs.size (.lst acc)) s6:=by
    refine I2.call' (ch:=fp) (s':=s6) I6.os ⟨λb o e n' hb hx=>ub.keep b o e n' hb hx,λb o e n' hb hx=>?_,λb o e n' hx=>?_,λb o e hx=>?_,λb xs e=>?_,λb o u e=>?_,λb ps e=>?_⟩
     (hok6.track nD ⟨hz,its,k,rv5,eD⟩) I6.bare λb hb=>⟨(f2 b hb).2.2.2.1,(f2 b hb).2.1,(f2 b hb).2.2.2.2.1,(f2 b hb).2.2.2.2.2⟩
    ·exact ub.slot b o e n' hb hx
    ·rw [xH (zW (Heap.lt_size e))]
     exact ub.free b o e n' hx
    ·exact ub.there b o e hx
    ·have z:=ub.tups b xs e
     rw [xH (yz z nD)];exact z
    ·have z:=ub.frzs b o u e
     rw [xH (yz z nD)];exact z
    ·obtain ⟨more,z⟩:=ub.tbls b ps e
     exact ⟨more,by rw [xH (yz z nD)];exact z⟩
   have hCX:(upd H5 s2.heap.objs.size (.lst acc)) G.objs.size=none:=by rw [xH (Ne.symm hDC)];exact hC6
   have fC:FpOk X pins (upd H5 s2.heap.objs.size (.lst acc)) G.objs.size:=I2.fpOk hCle hCX
   obtain ⟨oC,esC,epC,gC,dC,rC⟩:=hm6
   have IP:=IX.pinned (fp:=[G.objs.size]) (λb hb=>by cases zM.mp hb;exact fC) (λb hb=>by cases zM.mp hb;exact ⟨oC,gC,λv z=>by rw [dC] at z;cases z⟩)
   refine wpAny_assign_Name (store_ok IP hN hix hxl (v:=.ref s2.heap.objs.size) rfl (λs7 I7=>?_) hf)
   have pC:=(I7.pin (G.objs.size,oC) (zD _ (zD _ (xk (zM.mpr rfl) gC)))).1
   refine ⟨m6,⟨oC,esC,epC,pC,dC,rC⟩,λh' hsb=>?_⟩
   have I8:Inv X pins (σ.set ix (some (.ref s2.heap.objs.size))) (upd H5 s2.heap.objs.size (.lst acc)) { s7 with heap:=h' }:=I7.unpinned.turned (t':=s7.toks) (λb o hb e=>hsb.extBut b o hb e) fC.1 fC.2.1 fC.2.2.2.1 fC.2.2.2.2.1 fC.2.2.2.2.2
   exact ⟨_,_,I8,q _ nD⟩
  ·refine thn (T.item Y rfl rfl rfl hc i _ s5 τ H5 (λ_ _=>False) I5 (stat fr5) st5 go) λr s6 ⟨u,hr,h6⟩=>?_
   subst hr
   refine thn h6 λ_ s7 ⟨x,H7,I7,r7,y7,st7,fr7⟩=>?_
   have I7':=I7.pinned (stat fr7) (T.obj _ _ st7)
   refine thn (hg s2 H2 fp G.objs.size _ s7 τ H7 x u _ I7' r7 (step x H7 y7)) λ_ s8 ⟨τ8,H8,I8,q8⟩=>?_
   refine thn (ht s2 H2 fp G.objs.size _ s8 τ8 H8 _ I8 q8) λok s9 ⟨H9,I9,q9⟩=>?_
   -- the iterator's state behind the turn
   have back:∀ {s':Shared}{τ':St}{H':Hp},Inv Y ([(s2.heap.objs.size,({ cls:=.type "list", data:=.seq its.toArray k }:Obj))]++pinsAt fp s7.heap) τ' H' s'->(tn (i + 1) s'.heap/\∀ b∈fp,H' b=none):=λ{s' τ' H'} Ib=>
    ⟨T.keep _ _ _ st7 λb hb o e=>(Ib.pin (b,o) (zD _ (zD _ (xk hb e)))).1,λb hb=>by
     obtain ⟨o,e,d⟩:=T.obj _ _ st7 b hb
     exact (Ib.pin (b,o) (zD _ (zD _ (xk hb e)))).2.1⟩
   cases ok with
   | false=>
    obtain ⟨m',hm',w'⟩:=q9
    obtain ⟨sb,fb⟩:=back I9
    exact ⟨m',hm',i + 1,τ8,acc,its,k,H9,I9.unpinned,sb,fb,rv5,w'⟩
   | true=>
    refine thn (he s2 H2 fp G.objs.size _ s9 τ8 H9 _ I9 q9) λy s10 ⟨yv,H10,I10,r10,q10⟩=>?_
    obtain ⟨m',hm',w'⟩:=q10
    obtain ⟨sb,fb⟩:=back I10
    obtain ⟨eD,nD,neD,nfD,_⟩:=I10.pin (s2.heap.objs.size,_) (zD _ (zq _ (zM.mpr rfl)))
    have hl:acc.length=its.length:=rv5.length
    refine call_meets F.slot_list_append ⟨_,eD,rfl⟩ F.entry_list_append (F.args_list_append_2 _ _) (PySem.list_append s2.heap.objs.size its.toArray k y (by rw [zP];omega)) ⟨eD,?_⟩
    have q:=PySem.IsL.update eD (λa:Array Value=>a.push y)
    have Iu:Inv Y [] τ8 H10 s10:=I10.pins_of λp hp=>nomatch hp
    have It:=Iu.turned (t':=s10.toks) (it:=s2.heap.objs.size) (h':=s10.heap.update s2.heap.objs.size (Obj.mapSeq (λa:Array Value=>a.push y))) (λb o hb e=>(Heap.get?_update_other s10.heap _ (Ne.symm hb)).trans e) nD neD (.inr (zF _))
     (λx c e z=>by
      obtain ⟨v,ob,hob,_⟩:=I2.cell x c (xi e)
      exact absurd (Heap.lt_size hob) (by rw [z];exact yL _)) (λp hp=>nomatch hp)
    have It':=It.pins_of (pins':=[(s2.heap.objs.size,({ cls:=.type "list", data:=.seq (its++[y]).toArray (k + 1) }:Obj))]) λp hp=>by
     have e:p=_:=zM.mp hp
     subst e
     exact ⟨by simpa using q,nD,neD,nfD,λv z=>nomatch z⟩
    refine ⟨m',hm',i + 1,τ8,acc++[yv],its++[y],_,H10,It',T.keep _ _ _ sb λb hb o e=>(Heap.get?_update_other s10.heap _ (yS (fl b hb))).trans e,fb,rv5.append (.cons r10 .nil),w'⟩
 exact codeAny_compStart_list loop (T.self _ 0 s4 _ _ st4 loop)
end
end L2
namespace L2
open PySem PySem.Spec PyProof.Rows
section
variable {n:Nat}{caps:List Nat}{σ:St}{H:Hp}{g:TG}{tc:TT}{te:TE}{Qf:Addr->Hp->List V->Prop}{K:PySem.W.Frag}{a b:Addr}{xs ys:List V}
theorem comp_zipL (el:xs.length=ys.length) (Pv:Nat->St->List V->Hp->Prop) (h0:Pv 0 (tau0 n caps σ) [] H) (hn:xs.length<=1000) (hl:∀ i τ acc H,Pv i τ acc H->acc.length<=i/\SqL K H a xs/\SqL K H b ys)
  (hs:∀ i x y q τ acc H (C:St->List V->Hp->Prop),xs[i]?=some x->ys[i]?=some y->H q=none->Pv i τ acc H->(∀ τ acc H,Pv (i + 1) τ acc H->C τ acc H)->g (.ref q) τ (upd H q (.tup [x,y])) fun τ2 H2=>tc τ2 H2 λb H3=>if b=true then te τ2 H3 λy H4=>C τ2 (acc++[y]) H4 else C τ2 acc H3)
  (hd:∀ τ acc H,Pv xs.length τ acc H->∀ p,H p=none->Qf p H acc) :
  ∃ W:Nat->Nat->St->List V->Hp->Prop,(∃ m,W 0 m (tau0 n caps σ) [] H)/\∀ i m τ acc H,W i m τ acc H ->
   ((IzL K a b).stop i H/\acc.length<=sizeLine/\∀ p,H p=none->Qf p H acc) \/
   ((IzL K a b).go i H/\acc.length < sizeLine/\∀ x H',(IzL K a b).yld i H x H'->g x τ H' fun τ2 H2=>tc τ2 H2 λb H3=>if b=true then te τ2 H3 λy H4=>∃ m',m' < m/\W (i + 1) m' τ2 (acc++[y]) H4 else ∃ m',m' < m/\W (i + 1) m' τ2 acc H3):=
 comp_of (J:=IzL K a b) Pv xs.length h0 hn (λi τ acc H p=>(hl i τ acc H p).1) (λi τ acc H hi p=>⟨xs,ys,xs[i],ys[i]'(by omega),(hl i τ acc H p).2.1,(hl i τ acc H p).2.2,by simp [hi],by simp [<-el,hi]⟩) (fun τ acc H p=>⟨xs,ys,(hl _ τ acc H p).2.1,(hl _ τ acc H p).2.2,.inl (zF _)⟩)
  (λi τ acc H C hi p c x H' y=>by obtain ⟨q,x',y',hq,e1,e2,y⟩:=y;subst e1;subst e2;exact hs i x' y' q τ acc _ C (y xs ys (hl i τ acc _ p).2.1 (hl i τ acc _ p).2.2).1 (y xs ys (hl i τ acc _ p).2.1 (hl i τ acc _ p).2.2).2 hq p c) hd
end
section
variable {X:Cx}
end
end L2
namespace Sm
open PySem L2 SmSort
end Sm
namespace Sm
open PySem L2 SmSort
theorem iteO {c:Bool}{A B:Prop}{D:Ends}{σ:St}{H:Hp} (Pre:St->Hp->Prop) (k:∀ σ H,Pre σ H->D.nx σ H) (h1:c=true->(∀ σ H,Pre σ H->D.nx σ H)->A) (h2:c=false->(∀ σ H,Pre σ H->D.nx σ H)->B):if c=true then (if true=true then A else tNext D σ H) else B:=by
 cases c with
 | true=>exact h1 rfl k
 | false=>exact h2 rfl k
theorem iteA {c:Bool} {T2 A:Prop}{D:Ends}{σ:St}{H:Hp} (Pre:St->Hp->Prop) (k:∀ σ H,Pre σ H->D.nx σ H) (h1:c=true->(∀ σ H,Pre σ H->D.nx σ H)->T2) (h2:c=false->Pre σ H):if c=true then T2 else (if false=true then A else tNext D σ H):=by
 cases c with
 | true=>exact h1 rfl k
 | false=>exact k _ _ (h2 rfl)
end Sm
namespace L2
open PySem PySem.Spec PyProof.Rows
section
variable {prog:Program}{w:World}{A:Around}{E:Value->Shared->Prop}{s:Shared}
structure ZD (prog:Program) (w:World) (A:Around) (z TI TO i1 i2:Addr) (fp1 fp2:List Addr) (n:Nat) (P1 P2:Nat->Value->Prop) (S1 S2:Nat->Heap->Prop):Prop where
 d1:Draws prog w A i1 fp1 n P1 S1
 d2:Draws prog w A i2 fp2 n P2 S2
 ne:TI≠z/\TO≠z/\i1≠z/\i2≠z/\TI≠TO/\TI≠i1/\TI≠i2/\TO≠i1/\TO≠i2/\i1≠i2
 f1:z ∉ fp1/\TO ∉ fp1/\i2 ∉ fp1
 f2:z ∉ fp2/\TO ∉ fp2/\i1 ∉ fp2
variable {z TI TO i1 i2:Addr} {fp1 fp2:List Addr}{n:Nat} {P1 P2:Nat->Value->Prop} {S1 S2:Nat->Heap->Prop}
theorem keep_of {fp:List Addr}{a:Addr}{h h':Heap} (n:a ∉ fp) (x:Heap.SameBut a h h'):∀ b∈fp,∀ o,h.get? b=some o->h'.get? b=some o:=λb hb o e=>x.extBut b o (λq=>n (q ▸ hb)) e
theorem zd_item {k:Nat}{a b:Value}{Q:Value->Shared->Prop} (D:ZD prog w A z TI TO i1 i2 fp1 fp2 n P1 P2 S1 S2) (hk:k < n)
  (hz:IsZip s.heap z TI TO .none) (hTI:IsPair s.heap TI (.ref i1) (.ref i2)) (hTO:IsPair s.heap TO a b) (t1:S1 k s.heap) (t2:S2 k s.heap)
  (hQ:∀ x y h' tk,P1 k x->P2 k y->IsZip h' z TI TO (rawInt s.heap.objs.size)->IsPair h' TO x y->S1 (k + 1) h'->S2 (k + 1) h'->IsPair h' s.heap.objs.size x y->h'.objs.size=s.heap.objs.size + 1 ->
   (∀ c o,c≠z->c≠TO->c≠i1->c≠i2->s.heap.get? c=some o->h'.get? c=some o)->Q (.ref s.heap.objs.size) { s with heap:=h',toks:=tk })
  (w1:∀ b∈fp1,b < s.heap.objs.size) (w2:∀ b∈fp2,b < s.heap.objs.size) :
  wpAny (model prog w) A (Builtin.«zip.__next__» ⟨[.ref z],[]⟩) (λfin s'=>∃ v,fin=.done (.ret v)/\Q v s') E s:=by
 obtain ⟨n1,n2,n3,n4,n5,n6,n7,n8,n9,n10⟩:=D.ne
 show wpAny _ _ (field (.ref z) 2 >>= _) _ _ _
 refine wpAny_bind (wpAny_field hz rfl (x:=.bool false) rfl ?_)
 show wpAny _ _ (field (.ref z) 3 >>= _) _ _ _
 refine wpAny_bind (wpAny_field hz rfl (x:=.ref TI) rfl (wpAny_bind (wpAny_seqItems hTI rfl ?_)))
 show wpAny _ _ (Builtin.SmallTypes.ownedTupleIsFree (.ref z) >>= _) _ _ _
 refine wpAny_bind ?_
 unfold Builtin.SmallTypes.ownedTupleIsFree
 refine wpAny_bind (wpAny_field hz rfl (x:=.none) rfl (wpAny_pure ?_))
 simp only [if_true]
 refine wpAny_bind (wpAny_rule (wpAny_bind (wpAny_field hz rfl (x:=.ref TO) rfl (wpAny_bind (wpAny_setField_rec hz (by simp) λh1 hz1 e1=>wpAny_bind ?_)))))
 replace hz1:IsZip h1 z TI TO .ellipsis:=hz1
 simp only [List.zipIdx_cons,List.zipIdx_nil,List.forIn_cons,List.forIn_nil]
 refine wpAny_bind (wpAny_bind (wpAny_onRaise (show wpAny _ _ (Builtin.SmallTypes.nextOf (.ref i1) >>= _) _ _ _ from wpAny_bind (D.d1.item k _ _ _ hk (D.d1.frame _ _ _ t1 (keep_of D.f1.1 e1)) λx h2 tk2 px u1 e2=>wpAny_pure ?_))))
 have o2:IsPair h2 TO a b:=e2.extBut _ _ n8 (e1.extBut _ _ n2 hTO)
 refine wpAny_bind (wpAny_seqItems o2 rfl (wpAny_bind (wpAny_updateSeq_pair o2 λh3 o3 e3=>wpAny_bind (wpAny_letGo (wpAny_pure ?_)))))
 replace o3:IsPair h3 TO x b:=o3
 refine wpAny_bind (wpAny_bind (wpAny_onRaise (show wpAny _ _ (Builtin.SmallTypes.nextOf (.ref i2) >>= _) _ _ _ from wpAny_bind (D.d2.item k _ _ _ hk (D.d2.frame _ _ _ (D.d2.frame _ _ _ (D.d2.frame _ _ _ t2 (keep_of D.f2.1 e1)) (keep_of D.f2.2.2 e2)) (keep_of D.f2.2.1 e3)) λy h4 tk4 py u2 e4=>wpAny_pure ?_))))
 have o4:IsPair h4 TO x b:=e4.extBut _ _ n9 o3
 refine wpAny_bind (wpAny_seqItems o4 rfl (wpAny_bind (wpAny_updateSeq_pair o4 λh5 o5 e5=>wpAny_bind (wpAny_letGo (wpAny_pure (wpAny_pure ?_))))))
 replace o5:IsPair h5 TO x y:=o5
 refine wpAny_bind (wpAny_seqItems o5 rfl (wpAny_bind (wpAny_newTuple ?_)))
 have sz:h5.objs.size=s.heap.objs.size:=by rw [e5.1,e4.1,e3.1,e2.1,e1.1]
 have z5:IsZip h5 z TI TO .ellipsis:=e5.extBut _ _ n2.symm (e4.extBut _ _ n4.symm (e3.extBut _ _ n2.symm (e2.extBut _ _ n3.symm hz1)))
 have old:∀ c o,c≠z->c≠TO->c≠i1->c≠i2->s.heap.get? c=some o->h5.get? c=some o:=λc o c1 c2 c3 c4 e=>
  e5.extBut _ _ c2 (e4.extBut _ _ c4 (e3.extBut _ _ c2 (e2.extBut _ _ c3 (e1.extBut _ _ c1 e))))
 have v1:S1 (k + 1) h5:=D.d1.frame _ _ _ (D.d1.frame _ _ _ (D.d1.frame _ _ _ u1 (keep_of D.f1.2.1 e3)) (keep_of D.f1.2.2 e4)) (keep_of D.f1.2.1 e5)
 have v2:S2 (k + 1) h5:=D.d2.frame _ _ _ u2 (keep_of D.f2.2.1 e5)
 have zl:z < h5.objs.size:=Heap.lt_size z5
 show wpAny _ _ (Builtin.SmallTypes.ownedTupleHandOut (.ref z) (.ref h5.objs.size) >>= _) _ _ _
 refine wpAny_bind ?_
 unfold Builtin.SmallTypes.ownedTupleHandOut
 have z6:IsZip (h5.push { cls:=.type "tuple", data:=.seq #[x,y] }) z TI TO .ellipsis:=Heap.get?_push_of_some _ z5
 refine wpAny_bind (wpAny_setField_rec z6 (by simp) λh7 z7 e7=>?_)
 replace z7:IsZip h7 z TI TO (rawInt h5.objs.size):=z7
 refine wpAny_setField_rec z7 (by simp) λh8 z8 e8=>wpAny_pure ⟨_,rfl,?_⟩
 replace z8:IsZip h8 z TI TO (rawInt h5.objs.size):=z8
 have up:∀ c o,c≠z->h5.get? c=some o->h8.get? c=some o:=λc o c1 e=>e8.extBut _ _ c1 (e7.extBut _ _ c1 (Heap.get?_push_of_some _ e))
 have t8:IsPair h8 h5.objs.size x y:=e8.extBut _ _ (yS zl) (e7.extBut _ _ (yS zl) (Heap.get?_push_size _ rfl))
 have s8:h8.objs.size=h5.objs.size + 1:=by rw [e8.1,e7.1,Heap.size_push]
 rw [sz] at z8 t8 s8
 show Q (.ref h5.objs.size) _
 rw [sz]
 exact hQ x y h8 _ px py z8 (up _ _ n2 o5) (D.d1.frame _ _ _ v1 λb hb o e=>up b o (λq=>D.f1.1 (q ▸ hb)) e) (D.d2.frame _ _ _ v2 λb hb o e=>up b o (λq=>D.f2.1 (q ▸ hb)) e) t8 s8 λc o c1 c2 c3 c4 e=>up c o c1 (old c o c1 c2 c3 c4 e)
theorem zd_end {a b:Value}{Q:PySem.Fin->Shared->Prop} (D:ZD prog w A z TI TO i1 i2 fp1 fp2 n P1 P2 S1 S2)
  (hz:IsZip s.heap z TI TO .none) (hTI:IsPair s.heap TI (.ref i1) (.ref i2)) (hTO:IsPair s.heap TO a b) (t1:S1 n s.heap)
  (hE:∀ h' e,(∀ c o,c≠z->c≠TO->c≠i1->c≠i2->s.heap.get? c=some o->h'.get? c=some o)->(∃ o,h'.get? e=some o/\o.cls=.type "StopIteration")->E (.ref e) { s with heap:=h' }) :
  wpAny (model prog w) A (Builtin.«zip.__next__» ⟨[.ref z],[]⟩) Q E s:=by
 obtain ⟨n1,n2,n3,n4,n5,n6,n7,n8,n9,n10⟩:=D.ne
 show wpAny _ _ (field (.ref z) 2 >>= _) _ _ _
 refine wpAny_bind (wpAny_field hz rfl (x:=.bool false) rfl ?_)
 show wpAny _ _ (field (.ref z) 3 >>= _) _ _ _
 refine wpAny_bind (wpAny_field hz rfl (x:=.ref TI) rfl (wpAny_bind (wpAny_seqItems hTI rfl ?_)))
 show wpAny _ _ (Builtin.SmallTypes.ownedTupleIsFree (.ref z) >>= _) _ _ _
 refine wpAny_bind ?_
 unfold Builtin.SmallTypes.ownedTupleIsFree
 refine wpAny_bind (wpAny_field hz rfl (x:=.none) rfl (wpAny_pure ?_))
 simp only [if_true]
 refine wpAny_bind (wpAny_rule (wpAny_bind (wpAny_field hz rfl (x:=.ref TO) rfl (wpAny_bind (wpAny_setField_rec hz (by simp) λh1 hz1 e1=>wpAny_bind ?_)))))
 replace hz1:IsZip h1 z TI TO .ellipsis:=hz1
 simp only [List.zipIdx_cons,List.zipIdx_nil,List.forIn_cons,List.forIn_nil]
 refine wpAny_bind (wpAny_bind (wpAny_onRaise (show wpAny _ _ (Builtin.SmallTypes.nextOf (.ref i1) >>= _) _ _ _ from wpAny_bind (D.d1.done _ _ _ (D.d1.frame _ _ _ t1 (keep_of D.f1.1 e1)) λh2 e e2 he=>?_))))
 obtain ⟨oe,hoe,hce⟩:=he
 have z2:IsZip h2 z TI TO .ellipsis:=e2 _ _ n3.symm hz1
 have hez:e≠z:=λx=>by subst x;rw [z2] at hoe;cases hoe;simp at hce
 exact wpAny_setField_rec z2 (by simp) λh3 _ e3=>hE h3 e (λc o c1 _ c3 _ x=>e3.extBut _ _ c1 (e2 _ _ c3 (e1.extBut _ _ c1 x))) ⟨oe,e3.extBut _ _ hez hoe,hce⟩
end
end L2
namespace L2
open PySem PySem.Spec PyProof.Rows
section
variable {prog:Program}{w:World}{A:Around}{E:Value->Shared->Prop}{s:Shared}
variable {z TI TO i1 i2:Addr} {fp1 fp2:List Addr}{n:Nat} {P1 P2:Nat->Value->Prop} {S1 S2:Nat->Heap->Prop}
theorem zdn_item {k:Nat}{a b:Value}{Q:Option Value->Shared->Prop} (D:ZD prog w A.in1 z TI TO i1 i2 fp1 fp2 n P1 P2 S1 S2) (hk:k < n)
  (hz:IsZip s.heap z TI TO .none) (hTI:IsPair s.heap TI (.ref i1) (.ref i2)) (hTO:IsPair s.heap TO a b) (t1:S1 k s.heap) (t2:S2 k s.heap)
  (hQ:∀ x y h' tk,P1 k x->P2 k y->IsZip h' z TI TO (rawInt s.heap.objs.size)->IsPair h' TO x y->S1 (k + 1) h'->S2 (k + 1) h'->IsPair h' s.heap.objs.size x y->h'.objs.size=s.heap.objs.size + 1 ->
   (∀ c o,c≠z->c≠TO->c≠i1->c≠i2->s.heap.get? c=some o->h'.get? c=some o)->Q (some (.ref s.heap.objs.size)) { s with heap:=h',toks:=tk })
  (w1:∀ b∈fp1,b < s.heap.objs.size) (w2:∀ b∈fp2,b < s.heap.objs.size) :
  wpAny (model prog w) A (pyNext (.ref z)) Q E s:=by
 have hT:s.TypeIs (.ref z) "zip" := ⟨_,hz,rfl⟩
 unfold pyNext
 exact wpAny_bind (wpAny_attempt (wpAny_callSpecial?_slot (name:=Str.ofString "__next__") hT F.slot_zip_next
  (wpAny_call_entry F.slot_zip_next hT F.entry_zip_next
   (zd_item D hk hz hTI hTO t1 t2 (λx y h' tk a0 a00 a1 a2 a3 a4 a5 a6 a7=>wpAny_pure (hQ x y h' tk a0 a00 a1 a2 a3 a4 a5 a6 a7)) w1 w2) (F.args_zip_next_1 _))))
theorem zdn_end {a b:Value}{Q:Option Value->Shared->Prop} (D:ZD prog w A.in1 z TI TO i1 i2 fp1 fp2 n P1 P2 S1 S2)
  (hz:IsZip s.heap z TI TO .none) (hTI:IsPair s.heap TI (.ref i1) (.ref i2)) (hTO:IsPair s.heap TO a b) (t1:S1 n s.heap)
  (hQ:∀ h',(∀ c o,c≠z->c≠TO->c≠i1->c≠i2->s.heap.get? c=some o->h'.get? c=some o)->Q none { s with heap:=h' }):wpAny (model prog w) A (pyNext (.ref z)) Q E s:=by
 have hT:s.TypeIs (.ref z) "zip" := ⟨_,hz,rfl⟩
 unfold pyNext
 refine wpAny_bind (wpAny_attempt (wpAny_callSpecial?_slot (name:=Str.ofString "__next__") hT F.slot_zip_next
  (wpAny_call_entry F.slot_zip_next hT F.entry_zip_next (zd_end D hz hTI hTO t1 λh' e hk he=>?_) (F.args_zip_next_1 _))))
 obtain ⟨o,ho,hc⟩:=he
 exact wpAny_bind (wpAny_isInstance (T := "StopIteration") (b:=true) ⟨o,ho,hc⟩ isSubtype_stop (wpAny_pure (hQ _ hk)))
end
abbrev ZN (z TI TO i1 i2:Addr):Prop:=TI≠z/\TO≠z/\i1≠z/\i2≠z/\TI≠TO/\TI≠i1/\TI≠i2/\TO≠i1/\TO≠i2/\i1≠i2
section
variable {K:PySem.W.Frag}{a b:Addr}{xs ys:List V}{n:Nat}{caps:List Nat}{g:TG}{tc:TT}{te:TE}{σ:St}{H:Hp}{Qf:Addr->Hp->List V->Prop}
end
end L2
namespace Sm
open PySem L2 SmSort
theorem ixt {K:PySem.W.Frag}{H:Hp}{a:Addr}{xs:List V}{i:Int}{v:V}{Q:V->Prop} (h:H a=some (.tup xs)) (hi:atI xs i=some v) (q:Q v):∃ p xs' i' v',V.ref a=.ref p/\V.int i=.int i'/\SqT K H p xs'/\atI xs' i'=some v'/\Q v':=⟨a,xs,i,v,rfl,rfl,SqT.of h,hi,q⟩
theorem ixl {K:PySem.W.Frag}{H:Hp}{a:Addr}{xs:List V}{i:Int}{v:V}{Q:V->Prop} (h:H a=some (.lst xs)) (hi:atI xs i=some v) (q:Q v):∃ p xs' i' v',V.ref a=.ref p/\V.int i=.int i'/\SqL K H p xs'/\atI xs' i'=some v'/\Q v':=⟨a,xs,i,v,rfl,rfl,SqL.of h,hi,q⟩
theorem usC {P:List Value->Prop}{us:List Value}{n:Nat} (h:us.length=n + 1) (q:∀ a r,r.length=n->P (a::r)):P us:=by
 cases us with
 | nil=>cases h
 | cons a r=>exact q a r (Nat.succ.inj h)
theorem usN {P:List Value->Prop}{us:List Value} (h:us.length=0) (q:P []):P us:=by rw [List.eq_nil_of_length_eq_zero h];exact q
theorem us1 {fd:FuncData}{ps:List Str}{us:List Value} (h:us.length=1) (q:∀ a,bindArgs fd ⟨[a],[]⟩=pure (ps.zip [a])):bindArgs fd ⟨us,[]⟩=pure (ps.zip us):=usC (P:=λus=>bindArgs fd ⟨us,[]⟩=pure (ps.zip (us))) h λa us h=>usN (P:=λus=>bindArgs fd ⟨a::us,[]⟩=pure (ps.zip (a::us))) h (q a)
theorem us2 {fd:FuncData}{ps:List Str}{us:List Value} (h:us.length=2) (q:∀ a b,bindArgs fd ⟨[a,b],[]⟩=pure (ps.zip [a,b])):bindArgs fd ⟨us,[]⟩=pure (ps.zip us):=usC (P:=λus=>bindArgs fd ⟨us,[]⟩=pure (ps.zip (us))) h λa us h=>usC (P:=λus=>bindArgs fd ⟨a::us,[]⟩=pure (ps.zip (a::us))) h λb us h=>usN (P:=λus=>bindArgs fd ⟨a::b::us,[]⟩=pure (ps.zip (a::b::us))) h (q a b)
theorem us3 {fd:FuncData}{ps:List Str}{us:List Value} (h:us.length=3) (q:∀ a b c,bindArgs fd ⟨[a,b,c],[]⟩=pure (ps.zip [a,b,c])):bindArgs fd ⟨us,[]⟩=pure (ps.zip us):=usC (P:=λus=>bindArgs fd ⟨us,[]⟩=pure (ps.zip (us))) h λa us h=>usC (P:=λus=>bindArgs fd ⟨a::us,[]⟩=pure (ps.zip (a::us))) h λb us h=>usC (P:=λus=>bindArgs fd ⟨a::b::us,[]⟩=pure (ps.zip (a::b::us))) h λc us h=>usN (P:=λus=>bindArgs fd ⟨a::b::c::us,[]⟩=pure (ps.zip (a::b::c::us))) h (q a b c)
theorem us4 {fd:FuncData}{ps:List Str}{us:List Value} (h:us.length=4) (q:∀ a b c d,bindArgs fd ⟨[a,b,c,d],[]⟩=pure (ps.zip [a,b,c,d])):bindArgs fd ⟨us,[]⟩=pure (ps.zip us):=usC (P:=λus=>bindArgs fd ⟨us,[]⟩=pure (ps.zip (us))) h λa us h=>usC (P:=λus=>bindArgs fd ⟨a::us,[]⟩=pure (ps.zip (a::us))) h λb us h=>usC (P:=λus=>bindArgs fd ⟨a::b::us,[]⟩=pure (ps.zip (a::b::us))) h λc us h=>usC (P:=λus=>bindArgs fd ⟨a::b::c::us,[]⟩=pure (ps.zip (a::b::c::us))) h λd us h=>usN (P:=λus=>bindArgs fd ⟨a::b::c::d::us,[]⟩=pure (ps.zip (a::b::c::d::us))) h (q a b c d)
theorem us5 {fd:FuncData}{ps:List Str}{us:List Value} (h:us.length=5) (q:∀ a b c d e,bindArgs fd ⟨[a,b,c,d,e],[]⟩=pure (ps.zip [a,b,c,d,e])):bindArgs fd ⟨us,[]⟩=pure (ps.zip us):=usC (P:=λus=>bindArgs fd ⟨us,[]⟩=pure (ps.zip (us))) h λa us h=>usC (P:=λus=>bindArgs fd ⟨a::us,[]⟩=pure (ps.zip (a::us))) h λb us h=>usC (P:=λus=>bindArgs fd ⟨a::b::us,[]⟩=pure (ps.zip (a::b::us))) h λc us h=>usC (P:=λus=>bindArgs fd ⟨a::b::c::us,[]⟩=pure (ps.zip (a::b::c::us))) h λd us h=>usC (P:=λus=>bindArgs fd ⟨a::b::c::d::us,[]⟩=pure (ps.zip (a::b::c::d::us))) h λe us h=>usN (P:=λus=>bindArgs fd ⟨a::b::c::d::e::us,[]⟩=pure (ps.zip (a::b::c::d::e::us))) h (q a b c d e)
theorem ex5 {α0 α1 α2 α3 α4:Type}{P:α0->α1->α2->α3->α4->Prop} (x0:α0) (x1:α1) (x2:α2) (x3:α3) (x4:α4) (h:P x0 x1 x2 x3 x4):∃ y0:α0,∃ y1:α1,∃ y2:α2,∃ y3:α3,∃ y4:α4,P y0 y1 y2 y3 y4:=⟨x0,x1,x2,x3,x4,h⟩
theorem ex6 {α0 α1 α2 α3 α4 α5:Type}{P:α0->α1->α2->α3->α4->α5->Prop} (x0:α0) (x1:α1) (x2:α2) (x3:α3) (x4:α4) (x5:α5) (h:P x0 x1 x2 x3 x4 x5):∃ y0:α0,∃ y1:α1,∃ y2:α2,∃ y3:α3,∃ y4:α4,∃ y5:α5,P y0 y1 y2 y3 y4 y5:=⟨x0,x1,x2,x3,x4,x5,h⟩
theorem ex7 {α0 α1 α2 α3 α4 α5 α6:Type}{P:α0->α1->α2->α3->α4->α5->α6->Prop} (x0:α0) (x1:α1) (x2:α2) (x3:α3) (x4:α4) (x5:α5) (x6:α6) (h:P x0 x1 x2 x3 x4 x5 x6):∃ y0:α0,∃ y1:α1,∃ y2:α2,∃ y3:α3,∃ y4:α4,∃ y5:α5,∃ y6:α6,P y0 y1 y2 y3 y4 y5 y6:=⟨x0,x1,x2,x3,x4,x5,x6,h⟩
theorem ex8 {α0 α1 α2 α3 α4 α5 α6 α7:Type}{P:α0->α1->α2->α3->α4->α5->α6->α7->Prop} (x0:α0) (x1:α1) (x2:α2) (x3:α3) (x4:α4) (x5:α5) (x6:α6) (x7:α7) (h:P x0 x1 x2 x3 x4 x5 x6 x7):∃ y0:α0,∃ y1:α1,∃ y2:α2,∃ y3:α3,∃ y4:α4,∃ y5:α5,∃ y6:α6,∃ y7:α7,P y0 y1 y2 y3 y4 y5 y6 y7:=⟨x0,x1,x2,x3,x4,x5,x6,x7,h⟩
theorem ex9 {α0 α1 α2 α3 α4 α5 α6 α7 α8:Type}{P:α0->α1->α2->α3->α4->α5->α6->α7->α8->Prop} (x0:α0) (x1:α1) (x2:α2) (x3:α3) (x4:α4) (x5:α5) (x6:α6) (x7:α7) (x8:α8) (h:P x0 x1 x2 x3 x4 x5 x6 x7 x8):∃ y0:α0,∃ y1:α1,∃ y2:α2,∃ y3:α3,∃ y4:α4,∃ y5:α5,∃ y6:α6,∃ y7:α7,∃ y8:α8,P y0 y1 y2 y3 y4 y5 y6 y7 y8:=⟨x0,x1,x2,x3,x4,x5,x6,x7,x8,h⟩
theorem ex10 {α0 α1 α2 α3 α4 α5 α6 α7 α8 α9:Type}{P:α0->α1->α2->α3->α4->α5->α6->α7->α8->α9->Prop} (x0:α0) (x1:α1) (x2:α2) (x3:α3) (x4:α4) (x5:α5) (x6:α6) (x7:α7) (x8:α8) (x9:α9) (h:P x0 x1 x2 x3 x4 x5 x6 x7 x8 x9):∃ y0:α0,∃ y1:α1,∃ y2:α2,∃ y3:α3,∃ y4:α4,∃ y5:α5,∃ y6:α6,∃ y7:α7,∃ y8:α8,∃ y9:α9,P y0 y1 y2 y3 y4 y5 y6 y7 y8 y9:=⟨x0,x1,x2,x3,x4,x5,x6,x7,x8,x9,h⟩
theorem ex15 {α0 α1 α2 α3 α4 α5 α6 α7 α8 α9 α10 α11 α12 α13 α14:Type}{P:α0->α1->α2->α3->α4->α5->α6->α7->α8->α9->α10->α11->α12->α13->α14->Prop} (x0:α0) (x1:α1) (x2:α2) (x3:α3) (x4:α4) (x5:α5) (x6:α6) (x7:α7) (x8:α8) (x9:α9) (x10:α10) (x11:α11) (x12:α12) (x13:α13) (x14:α14) (h:P x0 x1 x2 x3 x4 x5 x6 x7 x8 x9 x10 x11 x12 x13 x14):∃ y0:α0,∃ y1:α1,∃ y2:α2,∃ y3:α3,∃ y4:α4,∃ y5:α5,∃ y6:α6,∃ y7:α7,∃ y8:α8,∃ y9:α9,∃ y10:α10,∃ y11:α11,∃ y12:α12,∃ y13:α13,∃ y14:α14,P y0 y1 y2 y3 y4 y5 y6 y7 y8 y9 y10 y11 y12 y13 y14:=⟨x0,x1,x2,x3,x4,x5,x6,x7,x8,x9,x10,x11,x12,x13,x14,h⟩
theorem ex16 {α0 α1 α2 α3 α4 α5 α6 α7 α8 α9 α10 α11 α12 α13 α14 α15:Type}{P:α0->α1->α2->α3->α4->α5->α6->α7->α8->α9->α10->α11->α12->α13->α14->α15->Prop} (x0:α0) (x1:α1) (x2:α2) (x3:α3) (x4:α4) (x5:α5) (x6:α6) (x7:α7) (x8:α8) (x9:α9) (x10:α10) (x11:α11) (x12:α12) (x13:α13) (x14:α14) (x15:α15) (h:P x0 x1 x2 x3 x4 x5 x6 x7 x8 x9 x10 x11 x12 x13 x14 x15):∃ y0:α0,∃ y1:α1,∃ y2:α2,∃ y3:α3,∃ y4:α4,∃ y5:α5,∃ y6:α6,∃ y7:α7,∃ y8:α8,∃ y9:α9,∃ y10:α10,∃ y11:α11,∃ y12:α12,∃ y13:α13,∃ y14:α14,∃ y15:α15,P y0 y1 y2 y3 y4 y5 y6 y7 y8 y9 y10 y11 y12 y13 y14 y15:=⟨x0,x1,x2,x3,x4,x5,x6,x7,x8,x9,x10,x11,x12,x13,x14,x15,h⟩
theorem un2 {K:PySem.W.Frag}{H:Hp}{a:Addr} {v0 v1:V}{Q:V->V->Prop} (h:H a=some (.tup [v0,v1])) (q:Q v0 v1):∃ a' xs,V.ref a=.ref a'/\SqT K H a' xs/\xs.length=2/\∃ w0 r0,xs=w0::r0/\∃ w1 r1,r0=w1::r1/\r1=[]/\Q w0 w1:=⟨a,_,rfl,SqT.of h,rfl,_,_,rfl,_,_,rfl,rfl,q⟩
theorem un3 {K:PySem.W.Frag}{H:Hp}{a:Addr} {v0 v1 v2:V}{Q:V->V->V->Prop} (h:H a=some (.tup [v0,v1,v2])) (q:Q v0 v1 v2):∃ a' xs,V.ref a=.ref a'/\SqT K H a' xs/\xs.length=3/\∃ w0 r0,xs=w0::r0/\∃ w1 r1,r0=w1::r1/\∃ w2 r2,r1=w2::r2/\r2=[]/\Q w0 w1 w2:=⟨a,_,rfl,SqT.of h,rfl,_,_,rfl,_,_,rfl,_,_,rfl,rfl,q⟩
theorem un4 {K:PySem.W.Frag}{H:Hp}{a:Addr} {v0 v1 v2 v3:V}{Q:V->V->V->V->Prop} (h:H a=some (.tup [v0,v1,v2,v3])) (q:Q v0 v1 v2 v3):∃ a' xs,V.ref a=.ref a'/\SqT K H a' xs/\xs.length=4/\∃ w0 r0,xs=w0::r0/\∃ w1 r1,r0=w1::r1/\∃ w2 r2,r1=w2::r2/\∃ w3 r3,r2=w3::r3/\r3=[]/\Q w0 w1 w2 w3:=⟨a,_,rfl,SqT.of h,rfl,_,_,rfl,_,_,rfl,_,_,rfl,_,_,rfl,rfl,q⟩
theorem zr {α:Sort _}{A Q:α->Prop}{x:α} (a:A x) (q:Q x):∃ y,A y/\Q y:=⟨x,a,q⟩
theorem zr1 {α β:Sort _}{A Q:α->β->Prop}{x:α}{y:β} (a:A x y) (q:Q x y):∃ x y,A x y/\Q x y:=⟨x,y,a,q⟩
theorem zr2 {α β:Sort _}{A B Q:α->β->Prop}{x:α}{y:β} (a:A x y) (b:B x y) (q:Q x y):∃ x y,A x y/\B x y/\Q x y:=⟨x,y,a,b,q⟩
end Sm
namespace Sm
open PySem L2 SmSort
def whenOf (ms:List M4) (j:Int):Int:=((ms[j.toNat]?).map (·.t)).getD 0
def whens (ms:List M4) (k:Nat):List Int:=(numsTo ms k ms.length).map (whenOf ms)
section
variable {n k w:Nat}{ms:List M4}{day:Int}
end
def nextOf (ts:List (Int×Int)) (b:Int) (k:Nat):Int:=match ts[k + 1]? with
 | some q=>q.1
 | none=>b
end Sm
namespace Sm
open PySem L2 SmSort
structure L4 where
 s:Nat
 w:Nat
 a:Int
 z:Int
end Sm
namespace Sm
open PySem L2 SmSort
end Sm
namespace Sm
open PySem L2 SmSort
theorem map_some {α β:Type}{f:α->β}{o o':Option α}{a:α} (e:o.map f=o'.map f) (h:o'=some a):∃ b,o=some b/\f b=f a:=by
 subst h
 cases o with
 | none=>cases e
 | some b=>exact ⟨b,rfl,Option.some.inj e⟩
end Sm
namespace Sm
open PySem L2 SmSort
open Classical in
noncomputable def cut (M:Addr->Prop) (H:Hp):Hp:=λc=>if M c then none else H c
theorem eqv_lst {K:PySem.W.Frag}{H:Hp}{n:Nat}{a c:Addr}{xs ys:List V} (ha:H a=some (.lst xs)) (hc:H c=some (.lst ys)) (l:xs.length=ys.length) (h:∀ (i:Nat) (x y:V),xs[i]?=some x->ys[i]?=some y->Eqv K H n x y true):Eqv K H (n + 1) (.ref a) (.ref c) true:=
 .inr (.inr ⟨a,c,xs,ys,λ_=>true,rfl,rfl,.inl ⟨SqL.of ha,SqL.of hc⟩,λ_=>rfl,by simp [l],h⟩)
theorem eqv_flat {K:PySem.W.Frag}{H:Hp}{n:Nat}{x:V} (f:flatV x=true) (e:eqV x x=true):Eqv K H n x x true:=by
 cases n with
 | zero=>exact .inr ⟨f,f,e.symm⟩
 | succ n=>exact .inr (.inl ⟨f,f,e.symm⟩)
theorem eqv_int {K:PySem.W.Frag}{H:Hp}{n:Nat} (i:Int):Eqv K H n (.int i) (.int i) true:=eqv_flat rfl (by rw [eqV_int];exact decide_eq_true rfl)
theorem eqv_ints {K:PySem.W.Frag}{H:Hp}{n:Nat} (ns:List Int) (i:Nat) (x y:V) (hx:(ns.map V.int)[i]?=some x) (hy:(ns.map V.int)[i]?=some y):Eqv K H n x y true:=by
 rw [hx] at hy;cases hy
 obtain ⟨r,_,rfl⟩:=xR hx
 exact eqv_int r
end Sm
namespace Sm
open PySem L2 SmSort
structure G2 (H:Hp) (tl:Addr) (ta:List Addr) (kl:Addr) (ka:List Addr):Prop where
 nd:(ta++ka).Nodup
 nt:tl ∉ ta++ka
 nk:kl ∉ ta++ka
 fr:∀ c∈ta++ka,H c=none
section
variable {H0 H H':Hp}{tl kl:Addr}{ta ka:List Addr}{T K:List (List (Option Int))}{j:Nat}{c:Addr}{row:List (Option Int)}
end
end Sm
namespace L2
open PySem PySem.Spec PyProof.Rows
section
variable {X:Cx}
theorem call_sumL (hc:X.calm=true):CallR X (.builtin "sum") (λxs H Q=>∃ p ns,xs=[.ref p]/\SqL X.K H p (List.map V.int ns)/\Q (.int ns.sum) H):=by
 intro pins s σ H xs us Q I r h
 obtain ⟨p,ns,rfl,hp,q⟩:=h
 obtain ⟨u,rfl,ru⟩:=vals1 r
 cases ru
 obtain ⟨its,r,pl,_⟩:=I.list hp
 obtain ⟨ys,rfl,e⟩:=int_items r
 have hl:ys.length=ns.length:=by rw [<-e,zA]
 have li:s.heap.IsList p (intItems ys.toArray):=by
  have:=pl.isList
  unfold intItems
  rw [List.map_toArray]
  exact this
 refine sum_intListG (I.ok.hd hc) li λh' tk t' k=>?_
 have nat':∀ j (h:j < ns.length),numAt ys.toArray j=ns[j]:=λj h=>by
  rw [numAt_eq]
  simp [e,h]
 have sz:ys.toArray.size=ns.length:=by simp [hl]
 have ps:∀ n,n<=ns.length->preSum (numAt ys.toArray) n=(ns.take n).sum:=by
  intro n
  induction n with
  | zero=>intro _;rfl
  | succ n ih=>
   intro hn
   show preSum (numAt ys.toArray) n + numAt ys.toArray n=_
   rw [ih (by omega),nat' n (by omega),List.take_succ_eq_append_getElem (by omega),yj]
   show _ + ns[n]=_ + (ns[n] + 0)
   omega
 rw [sz,ps _ (zF _),zU]
 exact ⟨.int _,H,I.kept k,⟨_,rfl⟩,q⟩
end
end L2
namespace Sm
open PySem L2 SmSort
section
variable {rooms:List Int}{ms:List M4}{ls:List (Addr×L4)}{d:RuleD}{m j:Nat}{s:RS}{M:M4}{L:Addr×L4}
end
section
variable {CA CH:Addr}{H:Hp}{r:Addr}{σ:St}{i:Nat}{Q:VK} {E2:XK}{d:RuleD}
end
end Sm
namespace L2
open PySem PySem.Spec PyProof.Rows
theorem zipM_new (l1 l2:Addr) (xs ys:Array Value) :
  Meets (Builtin.«zip.__new__» ⟨[.type "zip", .ref l1,.ref l2],[]⟩) (λ_ R s=>s.heap.IsList l1 xs/\s.heap.IsTuple l2 ys /\
   ∀ h':Heap,IsZip h' (s.heap.objs.size + 4) (s.heap.objs.size + 2) (s.heap.objs.size + 3) .none->IsPair h' (s.heap.objs.size + 2) (.ref s.heap.objs.size) (.ref (s.heap.objs.size + 1)) ->
   IsPair h' (s.heap.objs.size + 3) .none .none->h'.IsListIter s.heap.objs.size l1 0->h'.IsTupleIter (s.heap.objs.size + 1) l2 0 -> 
   (∀ c o,s.heap.get? c=some o->h'.get? c=some o)->R (.ok (.ret (.ref (s.heap.objs.size + 4)))) { s with heap:=h' }):=
 .of_wp λprog w A R s h=>by
  obtain ⟨hp,g,d,tk,os⟩:=s;obtain ⟨hl1,hl2,h⟩:=h
  have hsub:=sub_zip
  have hL1:Heap.IsList (Shared.heap ⟨hp,g,d,tk,os⟩) l1 xs:=hl1
  have hL2:Heap.IsTuple (Shared.heap ⟨hp.push { cls:=.type "list_iterator", data:=.fields #[.ref l1,.int 0 0] },g,d,tk,os⟩) l2 ys:=let ⟨o,e,r⟩:=hl2;⟨o,Heap.get?_push_of_some _ e,r⟩
  wp_walk using wpAny_pyIter_list hL1,wpAny_pyIter_tuple hL2
  refine ⟨_,rfl,?_⟩
  have sp:∀ (h:Heap) (o:Obj),(h.push o).objs.size=h.objs.size + 1:=λh o=>Heap.size_push ..
  have h':=h (((((hp.push { cls:=.type "list_iterator", data:=.fields #[.ref l1,.int 0 0] }).push { cls:=.type "tuple_iterator", data:=.fields #[.ref l2,.int 0 0] }).push { cls:=.type "tuple", data:=.seq #[.ref hp.objs.size,.ref (hp.objs.size + 1)] }).push { cls:=.type "tuple", data:=.seq #[.none,.none] }).push { cls:=.type "zip", data:=.fields #[.none,.bool false,.bool false,.ref (hp.objs.size + 2),.ref (hp.objs.size + 3)] })
   (by show Heap.get? _ (hp.objs.size + 4)=_;rw [show hp.objs.size + 4=((((hp.push { cls:=.type "list_iterator", data:=.fields #[.ref l1,.int 0 0] }).push { cls:=.type "tuple_iterator", data:=.fields #[.ref l2,.int 0 0] }).push { cls:=.type "tuple", data:=.seq #[.ref hp.objs.size,.ref (hp.objs.size + 1)] }).push { cls:=.type "tuple", data:=.seq #[.none,.none] }).objs.size from by simp only [sp]];exact Heap.get?_push_size _ rfl)
   (by
    refine Heap.get?_push_of_some _ (Heap.get?_push_of_some _ ?_)
    show Heap.get? _ (hp.objs.size + 2)=_
    rw [show hp.objs.size + 2=((hp.push { cls:=.type "list_iterator", data:=.fields #[.ref l1,.int 0 0] }).push { cls:=.type "tuple_iterator", data:=.fields #[.ref l2,.int 0 0] }).objs.size from by simp only [sp]];exact Heap.get?_push_size _ rfl)
   (by
    refine Heap.get?_push_of_some _ ?_
    show Heap.get? _ (hp.objs.size + 3)=_
    rw [show hp.objs.size + 3=(((hp.push { cls:=.type "list_iterator", data:=.fields #[.ref l1,.int 0 0] }).push { cls:=.type "tuple_iterator", data:=.fields #[.ref l2,.int 0 0] }).push { cls:=.type "tuple", data:=.seq #[.ref hp.objs.size,.ref (hp.objs.size + 1)] }).objs.size from by simp only [sp]];exact Heap.get?_push_size _ rfl)
   ⟨_,Heap.get?_push_of_some _ (Heap.get?_push_of_some _ (Heap.get?_push_of_some _ (Heap.get?_push_of_some _ (Heap.get?_push_size _ rfl)))),rfl,rfl⟩
   ⟨{ cls:=.type "tuple_iterator", data:=.fields #[.ref l2,.int 0 0] },(by
    refine Heap.get?_push_of_some _ (Heap.get?_push_of_some _ (Heap.get?_push_of_some _ ?_))
    show Heap.get? _ (hp.objs.size + 1)=_
    rw [show hp.objs.size + 1=(hp.push { cls:=.type "list_iterator", data:=.fields #[.ref l1,.int 0 0] }).objs.size from by simp only [sp]];exact Heap.get?_push_size _ rfl),rfl,rfl⟩
   (λc o x=>Heap.get?_push_of_some _ (Heap.get?_push_of_some _ (Heap.get?_push_of_some _ (Heap.get?_push_of_some _ (Heap.get?_push_of_some _ x)))))
  simp only [sp] at h' ⊢
  exact h'
end L2
namespace L2
open PySem PySem.Spec PyProof.Rows
section
variable {prog:Program}{w:World}{A:Around}{E:Value->Shared->Prop}{s:Shared}
variable {z TI TO i1 i2:Addr} {fp1 fp2:List Addr}{n:Nat} {P1 P2:Nat->Value->Prop} {S1 S2:Nat->Heap->Prop}
theorem ZD.mix {l1 l2:Addr} (hh:A.handled=none) (ne:TI≠z/\TO≠z/\i1≠z/\i2≠z/\TI≠TO/\TI≠i1/\TI≠i2/\TO≠i1/\TO≠i2/\i1≠i2) (a1:∀ x∈[z,TO,i1,i2],l1≠x) (a2:∀ x∈[z,TO,i1,i2],l2≠x) {xs ys:Array Value} (hs:ys.size=xs.size) :
  ZD prog w A z TI TO i1 i2 [i1,l1] [i2,l2] xs.size (λi v=>xs[i]?=some v) (λi v=>ys[i]?=some v) (λi h=>h.IsListIter i1 l1 i/\h.IsList l1 xs) (λi h=>h.IsTupleIter i2 l2 i/\h.IsTuple l2 ys) where
 d1:=Draws.list hh i1 l1 (a1 _ (by simp)) xs
 d2:=hs ▸ drawsT hh i2 l2 (a2 _ (by simp)) ys
 ne:=ne
 f1:=by
  obtain ⟨n1,n2,n3,n4,n5,n6,n7,n8,n9,n10⟩:=ne
  have b1:=a1 z (by simp);have b2:=a1 TO (by simp);have b3:=a1 i2 (by simp)
  simp only [zE,zI,or_false,not_or]
  exact ⟨⟨n3.symm,b1.symm⟩,⟨n8,b2.symm⟩,n10.symm,b3.symm⟩
 f2:=by
  obtain ⟨n1,n2,n3,n4,n5,n6,n7,n8,n9,n10⟩:=ne
  have b1:=a2 z (by simp);have b2:=a2 TO (by simp);have b3:=a2 i1 (by simp)
  simp only [zE,zI,or_false,not_or]
  exact ⟨⟨n4.symm,b1.symm⟩,⟨n9,b2.symm⟩,n10,b3.symm⟩
end
def IzM (K:PySem.W.Frag) (a b:Addr):It:=
 ⟨λi H=>∃ xs ys x y,SqL K H a xs/\SqT K H b ys/\xs.length=ys.length/\xs[i]?=some x/\ys[i]?=some y,λi H v H'=>∃ p x y,H p=none/\v=.ref p/\H'=upd H p (.tup [x,y])/\∀ xs ys,SqL K H a xs->SqT K H b ys->xs[i]?=some x/\ys[i]?=some y,
  λi H=>∃ xs ys,SqL K H a xs/\SqT K H b ys/\xs.length=ys.length/\xs.length=i⟩
theorem turn_zipM {P:Program}{w:World}{K:PySem.W.Frag}{es:List Expr}{k:Nat}{pos:Pos} (l1 l2 z TI TO i1 i2:Addr) (ap:ZN z TI TO i1 i2) (a1:∀ x∈[z,TO,i1,i2],l1≠x) (a2:∀ x∈[z,TO,i1,i2],l2≠x) :
  Turn P w K (.Tuple es k pos) (IzM K l1 l2) [z,TI,TO,i1,i2] z (λi h=>IsZip h z TI TO .none/\IsPair h TI (.ref i1) (.ref i2)/\(∃ a b,IsPair h TO a b)/\h.IsListIter i1 l1 i/\h.IsTupleIter i2 l2 i) where
 mem:=by simp
 obj:=λi h st b hb=>by
  obtain ⟨hz,hTI,⟨a,c,hTO⟩,⟨o1,g1,c1,d1⟩,⟨o2,g2,c2,d2⟩⟩:=st
  simp only [zE,zI,or_false] at hb
  rcases hb with e | e | e | e | e <;> subst e
  ·exact ⟨_,hz,λv q=>nomatch q⟩
  ·exact ⟨_,hTI,λv q=>nomatch q⟩
  ·exact ⟨_,hTO,λv q=>nomatch q⟩
  ·exact ⟨o1,g1,λv q=>by rw [d1] at q;cases q⟩
  ·exact ⟨o2,g2,λv q=>by rw [d2] at q;cases q⟩
 keep:=λi h h' st q=>by
  obtain ⟨hz,hTI,⟨a,c,hTO⟩,⟨o1,g1,r1⟩,⟨o2,g2,r2⟩⟩:=st
  exact ⟨q z (by simp) _ hz,q TI (by simp) _ hTI,⟨a,c,q TO (by simp) _ hTO⟩,⟨o1,q i1 (by simp) o1 g1,r1⟩,⟨o2,q i2 (by simp) o2 g2,r2⟩⟩
 item:=by
  intro X hP hw hK hc i pins s σ H E I hf st hg
  subst hP hw hK
  obtain ⟨xs,ys,x,y,hq1,hq2,el,hx,hy⟩:=hg
  obtain ⟨its1,rv1,p1,hz1⟩:=I.list hq1
  obtain ⟨its2,rv2,p2,hz2⟩:=I.tuple hq2
  obtain ⟨u,hu,ru⟩:=rv1.get hx
  obtain ⟨v,hv,rv⟩:=rv2.get hy
  obtain ⟨hZ,hTI,⟨a0,c0,hTO⟩,hi1,hi2⟩:=st
  have t1:s.heap.IsList l1 its1.toArray:=p1.isList
  have t2:s.heap.IsTuple l2 its2.toArray:=p2
  have fp:=λb hb=>hf b hb
  have lt:∀ b,b∈[z,TI,TO,i1,i2]->b < s.heap.objs.size:=λb hb=>by
   simp only [zE,zI,or_false] at hb
   rcases hb with e | e | e | e | e <;> subst e
   ·exact Heap.lt_size hZ
   ·exact Heap.lt_size hTI
   ·exact Heap.lt_size hTO
   ·exact let ⟨_,z,_⟩:=hi1;Heap.lt_size z
   ·exact let ⟨_,z,_⟩:=hi2;Heap.lt_size z
  have ll1:l1 < s.heap.objs.size:=let ⟨_,z,_⟩:=t1;Heap.lt_size z
  have ll2:l2 < s.heap.objs.size:=let ⟨_,z,_⟩:=t2;Heap.lt_size z
  have e1:=rv1.length
  have e2:=rv2.length
  have ix:=(zH.mp hu).1
  refine zdn_item (ZD.mix (A:=X.A.in1) (I.ok.hd hc) ap a1 a2 (xs:=its1.toArray) (ys:=its2.toArray) (by simp;omega)) (by simpa using ix) hZ hTI hTO ⟨hi1,t1⟩ ⟨hi2,t2⟩ (λu' v' h1 tk hu' hv' hZ1 hTO1 hs1 hs2 hT hsz hk=>?_) (λb hb=>?_) (λb hb=>?_)
  rotate_left
  ·simp only [zE,zI,or_false] at hb
   rcases hb with e | e
   ·rw [e];exact lt i1 (by simp)
   ·rw [e];exact ll1
  ·simp only [zE,zI,or_false] at hb
   rcases hb with e | e
   ·rw [e];exact lt i2 (by simp)
   ·rw [e];exact ll2
  obtain rfl:u=u':=by
   have q:its1.toArray[i]?=some u:=by simpa using hu
   exact Option.some.inj (q.symm.trans hu')
  obtain rfl:v=v':=by
   have q:its2.toArray[i]?=some v:=by simpa using hv
   exact Option.some.inj (q.symm.trans hv')
  refine ⟨_,rfl,?_⟩
  refine wpAny_letOwnedTupleGo_zip hZ1 λh2 hZ2 hs2'=>?_
  replace hs2':Heap.SameBut z h1 h2:=hs2'
  obtain ⟨n1,n2,n3,n4,n5,n6,n7,n8,n9,n10⟩:=ap
  have old2:∀ b o,b ∉ [z,TO,i1,i2]->s.heap.get? b=some o->h2.get? b=some o:=λb o hb q=>by
   simp only [zE,zI,or_false,not_or] at hb
   exact hs2'.extBut b o hb.1 (hk b o hb.1 hb.2.1 hb.2.2.1 hb.2.2.2 q)
  have hT2:h2.get? s.heap.objs.size=some { cls:=.type "tuple", data:=.seq #[u,v] }:=hs2'.extBut _ _ (yS (lt z (by simp))) hT
  have nT:H s.heap.objs.size=none:=I.hok.fresh (zF _)
  have sub:∀ b,b∈[z,TO,i1,i2]->b∈[z,TI,TO,i1,i2]:=λb hb=>by
   simp only [zE,zI,or_false] at hb ⊢
   rcases hb with e | e | e | e <;> simp [e]
  refine ⟨.ref s.heap.objs.size,upd H s.heap.objs.size (.tup [x,y]),?_,rfl,⟨_,x,y,nT,rfl,rfl,λys' zs' h1 h2=>by rw [I.list_inj h1 hq1,I.tuple_inj h2 hq2];exact ⟨hx,hy⟩⟩,⟨hZ2,?_,⟨u,v,?_⟩,?_,?_⟩,λb hb=>?_⟩
  ·refine Inv.step (s:=s) (h':=h2) (g':=s.gens) (d':=s.drawn) (t':=tk) (ch:=[z,TO,i1,i2]) I (λb hb=>?_) (λb o _ _ hb q _=>old2 b o hb q) (λb o _ _ hb q _=>⟨o.slots,old2 b o hb q⟩)
    (λb o _ q n=>by rw [xH (zW (Heap.lt_size q))];exact n) (λb o hb q=>⟨o,old2 b o hb q⟩)
    (λb ys q=>by rw [xH (yz q nT)];exact q) (λb o v q=>by rw [xH (yz q nT)];exact q) (λb ps q=>⟨#[],by rw [xH (yz q nT),q];simp⟩)
    (λm hm=>by
     obtain ⟨o,es',ep,q,r⟩:=hm
     exact ⟨o,es',ep,old2 _ o (λhb=>(fp _ (sub _ hb)).2.1 rfl) q,r⟩) (λb v' q=>?_) I.bare
   ·obtain ⟨e0,e1,e2,e3,e4,e5⟩:=fp b (sub b hb)
    exact ⟨e3,e1,e4,e5⟩
   ·by_cases hb:b=s.heap.objs.size
    ·subst hb
     rw [yx] at q
     cases q
     exact ⟨⟨by show 2<=sizeLine;rw [sizeLine_eq];decide,λob e=>by rw [hT2] at e;cases e;rfl⟩,[u,v],.cons ru (.cons rv .nil),⟨_,hT2,rfl,_,rfl⟩⟩
    ·rw [xH hb] at q
     refine (I.hok b v' q).stay (λc ob hc qc=>old2 c ob (λhb=>?_) qc) (λc qc=>by rw [xH (yz qc nT)];exact qc) λc ys qc=>by rw [xH (yz qc nT)];exact qc
     have e0:=(fp c (sub c hb)).1
     rcases hc with z | z
     ·subst z;exact yz q e0 rfl
     ·exact yz z e0 rfl
  ·exact old2 _ _ (by simp only [zE,zI,or_false,not_or];exact ⟨n1,n5,n6,n7⟩) hTI
  ·exact hs2'.extBut _ _ n2 hTO1
  ·obtain ⟨o,q,r⟩:=hs1.1
   exact ⟨o,hs2'.extBut i1 o n3 q,r⟩
  ·obtain ⟨o,q,r⟩:=hs2.1
   exact ⟨o,hs2'.extBut i2 o n4 q,r⟩
  ·rw [xH (zW (lt b hb))];exact (fp b hb).1
 done:=by
  intro X hP hw hK hc i pins s σ H E I hf st hg
  subst hP hw hK
  obtain ⟨xs,ys,hq1,hq2,el,hx⟩:=hg
  obtain ⟨its1,rv1,p1,hz1⟩:=I.list hq1
  obtain ⟨its2,rv2,p2,hz2⟩:=I.tuple hq2
  obtain ⟨hZ,hTI,⟨a0,c0,hTO⟩,hi1,hi2⟩:=st
  have t1:s.heap.IsList l1 its1.toArray:=p1.isList
  have l1':=rv1.length
  have l2':=rv2.length
  have en:i=its1.toArray.size:=by simp;omega
  subst en
  have sub:∀ b,b∈[z,TO,i1,i2]->b∈[z,TI,TO,i1,i2]:=λb hb=>by
   simp only [zE,zI,or_false] at hb ⊢
   rcases hb with e | e | e | e <;> simp [e]
  refine zdn_end (ZD.mix (A:=X.A.in1) (I.ok.hd hc) ap a1 a2 (xs:=its1.toArray) (ys:=its2.toArray) (by simp;omega)) hZ hTI hTO ⟨hi1,t1⟩ λh' hk=>⟨rfl,?_⟩
  have old2:∀ b o,b ∉ [z,TO,i1,i2]->s.heap.get? b=some o->h'.get? b=some o:=λb o hb q=>by
   simp only [zE,zI,or_false,not_or] at hb
   exact hk b o hb.1 hb.2.1 hb.2.2.1 hb.2.2.2 q
  refine Inv.step (s:=s) (h':=h') (g':=s.gens) (d':=s.drawn) (t':=s.toks) (ch:=[z,TO,i1,i2]) I (λb hb=>?_) (λb o _ _ hb q _=>old2 b o hb q) (λb o _ _ hb q _=>⟨o.slots,old2 b o hb q⟩)
    (λb o _ q n=>n) (λb o hb q=>⟨o,old2 b o hb q⟩)
    (λb ys q=>q) (λb o v q=>q) (λb ps q=>⟨#[],by rw [q];simp⟩)
    (λm hm=>by
     obtain ⟨o,es',ep,q,r⟩:=hm
     exact ⟨o,es',ep,old2 _ o (λhb=>(hf _ (sub _ hb)).2.1 rfl) q,r⟩) (λb v' q=>?_) I.bare
  ·obtain ⟨e0,e1,e2,e3,e4,e5⟩:=hf b (sub b hb)
   exact ⟨e3,e1,e4,e5⟩
  ·refine (I.hok b v' q).stay (λc ob hc qc=>old2 c ob (λhb=>?_) qc) (λc qc=>qc) λc ys qc=>qc
   have e0:=(hf c (sub c hb)).1
   rcases hc with z | z
   ·subst z;exact yz q e0 rfl
   ·exact yz z e0 rfl
 self:=λ_ _ _ _ _ st h=>wpAny_pyIter_zip st.1 h
def iZipM (K:PySem.W.Frag) (ta:TA):TI:=fun σ H R=>ta σ H λvs H1=>∃ a b,vs=[.ref a,.ref b]/\(∃ xs,SqL K H1 a xs)/\(∃ ys,SqT K H1 b ys)/\R (IzM K a b) H1
theorem pi_zipM {X:Cx}{a b:Expr}{ta:TA} {p pos pos2:Pos}{es:List Expr}{k:Nat}{K:PySem.W.Frag} (hK:X.K=K) (hg:Gl X "zip") (hm:X.mg "zip" = none) (ha:PA X [a,b] ta)
  (hs:starEach [a,b] X.env=(false,eval a X.env)::starEach [b] X.env:=by rfl) (hs2:starEach [b] X.env=[(false,eval b X.env)]:=by rfl) :
  PI X (.Tuple es k pos2) (.Call (.Name "zip" p) [a,b] [] pos) (iZipM K ta):=by
 subst hK
 intro pins s σ H R I h
 refine Call_ (ld_blt I hg hm boot_zip (zy (thn (ha pos pins s σ H _ I h) λus s1 ⟨vs,H1,I1,r1,q1⟩=>?_) (by rw [hs,hs2]) (by rw [hs2];rfl)))
 obtain ⟨l1,l2,e,⟨xs,hq1⟩,⟨ys,hq2⟩,q⟩:=q1
 subst e
 cases r1 with
 | cons r rr=>
  cases rr with
  | cons r' rr=>
   cases rr
   cases r
   cases r'
   obtain ⟨its1,rv1,p1,hz1⟩:=I1.list hq1
   obtain ⟨its2,rv2,p2,hz2⟩:=I1.tuple hq2
   have t1:s1.heap.IsList l1 its1.toArray:=p1.isList
   have t2:s1.heap.IsTuple l2 its2.toArray:=p2
   have lt1:l1 < s1.heap.objs.size:=let ⟨_,z,_⟩:=t1;Heap.lt_size z
   have lt2:l2 < s1.heap.objs.size:=let ⟨_,z,_⟩:=t2;Heap.lt_size z
   refine callType_new F.called_zip (by decide) (F.typeCall_zip_2 _ _) (F.newCall_zip_2 _ _) (λobj=>F.args_object_init_3 obj _ _) F.entry_zip_new (zipM_new l1 l2 its1.toArray its2.toArray) ⟨t1,t2,λh' hZ hTI hTO hi1 hi2 hk=>⟨⟨_,hZ,rfl⟩,?_⟩⟩
   refine wpAny_pyIter_zip hZ ?_
   have I2:Inv X pins σ H1 { s1 with heap:=h' }:=I1.kept (t':=s1.toks) hk
   refine ⟨s1.heap.objs.size + 4,[s1.heap.objs.size + 4,s1.heap.objs.size + 2,s1.heap.objs.size + 3,s1.heap.objs.size,s1.heap.objs.size + 1],_,_,H1,rfl,I2,turn_zipM l1 l2 _ _ _ _ _ ?_ ?_ ?_,⟨hZ,hTI,⟨_,_,hTO⟩,hi1,hi2⟩,λb hb=>?_,q⟩
   ·have z:=zipApart_new lt1 lt2
    exact ⟨z.TIz,z.TOz,z.i1z,z.i2z,z.TITO,z.TIi1,z.TIi2,z.TOi1,z.TOi2,z.i12⟩
   ·intro x hx
    have z:=zipApart_new lt1 lt2
    simp only [zE,zI,or_false] at hx
    rcases hx with e | e | e | e <;> subst e
    ·exact z.l1z
    ·exact z.l1TO
    ·exact z.l1i1
    ·exact z.l1i2
   ·intro x hx
    have z:=zipApart_new lt1 lt2
    simp only [zE,zI,or_false] at hx
    rcases hx with e | e | e | e <;> subst e
    ·exact z.l2z
    ·exact z.l2TO
    ·exact z.l2i1
    ·exact z.l2i2
   ·have hb':s1.heap.objs.size<=b:=by
     simp only [zE,zI,or_false] at hb
     rcases hb with e | e | e | e | e <;> rw [e] <;> first | exact zF _ | exact ym _ _
    exact I1.fpOk hb' (I1.hok.fresh hb')
section
variable {K:PySem.W.Frag}{a b:Addr}{xs ys:List V}{n:Nat}{caps:List Nat}{g:TG}{tc:TT}{te:TE}{σ:St}{H:Hp}{Qf:Addr->Hp->List V->Prop}
end
end L2
namespace L2
open PySem PySem.Spec PyProof.Rows
theorem zipN_new (l1 l2:Addr) (xs ys:Array Value) :
  Meets (Builtin.«zip.__new__» ⟨[.type "zip", .ref l1,.ref l2],[]⟩) (λ_ R s=>s.heap.IsTuple l1 xs/\s.heap.IsList l2 ys /\
   ∀ h':Heap,IsZip h' (s.heap.objs.size + 4) (s.heap.objs.size + 2) (s.heap.objs.size + 3) .none->IsPair h' (s.heap.objs.size + 2) (.ref s.heap.objs.size) (.ref (s.heap.objs.size + 1)) ->
   IsPair h' (s.heap.objs.size + 3) .none .none->h'.IsTupleIter s.heap.objs.size l1 0->h'.IsListIter (s.heap.objs.size + 1) l2 0 -> 
   (∀ c o,s.heap.get? c=some o->h'.get? c=some o)->R (.ok (.ret (.ref (s.heap.objs.size + 4)))) { s with heap:=h' }):=
 .of_wp λprog w A R s h=>by
  obtain ⟨hp,g,d,tk,os⟩:=s;obtain ⟨hl1,hl2,h⟩:=h
  have hsub:=sub_zip
  have hL1:Heap.IsTuple (Shared.heap ⟨hp,g,d,tk,os⟩) l1 xs:=hl1
  have hL2:Heap.IsList (Shared.heap ⟨hp.push { cls:=.type "tuple_iterator", data:=.fields #[.ref l1,.int 0 0] },g,d,tk,os⟩) l2 ys:=let ⟨o,e,r⟩:=hl2;⟨o,Heap.get?_push_of_some _ e,r⟩
  wp_walk using wpAny_pyIter_tuple hL1,wpAny_pyIter_list hL2
  refine ⟨_,rfl,?_⟩
  have sp:∀ (h:Heap) (o:Obj),(h.push o).objs.size=h.objs.size + 1:=λh o=>Heap.size_push ..
  have h':=h (((((hp.push { cls:=.type "tuple_iterator", data:=.fields #[.ref l1,.int 0 0] }).push { cls:=.type "list_iterator", data:=.fields #[.ref l2,.int 0 0] }).push { cls:=.type "tuple", data:=.seq #[.ref hp.objs.size,.ref (hp.objs.size + 1)] }).push { cls:=.type "tuple", data:=.seq #[.none,.none] }).push { cls:=.type "zip", data:=.fields #[.none,.bool false,.bool false,.ref (hp.objs.size + 2),.ref (hp.objs.size + 3)] })
   (by show Heap.get? _ (hp.objs.size + 4)=_;rw [show hp.objs.size + 4=((((hp.push { cls:=.type "tuple_iterator", data:=.fields #[.ref l1,.int 0 0] }).push { cls:=.type "list_iterator", data:=.fields #[.ref l2,.int 0 0] }).push { cls:=.type "tuple", data:=.seq #[.ref hp.objs.size,.ref (hp.objs.size + 1)] }).push { cls:=.type "tuple", data:=.seq #[.none,.none] }).objs.size from by simp only [sp]];exact Heap.get?_push_size _ rfl)
   (by
    refine Heap.get?_push_of_some _ (Heap.get?_push_of_some _ ?_)
    show Heap.get? _ (hp.objs.size + 2)=_
    rw [show hp.objs.size + 2=((hp.push { cls:=.type "tuple_iterator", data:=.fields #[.ref l1,.int 0 0] }).push { cls:=.type "list_iterator", data:=.fields #[.ref l2,.int 0 0] }).objs.size from by simp only [sp]];exact Heap.get?_push_size _ rfl)
   (by
    refine Heap.get?_push_of_some _ ?_
    show Heap.get? _ (hp.objs.size + 3)=_
    rw [show hp.objs.size + 3=(((hp.push { cls:=.type "tuple_iterator", data:=.fields #[.ref l1,.int 0 0] }).push { cls:=.type "list_iterator", data:=.fields #[.ref l2,.int 0 0] }).push { cls:=.type "tuple", data:=.seq #[.ref hp.objs.size,.ref (hp.objs.size + 1)] }).objs.size from by simp only [sp]];exact Heap.get?_push_size _ rfl)
   ⟨_,Heap.get?_push_of_some _ (Heap.get?_push_of_some _ (Heap.get?_push_of_some _ (Heap.get?_push_of_some _ (Heap.get?_push_size _ rfl)))),rfl,rfl⟩
   ⟨{ cls:=.type "list_iterator", data:=.fields #[.ref l2,.int 0 0] },(by
    refine Heap.get?_push_of_some _ (Heap.get?_push_of_some _ (Heap.get?_push_of_some _ ?_))
    show Heap.get? _ (hp.objs.size + 1)=_
    rw [show hp.objs.size + 1=(hp.push { cls:=.type "tuple_iterator", data:=.fields #[.ref l1,.int 0 0] }).objs.size from by simp only [sp]];exact Heap.get?_push_size _ rfl),rfl,rfl⟩
   (λc o x=>Heap.get?_push_of_some _ (Heap.get?_push_of_some _ (Heap.get?_push_of_some _ (Heap.get?_push_of_some _ (Heap.get?_push_of_some _ x)))))
  simp only [sp] at h' ⊢
  exact h'
end L2
namespace L2
open PySem PySem.Spec PyProof.Rows
section
variable {prog:Program}{w:World}{A:Around}{E:Value->Shared->Prop}{s:Shared}
variable {z TI TO i1 i2:Addr} {fp1 fp2:List Addr}{n:Nat} {P1 P2:Nat->Value->Prop} {S1 S2:Nat->Heap->Prop}
theorem ZD.mixN {l1 l2:Addr} (hh:A.handled=none) (ne:TI≠z/\TO≠z/\i1≠z/\i2≠z/\TI≠TO/\TI≠i1/\TI≠i2/\TO≠i1/\TO≠i2/\i1≠i2) (a1:∀ x∈[z,TO,i1,i2],l1≠x) (a2:∀ x∈[z,TO,i1,i2],l2≠x) {xs ys:Array Value} (hs:ys.size=xs.size) :
  ZD prog w A z TI TO i1 i2 [i1,l1] [i2,l2] xs.size (λi v=>xs[i]?=some v) (λi v=>ys[i]?=some v) (λi h=>h.IsTupleIter i1 l1 i/\h.IsTuple l1 xs) (λi h=>h.IsListIter i2 l2 i/\h.IsList l2 ys) where
 d1:=drawsT hh i1 l1 (a1 _ (by simp)) xs
 d2:=hs ▸ Draws.list hh i2 l2 (a2 _ (by simp)) ys
 ne:=ne
 f1:=by
  obtain ⟨n1,n2,n3,n4,n5,n6,n7,n8,n9,n10⟩:=ne
  have b1:=a1 z (by simp);have b2:=a1 TO (by simp);have b3:=a1 i2 (by simp)
  simp only [zE,zI,or_false,not_or]
  exact ⟨⟨n3.symm,b1.symm⟩,⟨n8,b2.symm⟩,n10.symm,b3.symm⟩
 f2:=by
  obtain ⟨n1,n2,n3,n4,n5,n6,n7,n8,n9,n10⟩:=ne
  have b1:=a2 z (by simp);have b2:=a2 TO (by simp);have b3:=a2 i1 (by simp)
  simp only [zE,zI,or_false,not_or]
  exact ⟨⟨n4.symm,b1.symm⟩,⟨n9,b2.symm⟩,n10,b3.symm⟩
end
def IzN (K:PySem.W.Frag) (a b:Addr):It:=
 ⟨λi H=>∃ xs ys x y,SqT K H a xs/\SqL K H b ys/\xs.length=ys.length/\xs[i]?=some x/\ys[i]?=some y,λi H v H'=>∃ p x y,H p=none/\v=.ref p/\H'=upd H p (.tup [x,y])/\∀ xs ys,SqT K H a xs->SqL K H b ys->xs[i]?=some x/\ys[i]?=some y,
  λi H=>∃ xs ys,SqT K H a xs/\SqL K H b ys/\xs.length=ys.length/\xs.length=i⟩
theorem turn_zipN {P:Program}{w:World}{K:PySem.W.Frag}{es:List Expr}{k:Nat}{pos:Pos} (l1 l2 z TI TO i1 i2:Addr) (ap:ZN z TI TO i1 i2) (a1:∀ x∈[z,TO,i1,i2],l1≠x) (a2:∀ x∈[z,TO,i1,i2],l2≠x) :
  Turn P w K (.Tuple es k pos) (IzN K l1 l2) [z,TI,TO,i1,i2] z (λi h=>IsZip h z TI TO .none/\IsPair h TI (.ref i1) (.ref i2)/\(∃ a b,IsPair h TO a b)/\h.IsTupleIter i1 l1 i/\h.IsListIter i2 l2 i) where
 mem:=by simp
 obj:=λi h st b hb=>by
  obtain ⟨hz,hTI,⟨a,c,hTO⟩,⟨o1,g1,c1,d1⟩,⟨o2,g2,c2,d2⟩⟩:=st
  simp only [zE,zI,or_false] at hb
  rcases hb with e | e | e | e | e <;> subst e
  ·exact ⟨_,hz,λv q=>nomatch q⟩
  ·exact ⟨_,hTI,λv q=>nomatch q⟩
  ·exact ⟨_,hTO,λv q=>nomatch q⟩
  ·exact ⟨o1,g1,λv q=>by rw [d1] at q;cases q⟩
  ·exact ⟨o2,g2,λv q=>by rw [d2] at q;cases q⟩
 keep:=λi h h' st q=>by
  obtain ⟨hz,hTI,⟨a,c,hTO⟩,⟨o1,g1,r1⟩,⟨o2,g2,r2⟩⟩:=st
  exact ⟨q z (by simp) _ hz,q TI (by simp) _ hTI,⟨a,c,q TO (by simp) _ hTO⟩,⟨o1,q i1 (by simp) o1 g1,r1⟩,⟨o2,q i2 (by simp) o2 g2,r2⟩⟩
 item:=by
  intro X hP hw hK hc i pins s σ H E I hf st hg
  subst hP hw hK
  obtain ⟨xs,ys,x,y,hq1,hq2,el,hx,hy⟩:=hg
  obtain ⟨its1,rv1,p1,hz1⟩:=I.tuple hq1
  obtain ⟨its2,rv2,p2,hz2⟩:=I.list hq2
  obtain ⟨u,hu,ru⟩:=rv1.get hx
  obtain ⟨v,hv,rv⟩:=rv2.get hy
  obtain ⟨hZ,hTI,⟨a0,c0,hTO⟩,hi1,hi2⟩:=st
  have t1:s.heap.IsTuple l1 its1.toArray:=p1
  have t2:s.heap.IsList l2 its2.toArray:=p2.isList
  have fp:=λb hb=>hf b hb
  have lt:∀ b,b∈[z,TI,TO,i1,i2]->b < s.heap.objs.size:=λb hb=>by
   simp only [zE,zI,or_false] at hb
   rcases hb with e | e | e | e | e <;> subst e
   ·exact Heap.lt_size hZ
   ·exact Heap.lt_size hTI
   ·exact Heap.lt_size hTO
   ·exact let ⟨_,z,_⟩:=hi1;Heap.lt_size z
   ·exact let ⟨_,z,_⟩:=hi2;Heap.lt_size z
  have ll1:l1 < s.heap.objs.size:=let ⟨_,z,_⟩:=t1;Heap.lt_size z
  have ll2:l2 < s.heap.objs.size:=let ⟨_,z,_⟩:=t2;Heap.lt_size z
  have e1:=rv1.length
  have e2:=rv2.length
  have ix:=(zH.mp hu).1
  refine zdn_item (ZD.mixN (A:=X.A.in1) (I.ok.hd hc) ap a1 a2 (xs:=its1.toArray) (ys:=its2.toArray) (by simp;omega)) (by simpa using ix) hZ hTI hTO ⟨hi1,t1⟩ ⟨hi2,t2⟩ (λu' v' h1 tk hu' hv' hZ1 hTO1 hs1 hs2 hT hsz hk=>?_) (λb hb=>?_) (λb hb=>?_)
  rotate_left
  ·simp only [zE,zI,or_false] at hb
   rcases hb with e | e
   ·rw [e];exact lt i1 (by simp)
   ·rw [e];exact ll1
  ·simp only [zE,zI,or_false] at hb
   rcases hb with e | e
   ·rw [e];exact lt i2 (by simp)
   ·rw [e];exact ll2
  obtain rfl:u=u':=by
   have q:its1.toArray[i]?=some u:=by simpa using hu
   exact Option.some.inj (q.symm.trans hu')
  obtain rfl:v=v':=by
   have q:its2.toArray[i]?=some v:=by simpa using hv
   exact Option.some.inj (q.symm.trans hv')
  refine ⟨_,rfl,?_⟩
  refine wpAny_letOwnedTupleGo_zip hZ1 λh2 hZ2 hs2'=>?_
  replace hs2':Heap.SameBut z h1 h2:=hs2'
  obtain ⟨n1,n2,n3,n4,n5,n6,n7,n8,n9,n10⟩:=ap
  have old2:∀ b o,b ∉ [z,TO,i1,i2]->s.heap.get? b=some o->h2.get? b=some o:=λb o hb q=>by
   simp only [zE,zI,or_false,not_or] at hb
   exact hs2'.extBut b o hb.1 (hk b o hb.1 hb.2.1 hb.2.2.1 hb.2.2.2 q)
  have hT2:h2.get? s.heap.objs.size=some { cls:=.type "tuple", data:=.seq #[u,v] }:=hs2'.extBut _ _ (yS (lt z (by simp))) hT
  have nT:H s.heap.objs.size=none:=I.hok.fresh (zF _)
  have sub:∀ b,b∈[z,TO,i1,i2]->b∈[z,TI,TO,i1,i2]:=λb hb=>by
   simp only [zE,zI,or_false] at hb ⊢
   rcases hb with e | e | e | e <;> simp [e]
  refine ⟨.ref s.heap.objs.size,upd H s.heap.objs.size (.tup [x,y]),?_,rfl,⟨_,x,y,nT,rfl,rfl,λys' zs' h1 h2=>by rw [I.tuple_inj h1 hq1,I.list_inj h2 hq2];exact ⟨hx,hy⟩⟩,⟨hZ2,?_,⟨u,v,?_⟩,?_,?_⟩,λb hb=>?_⟩
  ·refine Inv.step (s:=s) (h':=h2) (g':=s.gens) (d':=s.drawn) (t':=tk) (ch:=[z,TO,i1,i2]) I (λb hb=>?_) (λb o _ _ hb q _=>old2 b o hb q) (λb o _ _ hb q _=>⟨o.slots,old2 b o hb q⟩)
    (λb o _ q n=>by rw [xH (zW (Heap.lt_size q))];exact n) (λb o hb q=>⟨o,old2 b o hb q⟩)
    (λb ys q=>by rw [xH (yz q nT)];exact q) (λb o v q=>by rw [xH (yz q nT)];exact q) (λb ps q=>⟨#[],by rw [xH (yz q nT),q];simp⟩)
    (λm hm=>by
     obtain ⟨o,es',ep,q,r⟩:=hm
     exact ⟨o,es',ep,old2 _ o (λhb=>(fp _ (sub _ hb)).2.1 rfl) q,r⟩) (λb v' q=>?_) I.bare
   ·obtain ⟨e0,e1,e2,e3,e4,e5⟩:=fp b (sub b hb)
    exact ⟨e3,e1,e4,e5⟩
   ·by_cases hb:b=s.heap.objs.size
    ·subst hb
     rw [yx] at q
     cases q
     exact ⟨⟨by show 2<=sizeLine;rw [sizeLine_eq];decide,λob e=>by rw [hT2] at e;cases e;rfl⟩,[u,v],.cons ru (.cons rv .nil),⟨_,hT2,rfl,_,rfl⟩⟩
    ·rw [xH hb] at q
     refine (I.hok b v' q).stay (λc ob hc qc=>old2 c ob (λhb=>?_) qc) (λc qc=>by rw [xH (yz qc nT)];exact qc) λc ys qc=>by rw [xH (yz qc nT)];exact qc
     have e0:=(fp c (sub c hb)).1
     rcases hc with z | z
     ·subst z;exact yz q e0 rfl
     ·exact yz z e0 rfl
  ·exact old2 _ _ (by simp only [zE,zI,or_false,not_or];exact ⟨n1,n5,n6,n7⟩) hTI
  ·exact hs2'.extBut _ _ n2 hTO1
  ·obtain ⟨o,q,r⟩:=hs1.1
   exact ⟨o,hs2'.extBut i1 o n3 q,r⟩
  ·obtain ⟨o,q,r⟩:=hs2.1
   exact ⟨o,hs2'.extBut i2 o n4 q,r⟩
  ·rw [xH (zW (lt b hb))];exact (fp b hb).1
 done:=by
  intro X hP hw hK hc i pins s σ H E I hf st hg
  subst hP hw hK
  obtain ⟨xs,ys,hq1,hq2,el,hx⟩:=hg
  obtain ⟨its1,rv1,p1,hz1⟩:=I.tuple hq1
  obtain ⟨its2,rv2,p2,hz2⟩:=I.list hq2
  obtain ⟨hZ,hTI,⟨a0,c0,hTO⟩,hi1,hi2⟩:=st
  have t1:s.heap.IsTuple l1 its1.toArray:=p1
  have l1':=rv1.length
  have l2':=rv2.length
  have en:i=its1.toArray.size:=by simp;omega
  subst en
  have sub:∀ b,b∈[z,TO,i1,i2]->b∈[z,TI,TO,i1,i2]:=λb hb=>by
   simp only [zE,zI,or_false] at hb ⊢
   rcases hb with e | e | e | e <;> simp [e]
  refine zdn_end (ZD.mixN (A:=X.A.in1) (I.ok.hd hc) ap a1 a2 (xs:=its1.toArray) (ys:=its2.toArray) (by simp;omega)) hZ hTI hTO ⟨hi1,t1⟩ λh' hk=>⟨rfl,?_⟩
  have old2:∀ b o,b ∉ [z,TO,i1,i2]->s.heap.get? b=some o->h'.get? b=some o:=λb o hb q=>by
   simp only [zE,zI,or_false,not_or] at hb
   exact hk b o hb.1 hb.2.1 hb.2.2.1 hb.2.2.2 q
  refine Inv.step (s:=s) (h':=h') (g':=s.gens) (d':=s.drawn) (t':=s.toks) (ch:=[z,TO,i1,i2]) I (λb hb=>?_) (λb o _ _ hb q _=>old2 b o hb q) (λb o _ _ hb q _=>⟨o.slots,old2 b o hb q⟩)
    (λb o _ q n=>n) (λb o hb q=>⟨o,old2 b o hb q⟩)
    (λb ys q=>q) (λb o v q=>q) (λb ps q=>⟨#[],by rw [q];simp⟩)
    (λm hm=>by
     obtain ⟨o,es',ep,q,r⟩:=hm
     exact ⟨o,es',ep,old2 _ o (λhb=>(hf _ (sub _ hb)).2.1 rfl) q,r⟩) (λb v' q=>?_) I.bare
  ·obtain ⟨e0,e1,e2,e3,e4,e5⟩:=hf b (sub b hb)
   exact ⟨e3,e1,e4,e5⟩
  ·refine (I.hok b v' q).stay (λc ob hc qc=>old2 c ob (λhb=>?_) qc) (λc qc=>qc) λc ys qc=>qc
   have e0:=(hf c (sub c hb)).1
   rcases hc with z | z
   ·subst z;exact yz q e0 rfl
   ·exact yz z e0 rfl
 self:=λ_ _ _ _ _ st h=>wpAny_pyIter_zip st.1 h
def iZipN (K:PySem.W.Frag) (ta:TA):TI:=fun σ H R=>ta σ H λvs H1=>∃ a b,vs=[.ref a,.ref b]/\(∃ xs,SqT K H1 a xs)/\(∃ ys,SqL K H1 b ys)/\R (IzN K a b) H1
theorem pi_zipN {X:Cx}{a b:Expr}{ta:TA} {p pos pos2:Pos}{es:List Expr}{k:Nat}{K:PySem.W.Frag} (hK:X.K=K) (hg:Gl X "zip") (hm:X.mg "zip" = none) (ha:PA X [a,b] ta)
  (hs:starEach [a,b] X.env=(false,eval a X.env)::starEach [b] X.env:=by rfl) (hs2:starEach [b] X.env=[(false,eval b X.env)]:=by rfl) :
  PI X (.Tuple es k pos2) (.Call (.Name "zip" p) [a,b] [] pos) (iZipN K ta):=by
 subst hK
 intro pins s σ H R I h
 refine Call_ (ld_blt I hg hm boot_zip (zy (thn (ha pos pins s σ H _ I h) λus s1 ⟨vs,H1,I1,r1,q1⟩=>?_) (by rw [hs,hs2]) (by rw [hs2];rfl)))
 obtain ⟨l1,l2,e,⟨xs,hq1⟩,⟨ys,hq2⟩,q⟩:=q1
 subst e
 cases r1 with
 | cons r rr=>
  cases rr with
  | cons r' rr=>
   cases rr
   cases r
   cases r'
   obtain ⟨its1,rv1,p1,hz1⟩:=I1.tuple hq1
   obtain ⟨its2,rv2,p2,hz2⟩:=I1.list hq2
   have t1:s1.heap.IsTuple l1 its1.toArray:=p1
   have t2:s1.heap.IsList l2 its2.toArray:=p2.isList
   have lt1:l1 < s1.heap.objs.size:=let ⟨_,z,_⟩:=t1;Heap.lt_size z
   have lt2:l2 < s1.heap.objs.size:=let ⟨_,z,_⟩:=t2;Heap.lt_size z
   refine callType_new F.called_zip (by decide) (F.typeCall_zip_2 _ _) (F.newCall_zip_2 _ _) (λobj=>F.args_object_init_3 obj _ _) F.entry_zip_new (zipN_new l1 l2 its1.toArray its2.toArray) ⟨t1,t2,λh' hZ hTI hTO hi1 hi2 hk=>⟨⟨_,hZ,rfl⟩,?_⟩⟩
   refine wpAny_pyIter_zip hZ ?_
   have I2:Inv X pins σ H1 { s1 with heap:=h' }:=I1.kept (t':=s1.toks) hk
   refine ⟨s1.heap.objs.size + 4,[s1.heap.objs.size + 4,s1.heap.objs.size + 2,s1.heap.objs.size + 3,s1.heap.objs.size,s1.heap.objs.size + 1],_,_,H1,rfl,I2,turn_zipN l1 l2 _ _ _ _ _ ?_ ?_ ?_,⟨hZ,hTI,⟨_,_,hTO⟩,hi1,hi2⟩,λb hb=>?_,q⟩
   ·have z:=zipApart_new lt1 lt2
    exact ⟨z.TIz,z.TOz,z.i1z,z.i2z,z.TITO,z.TIi1,z.TIi2,z.TOi1,z.TOi2,z.i12⟩
   ·intro x hx
    have z:=zipApart_new lt1 lt2
    simp only [zE,zI,or_false] at hx
    rcases hx with e | e | e | e <;> subst e
    ·exact z.l1z
    ·exact z.l1TO
    ·exact z.l1i1
    ·exact z.l1i2
   ·intro x hx
    have z:=zipApart_new lt1 lt2
    simp only [zE,zI,or_false] at hx
    rcases hx with e | e | e | e <;> subst e
    ·exact z.l2z
    ·exact z.l2TO
    ·exact z.l2i1
    ·exact z.l2i2
   ·have hb':s1.heap.objs.size<=b:=by
     simp only [zE,zI,or_false] at hb
     rcases hb with e | e | e | e | e <;> rw [e] <;> first | exact zF _ | exact ym _ _
    exact I1.fpOk hb' (I1.hok.fresh hb')
section
variable {K:PySem.W.Frag}{a b:Addr}{xs ys:List V}{n:Nat}{caps:List Nat}{g:TG}{tc:TT}{te:TE}{σ:St}{H:Hp}{Qf:Addr->Hp->List V->Prop}
theorem comp_zipN (el:xs.length=ys.length) (Pv:Nat->St->List V->Hp->Prop) (h0:Pv 0 (tau0 n caps σ) [] H) (hn:xs.length<=1000) (hl:∀ i τ acc H,Pv i τ acc H->acc.length<=i/\SqT K H a xs/\SqL K H b ys)
  (hs:∀ i x y q τ acc H (C:St->List V->Hp->Prop),xs[i]?=some x->ys[i]?=some y->H q=none->Pv i τ acc H->(∀ τ acc H,Pv (i + 1) τ acc H->C τ acc H)->g (.ref q) τ (upd H q (.tup [x,y])) fun τ2 H2=>tc τ2 H2 λb H3=>if b=true then te τ2 H3 λy H4=>C τ2 (acc++[y]) H4 else C τ2 acc H3)
  (hd:∀ τ acc H,Pv xs.length τ acc H->∀ p,H p=none->Qf p H acc) :
  ∃ W:Nat->Nat->St->List V->Hp->Prop,(∃ m,W 0 m (tau0 n caps σ) [] H)/\∀ i m τ acc H,W i m τ acc H ->
   ((IzN K a b).stop i H/\acc.length<=sizeLine/\∀ p,H p=none->Qf p H acc) \/
   ((IzN K a b).go i H/\acc.length < sizeLine/\∀ x H',(IzN K a b).yld i H x H'->g x τ H' fun τ2 H2=>tc τ2 H2 λb H3=>if b=true then te τ2 H3 λy H4=>∃ m',m' < m/\W (i + 1) m' τ2 (acc++[y]) H4 else ∃ m',m' < m/\W (i + 1) m' τ2 acc H3):=
 comp_of (J:=IzN K a b) Pv xs.length h0 hn (λi τ acc H p=>(hl i τ acc H p).1) (λi τ acc H hi p=>⟨xs,ys,xs[i],ys[i]'(by omega),(hl i τ acc H p).2.1,(hl i τ acc H p).2.2,el,by simp [hi],by simp [<-el,hi]⟩) (fun τ acc H p=>⟨xs,ys,(hl _ τ acc H p).2.1,(hl _ τ acc H p).2.2,el,rfl⟩)
  (λi τ acc H C hi p c x H' y=>by obtain ⟨q,x',y',hq,e1,e2,y⟩:=y;subst e1;subst e2;exact hs i x' y' q τ acc _ C (y xs ys (hl i τ acc _ p).2.1 (hl i τ acc _ p).2.2).1 (y xs ys (hl i τ acc _ p).2.1 (hl i τ acc _ p).2.2).2 hq p c) hd
end
end L2
namespace L2
open PySem PySem.Spec PyProof.Rows
section
variable {M:Model}{A:Around}{E:Value->Shared->Prop}{s:Shared}
end
section
variable {X:Cx}{pins:List (Addr×Obj)}{σ:St}{H:Hp}{s:Shared}
end
theorem lookup_relabel_cell {env:Env}:∀ {names:List (Str×NameKind)}{x:Str},names.lookup x=some .cell ->
  (names.map λ(n,k)=>if (k == NameKind.free && env.scope.kind == .function && env.kindOf n == some .cell) then (n,NameKind.cell) else (n,k)).lookup x=some .cell
 | [],_,h=>by simp at h
 | (n,k)::r,x,h=>by
  have ih:=@lookup_relabel_cell env r x
  show List.lookup x ((if (k == NameKind.free && env.scope.kind == .function && env.kindOf n == some .cell)=true then (n,NameKind.cell) else (n,k))::_)=_
  by_cases hc:(k == NameKind.free && env.scope.kind == .function && env.kindOf n == some .cell)=true
  ·rw [if_pos hc]
   cases hx:x == n with
   | true=>simp [yB,hx]
   | false=>
    simp only [yB,hx] at h ⊢
    exact ih h
  ·rw [if_neg hc]
   cases hx:x == n with
   | true=>simp only [yB,hx] at h ⊢;exact h
   | false=>
    simp only [yB,hx] at h ⊢
    exact ih h
theorem CompScope.inn {own:List Str}{caps:List Nat}{N:List Str}{so scope:Scope}{env:Env} (h1:scope.kind=.function) (h2:∀ y∈scope.names,y.2≠.cell) (h3:∀ y∈scope.names,y.2=.local->scope.names.lookup y.1=some .local)
  (h4:∀ y∈scope.names,y.2=.free->so.names.lookup y.1=some .cell\/so.names.lookup y.1=some .free) (h5:∀ i∈caps,i < N.length/\scope.names.lookup ((N[i]?).getD Str.empty)=some .free):CompScope own caps N (relabel so env) scope:=
 ⟨h1,h2,h3,λy hy e=>(h4 y hy e).elim (λz=>.inl (lookup_relabel_cell z)) λz=>wU z,h5⟩
end L2
namespace Sm
open PySem L2 SmSort
abbrev Ds:=List (V×Option (Int×Int))
def givB (ms:List M4) (d:Option (Int×Int)):Bool:=match d with
 | none=>false
 | some (k,g)=>decide (0<=k) && (decide (k < ms.length) && (match ms[k.toNat]? with | some m=>decide (g=m.lo) || decide (g=m.hi) | none=>false))
def ttr (ms:List M4):Fn->Int->List (Option (Int×Int))->Option Fn
 | f,_,[]=>some f
 | _,_,none::_=>none
 | f,bh,some (k,g)::r=>match ms[k.toNat]? with
  | none=>none
  | some m=>if givB ms (some (k,g))=true/\bh < k/\below (f g.toNat) m.t=true then ttr ms (fstep f ⟨g.toNat,(if g=m.lo then m.hi else m.lo).toNat,m.t⟩) k r else none
def tt (ms:List M4) (s:Nat) (a:Int):Option Ds->Option Fn
 | none=>none
 | some ps=>ttr ms (lone s a) (-1) (ps.map (·.2))
end Sm
namespace Sm
open PySem L2 SmSort
end Sm
namespace Sm
open PySem L2 SmSort
end Sm
namespace Sm
open PySem L2 SmSort
end Sm
namespace Sm
open PySem L2 SmSort
section
variable {K:PySem.W.Frag}{H:Hp}{σ:St}{lt p:Addr}{n g:Nat}{f:Fn}{t:Int}{Q:VK}
end
end Sm
namespace Sm
open PySem L2 SmSort
end Sm
namespace Sm
open PySem L2 SmSort
section
variable {K:PySem.W.Frag}{H:Hp}{a b:Addr}{xs ys:List V}{lo hi:Option Int}{Q:VK}
end
end Sm
namespace Sm
open PySem L2 SmSort
end Sm
namespace Sm
open PySem L2 SmSort
section
variable {K:PySem.W.Frag}{D:Ends}{σ:St}{HI H:Hp}{l la lb lf:Addr}{x:V}{ss A C:List (Addr×Int×Int)}{n:Nat}{o:Option (Int×Int)}
end
section
variable {K:PySem.W.Frag}{D:Ends} {HI H0:Hp}{l la lb lf lm:Addr}{ms:List V}{ss A C:List (Addr×Int×Int)}{n:Nat} {s0 s1 s2 s3 s4 s5 s6 s8:Option V}
end
end Sm
namespace Sm
open PySem L2 SmSort
end Sm
namespace Sm
open PySem L2 SmSort
section
variable {K:PySem.W.Frag}{σ:St}{H:Hp}
end
end Sm
namespace Sm
open PySem L2 SmSort
section
variable {K:PySem.W.Frag}{σ:St}{H:Hp}
end
end Sm
namespace L2
end L2
namespace Sm
open PySem L2
structure S3 where
 w:Int
 t:Int
 m:Int
structure SacksAt (H:Hp) (l:Addr) (ps:List (Addr×S3)):Prop where
 l:H l=some (.lst (ps.map λa=>V.ref a.1))
 each:∀ a∈ps,H a.1=some (.tup [.int a.2.w,.int a.2.t,.int a.2.m])
theorem SacksAt.same {H H':Hp}{l:Addr}{ps:List (Addr×S3)} (h:SacksAt H l ps) (s:Same H H'):SacksAt H' l ps:=⟨s _ _ h.l,λa ha=>s _ _ (h.each a ha)⟩
def strB (l w:S3):Bool:=decide (l.w=w.w) && decide (l.t<=w.t)
def spStraight1:Sp:=λvs H Q _=>∃ a b l w,vs=[.ref a,.ref b]/\H a=some (.tup [.int l.w,.int l.t,.int l.m])/\H b=some (.tup [.int w.w,.int w.t,.int w.m])/\Q (.bl (strB l w)) H
theorem inV_two36 {x a b:Int}:inV (V.int x) [V.int a,V.int b]=(decide (x=a) || decide (x=b)):=by
 have:=inV_ints (x:=x) (bs:=[a,b])
 simp only [zt,yZ] at this
 rw [this];by_cases c:x=a <;> by_cases d:x=b <;> simp [c,d]
theorem ixNI {n:Nat}{i:Int} (h0:0<=i) (h1:i < n):ixN n i=some i.toNat:=by unfold ixN;rw [if_pos h0,if_pos h1]
theorem zip_at {α β:Type}{xs:List α}{ys:List β}{i:Nat}{x:α}{y:β} (hx:xs[i]?=some x) (hy:ys[i]?=some y):(xs.zip ys)[i]?=some (x,y):=by
 rw [yA];exact ⟨hx,hy⟩
theorem xT {α:Type}{ps:List (Addr×α)}{i:Nat}{r:Addr×α} (h:ps[i]?=some r):(ps.map (·.2))[i]?=some r.2:=by rw [zJ,h];rfl
theorem wl {α:Type}{xs:List α}{i:Nat}{x:α} (h:xs[i]?=some x):xs.drop i=x::xs.drop (i + 1):=by
 obtain ⟨hi,e⟩:=zH.mp h
 rw [List.drop_eq_getElem_cons hi,e]
end Sm
namespace Sm
open PySem L2
theorem same_go36 {p:Addr} {H H1 H2:Hp} (hp:H p=none) (s:Same H H1) (g:But p H1 H2):Same H H2:=λb u e=>g b u (yz e hp) (s b u e)
theorem Go.put' {p l:Addr}{H H':Hp}{o:HO} (g:Go p H H') (h:H l=none) (n:l≠p):Go p H (upd H' l o):=
 ⟨λb u nb e=>by rw [xH (yz e h)];exact g.1 b u nb e,by obtain ⟨a,b,c,e⟩:=g.2;exact ⟨a,b,c,by rw [xH n.symm];exact e⟩⟩
def spSack36:Sp:=λvs H Q _=>∃ p b j rooms tr tm ps,∃ n:Nat,vs=[.ref p,.ref b,.int n,.int j]/\(j=0\/j=1)/\BookAt H b rooms tr tm ps/\Good rooms.length (ps.map (·.2))/\1<=n/\n<=1000/\Purse H p /\
 ∀ t (s:S3) H',Go p H H'->H' t=some (.tup [.int s.w,.int s.t,.int s.m])->0<=s.w->s.w < n->1<=s.m->s.m<=99->Q (.ref t) H'
def spSacks36 (K:PySem.W.Frag):Sp:=λvs H Q _=>∃ sa b hd j rooms tr tm ps ns,∃ n:Nat,∃ H0,vs=[.ref sa,.ref b,.ref hd,.int n,.int j]/\SqL K H0 sa (List.map V.int ns)/\ns.length<=63/\H0 hd=none/\Same H0 H/\n < 100/\(j=0\/j=1)/\BookAt H b rooms tr tm ps/\Good rooms.length (ps.map (·.2))/\1<=rooms.length/\rooms.length<=12/\Purse H hd /\
 ∀ l (ss:List (Addr×S3)) H',H l=none->Go hd H H'->SacksAt H' l ss->ss.length<=8->(∀ a∈ss,0<=a.2.w/\a.2.w < rooms.length/\1<=a.2.m/\a.2.m<=99)->Q (.ref l) H'
end Sm
namespace L2
open PySem PySem.Spec PyProof.Rows
theorem compTurn_two0 (elt t1 i1 t2 i2:Expr) (ifs1 ifs2:List Expr) (scope:Scope) (pos:Pos) (it acc:Value) (env:Env) :
  compTurn (.ListComp elt [⟨t1,i1,ifs1,0⟩,⟨t2,i2,ifs2,0⟩] scope pos) 0 it acc env=(do
   standAt i1.pos
   match <- pyNext it with
   | none=>pure (.done .next)
   | some v=>
    letOwnedTupleGo t1 it v
    assign t1 env v
    let mut ok:=true
    for c in ifs1 do
     if ok then ok <- isTrue c env (eval c env)
    if ok then
     let x <- eval i2 env
     standAt i2.pos
     let x <- foldedSetIterable i2 env x
     let it2 <- holding [x] (pyIter x)
     let _ <- runOwn (.compStart (.ListComp elt [⟨t1,i1,ifs1,0⟩,⟨t2,i2,ifs2,0⟩] scope pos) 1 it2 acc env) env
     again (.compLoop (.ListComp elt [⟨t1,i1,ifs1,0⟩,⟨t2,i2,ifs2,0⟩] scope pos) 0 it acc env)
    else
     again (.compLoop (.ListComp elt [⟨t1,i1,ifs1,0⟩,⟨t2,i2,ifs2,0⟩] scope pos) 0 it acc env)):=by rfl
theorem compTurn_two1 (elt t1 i1 t2 i2:Expr) (ifs1 ifs2:List Expr) (scope:Scope) (pos:Pos) (it acc:Value) (env:Env) :
  compTurn (.ListComp elt [⟨t1,i1,ifs1,0⟩,⟨t2,i2,ifs2,0⟩] scope pos) 1 it acc env=(do
   standAt i2.pos
   match <- pyNext it with
   | none=>pure (.done .next)
   | some v=>
    letOwnedTupleGo t2 it v
    assign t2 env v
    let mut ok:=true
    for c in ifs2 do
     if ok then ok <- isTrue c env (eval c env)
    if ok then
     (do let _ <- call (.builtin "list.append") [acc,<- eval elt env])
    again (.compLoop (.ListComp elt [⟨t1,i1,ifs1,0⟩,⟨t2,i2,ifs2,0⟩] scope pos) 1 it acc env)):=by rfl
section
variable {prog:Program}{w:World}{A:Around}{R:Result->Shared->Prop}{s:Shared} {elt t1 i1 t2 i2:Expr} {ifs1 ifs2:List Expr}{scope:Scope}{pos:Pos}{it acc:Value}{env:Env}
abbrev tests (ifs:List Expr) (env:Env):Sem Bool:=forIn ifs true λc r=>if r=true then do let ok <- isTrue c env (eval c env);pure (ForInStep.yield ok) else pure (ForInStep.yield r)
theorem loop_comp1 (I:Nat->Shared->Prop)
  (turn:∀ n s,I n s->wpAny (model prog w) A (pyNext it) (λr s₁=>match r with
   | none=>R (.ok .next) s₁
   | some v=>wpAny (model prog w) A (letOwnedTupleGo t2 it v) (λ_ s₁'=>wpAny (model prog w) A (assign t2 env v) (λ_ s₂=>
     wpAny (model prog w) A (tests ifs2 env) (λok s₃=>
      if ok=true then wpAny (model prog w) A (eval elt env) (λx s₄=>
       wpAny (model prog w) A (call (.builtin "list.append") [acc,x]) (λ_ s₅=>∃ m,m < n/\I m s₅) (λ_ _=>False) s₄) (λ_ _=>False) s₃
      else ∃ m,m < n/\I m s₃) (λ_ _=>False) s₂) (λ_ _=>False) s₁') (λ_ _=>False) s₁) (λ_ _=>False) s)
  (n:Nat) (h:I n s) :
  codeAny (model prog w) A (.compLoop (.ListComp elt [⟨t1,i1,ifs1,0⟩,⟨t2,i2,ifs2,0⟩] scope pos) 1 it acc env) R s:=by
 refine codeAny_loop rfl I (λn s hI=>?_) n h
 show wpAny _ A ((compTurn (.ListComp elt [⟨t1,i1,ifs1,0⟩,⟨t2,i2,ifs2,0⟩] scope pos) 1 it acc env).onRaise (λx=>do noteFrame x env;theTreesLotGoes x)) _ _ s
 refine wpAny_noted ?_
 rw [compTurn_two1]
 refine wpAny_bind (wpAny_standAt (wpAny_bind (wpAny_mono (turn n s hI) (λr s₁ h₁=>?_) λ_ _ h'=>h'.elim)))
 cases r with
 | none=>exact wpAny_pure h₁
 | some v=>
  refine wpAny_bind (wpAny_mono h₁ (λ_ s₁' h₁'=>?_) λ_ _ h'=>h'.elim)
  refine wpAny_bind (wpAny_mono h₁' (λ_ s₂ h₂=>wpAny_bind (wpAny_mono h₂ (λok s₃ h₃=>?_) λ_ _ h'=>h'.elim)) λ_ _ h'=>h'.elim)
  cases ok with
  | false=>exact wpAny_pure ⟨rfl,h₃⟩
  | true=>
   exact wpAny_bind (wpAny_bind (wpAny_mono h₃ (λx s₄ h₄=>wpAny_bind (wpAny_mono h₄ (λ_ s₅ h₅=>wpAny_pure (wpAny_pure ⟨rfl,h₅⟩)) λ_ _ h'=>h'.elim)) λ_ _ h'=>h'.elim))
theorem loop_comp0 (I:Nat->Shared->Prop) (hs2:∀ x,foldedSetIterable i2 env x=pure x)
  (turn:∀ n s,I n s->wpAny (model prog w) A (pyNext it) (λr s₁=>match r with
   | none=>R (.ok .next) s₁
   | some v=>wpAny (model prog w) A (letOwnedTupleGo t1 it v) (λ_ s₁'=>wpAny (model prog w) A (assign t1 env v) (λ_ s₂=>
     wpAny (model prog w) A (tests ifs1 env) (λok s₃=>
      if ok=true then wpAny (model prog w) A (eval i2 env) (λx s₄=>wpAny (model prog w) A (pyIter x) (λit2 s₅=>
       codeAny (model prog w) A (.compStart (.ListComp elt [⟨t1,i1,ifs1,0⟩,⟨t2,i2,ifs2,0⟩] scope pos) 1 it2 acc env) (λr s₆=>(∃ f,r=.ok f)/\∃ m,m < n/\I m s₆) s₅) (λ_ _=>False) s₄) (λ_ _=>False) s₃
      else ∃ m,m < n/\I m s₃) (λ_ _=>False) s₂) (λ_ _=>False) s₁') (λ_ _=>False) s₁) (λ_ _=>False) s)
  (n:Nat) (h:I n s) :
  codeAny (model prog w) A (.compLoop (.ListComp elt [⟨t1,i1,ifs1,0⟩,⟨t2,i2,ifs2,0⟩] scope pos) 0 it acc env) R s:=by
 refine codeAny_loop rfl I (λn s hI=>?_) n h
 show wpAny _ A ((compTurn (.ListComp elt [⟨t1,i1,ifs1,0⟩,⟨t2,i2,ifs2,0⟩] scope pos) 0 it acc env).onRaise (λx=>do noteFrame x env;theTreesLotGoes x)) _ _ s
 refine wpAny_noted ?_
 rw [compTurn_two0]
 refine wpAny_bind (wpAny_standAt (wpAny_bind (wpAny_mono (turn n s hI) (λr s₁ h₁=>?_) λ_ _ h'=>h'.elim)))
 cases r with
 | none=>exact wpAny_pure h₁
 | some v=>
  refine wpAny_bind (wpAny_mono h₁ (λ_ s₁' h₁'=>?_) λ_ _ h'=>h'.elim)
  refine wpAny_bind (wpAny_mono h₁' (λ_ s₂ h₂=>wpAny_bind (wpAny_mono h₂ (λok s₃ h₃=>?_) λ_ _ h'=>h'.elim)) λ_ _ h'=>h'.elim)
  cases ok with
  | false=>exact wpAny_pure ⟨rfl,h₃⟩
  | true=>
   refine wpAny_bind (wpAny_mono h₃ (λx s₄ h₄=>wpAny_bind (wpAny_standAt (wpAny_bind (wpAny_of_eq (hs2 x) (wpAny_bind (wpAny_holding (wpAny_mono h₄ (λit2 s₅ h₅=>?_) λ_ _ h'=>h'.elim))))))) λ_ _ h'=>h'.elim)
   refine wpAny_bind (wpAny_runOwn (codeAny_mono h₅ λr s₆ h₆=>?_))
   obtain ⟨⟨f,rfl⟩,h₆⟩:=h₆
   exact wpAny_pure ⟨rfl,h₆⟩
theorem codeAny_compStart_1
  (h0:codeAny (model prog w) A (.compLoop (.ListComp elt [⟨t1,i1,ifs1,0⟩,⟨t2,i2,ifs2,0⟩] scope pos) 1 it acc env) R s)
  (h:wpAny (model prog w) A (pyIter it) (λit' s'=>codeAny (model prog w) A (.compLoop (.ListComp elt [⟨t1,i1,ifs1,0⟩,⟨t2,i2,ifs2,0⟩] scope pos) 1 it' acc env) R s')
   (notedBy (model prog w) A env λx s'=>R (.error x) s') s) :
  codeAny (model prog w) A (.compStart (.ListComp elt [⟨t1,i1,ifs1,0⟩,⟨t2,i2,ifs2,0⟩] scope pos) 1 it acc env) R s:=by
 refine codeAny_of_tree ?_
 show wpAny _ _ ((compStart (.ListComp elt [⟨t1,i1,ifs1,0⟩,⟨t2,i2,ifs2,0⟩] scope pos) 1 it acc env).onRaise (λx=>do noteFrame x env;standAt theWindowsPlace)) _ _ s
 refine wpAny_notedAt ?_
 unfold compStart
 show wpAny _ _ (ask >>= _) _ _ s
 refine wpAny_bind (wpAny_askSetting (wpAny_ite ?_))
 split
 ·first
   | exact wpAny_bind (wpAny_pure (wpAny_pure (And.intro rfl h0)))
   | exact wpAny_pure (And.intro rfl h0)
 ·first
   | exact wpAny_bind (wpAny_rule (wpAny_bind (wpAny_standAt (wpAny_bind (wpAny_mono h (λit' s' h'=>wpAny_pure (And.intro rfl h')) λ_ _ x=>x)))))
   | (refine wpAny_bind (wpAny_rule ?_);show wpAny _ _ (standAt i2.pos >>= _) _ _ s;exact wpAny_bind (wpAny_standAt (wpAny_bind (wpAny_mono h (λit' s' h'=>wpAny_pure (And.intro rfl h')) λ_ _ x=>x))))
end
end L2
namespace L2
open PySem PySem.Spec PyProof.Rows
def tComp2 (n:Nat) (caps:List Nat) (wi:TI) (g:TG) (tc:TT) (wi2:TI) (g2:TG) (tc2:TT) (te:TE):TE:=fun σ H Q=>wi σ H λJ H1=>∃ W:Nat->Nat->St->List V->Hp->Prop,(∃ m,W 0 m (tau0 n caps σ) [] H1)/\∀ i m τ acc H,W i m τ acc H ->
 (J.stop i H/\acc.length<=sizeLine/\∀ p,H p=none->Q (.ref p) (upd H p (.lst acc))) \/
 (J.go i H/\∀ x H',J.yld i H x H'->g x τ H' fun τ2 H2=>tc τ2 H2 λb H3=>if b=true then wi2 τ2 H3 λJ2 H4=>∃ W2:Nat->Nat->St->List V->Hp->Prop,(∃ m2,W2 0 m2 τ2 acc H4)/\∀ j m2 τ acc H,W2 j m2 τ acc H ->
   (J2.stop j H/\∃ m',m' < m/\W (i + 1) m' τ acc H) \/
   (J2.go j H/\acc.length < sizeLine/\∀ y H',J2.yld j H y H'->g2 y τ H' fun τ3 H5=>tc2 τ3 H5 λb H6=>if b=true then te τ3 H6 λz H7=>∃ m',m' < m2/\W2 (j + 1) m' τ3 (acc++[z]) H7 else ∃ m',m' < m2/\W2 (j + 1) m' τ3 acc H6)
  else ∃ m',m' < m/\W (i + 1) m' τ2 acc H3)
section
variable {X:Cx}{pins:List (Addr×Obj)}{σ:St}{H:Hp}{s:Shared}
theorem pe_comp2 {own:List Str}{caps:List Nat} {elt tg iter tg2 iter2:Expr} {ifs ifs2:List Expr}{scope:Scope}{pos:Pos} {wi wi2:TI} {g g2:TG} {tc tc2:TT}{te:TE} (hc:X.calm=true) (S:CompScope own caps X.N X.env.scope scope) (hi:PI X tg iter wi)
  (hg:∀ s H fp C,PG (cxComp X own caps scope s H fp C) tg g) (ht:∀ s H fp C,PTs (cxComp X own caps scope s H fp C) ifs tc) (he:∀ s H fp C,PE (cxComp X own caps scope s H fp C) elt te)
  (hi2:∀ s H fp C,PI (cxComp X own caps scope s H fp C) tg2 iter2 wi2) (hg2:∀ s H fp C,PG (cxComp X own caps scope s H fp C) tg2 g2) (ht2:∀ s H fp C,PTs (cxComp X own caps scope s H fp C) ifs2 tc2)
  (hs2:∀ env x,foldedSetIterable iter2 env x=pure x:=by intro _ _;rfl) (hs:∀ x,foldedSetIterable iter X.env x=pure x:=by intro _;rfl):PE X (.ListComp elt [⟨tg,iter,ifs,0⟩,⟨tg2,iter2,ifs2,0⟩] scope pos) (tComp2 own.length caps wi g tc wi2 g2 tc2 te):=by
 intro pins s σ H Q I h
 rw [eval_ListComp]
 refine wpAny_comprehension_free (use:=none) (cl:=clOf scope.names X.env []) rfl hs (closureFor_eq λy hy e=>I.ok.has y.1 (S.fr y hy e)) S.kind S.loc
  (wpAny_mono (hi pins s σ H _ I h) (λv s1 h1=>thn h1 λitv s2 h2=>?_) λ_ _ e=>e)
 obtain ⟨it,fp,tn,J,H2,e,I2,T,st2,f2,W,⟨m0,w0⟩,turn⟩:=h2
 subst e
 refine wpAny_newObj_type (wpAny_newFunctionEnv S.nocell (by intro y hy;simp at hy) (λh₁ hns₁ hsb₁=>?_) S.kind)
 dsimp only at hns₁ hsb₁ ⊢
 generalize hH2:s2.heap.push { cls:=.type "list", dict:=none,data:=.seq ([]:List Value).toArray }=G at hns₁ hsb₁ ⊢
 have hG:G.objs.size=s2.heap.objs.size + 1:=by rw [<-hH2,Heap.size_push]
 have hDC:s2.heap.objs.size≠G.objs.size:=by rw [hG];exact zW (Nat.lt_succ_self _)
 have hCle:s2.heap.objs.size<=G.objs.size:=by rw [hG];exact yp _
 have below:∀ b,b < s2.heap.objs.size->b≠G.objs.size:=λb hb=>by rw [hG];exact zW (yk hb)
 have old:∀ b o,s2.heap.get? b=some o->h₁.get? b=some o:=λb o e=>hsb₁.extBut b o (below b (Heap.lt_size e)) (Heap.get?_push_of_some _ (hH2 ▸ Heap.get?_push_of_some _ e))
 have hacc:h₁.get? s2.heap.objs.size=some { cls:=.type "list", dict:=none,data:=.seq ([]:List Value).toArray }:=hsb₁.extBut _ _ hDC (Heap.get?_push_of_some _ (hH2 ▸ Heap.get?_push_size _ rfl))
 have fl:∀ b∈fp,b < s2.heap.objs.size:=λb hb=>let ⟨o,e,_⟩:=T.obj _ _ st2 b hb;Heap.lt_size e
 have hns₁':h₁.Ns G.objs.size λ_=>none:=hns₁
 have I4:=inv_comp (tk:=s2.toks + ([]:List (Str×Value)).length) I2 S f2 fl (zF _) hCle hDC old hns₁' hacc (λv z=>nomatch z)
 have st4:tn 0 h₁:=T.keep _ _ _ st2 λb _ o e=>old b o e
 generalize hs4:({ s2 with heap:=h₁,toks:=s2.toks + ([]:List (Str×Value)).length }:Shared)=s4 at I4 ⊢
 have e4:s4.heap=h₁:=by rw [<-hs4]
 rw [<-e4] at st4
 -- the loop
 have loop:codeAny (model X.prog X.w) X.A (.compLoop (.ListComp elt [⟨tg,iter,ifs,0⟩,⟨tg2,iter2,ifs2,0⟩] scope pos) 0 (.ref it) (.ref s2.heap.objs.size) (compEnvC scope (clOf scope.names X.env []) G.objs.size X.env))
   (compPost (model X.prog X.w) X.A X.xe none (EP X pins σ Q) (.ref s2.heap.objs.size) G.objs.size) s4:=by
  let Y:=cxComp X own caps scope s2 H2 fp G.objs.size
  have stat:∀ {H':Hp}{its:List Value}{n:Nat},(∀ b∈fp,H' b=none)->∀ b∈fp,FpOk Y [(s2.heap.objs.size,({ cls:=.type "list", data:=.seq its.toArray n }:Obj))] H' b:=λ{H' its n} hn b hb=>by
   refine ⟨hn b hb,below b (fl b hb),λz=>?_,.inl hb,λx c e=>(f2 b hb).2.2.2.2.1 x c (xi e),λp hp=>?_⟩
   ·rcases zE.mp (I2.stkSub b z) with e | e
    ·exact (f2 b hb).2.1 e
    ·exact (f2 b hb).2.2.1 e
   ·have e:p=(s2.heap.objs.size,({ cls:=.type "list", data:=.seq its.toArray n }:Obj)):=by simpa using (show p∈[]++[_] from hp)
    subst e
    exact yS (fl b hb)
  refine loop_comp0 (λn s'=>∃ i τ acc its k H',Inv Y [(s2.heap.objs.size,({ cls:=.type "list", data:=.seq its.toArray k }:Obj))] τ H' s'/\tn i s'.heap/\(∀ b∈fp,H' b=none)/\Vals acc its/\W i n τ acc H') (hs2 _) ?_ m0
   ⟨0,_,[],[],0,H2,I4,st4,λb hb=>(f2 b hb).1,.nil,w0⟩
  rintro n s5 ⟨i,τ,acc,its,k,H5,I5,st5,fr5,rv5,w5⟩
  rcases turn i n τ acc H5 w5 with ⟨stop,hz,q⟩ | ⟨go,step⟩
  ·refine thn (T.done Y rfl rfl rfl hc i _ s5 τ H5 (λ_ _=>False) I5 (stat fr5) st5 stop) λr s6 ⟨hr,I6⟩=>?_
   subst hr
   obtain ⟨eD,nD,_,_,_⟩:=I6.pin _ (zD _ (zM.mpr rfl))
   obtain ⟨m6,hm6,_⟩:=I6.loc
   refine ⟨m6,hm6,λh' hsb=>?_⟩
   have hC6:H5 G.objs.size=none:=I6.free
   have eD':h'.get? s2.heap.objs.size=some { cls:=.type "list", data:=.seq its.toArray k }:=hsb.extBut _ _ hDC eD
   have hok6:HOk X.prog X.w H5 h':=λb u e=>(I6.hok b u e).stay (λc v hcv qv=>hsb.extBut c v (by
     rcases hcv with z | z
     ·subst z;exact yz e hC6
     ·exact yz z hC6) qv) (λ_ q=>q) λ_ _ q=>q
   refine ⟨.ref s2.heap.objs.size,_,?_,rfl,q _ nD⟩
   have ub:=I6.base
   refine I2.call' (ch:=fp) (s':={ s6 with heap:=h' }) I6.os ⟨λb o e n' hb hx=>hsb.extBut b o (below b (Heap.lt_size e)) (ub.keep b o e n' hb hx),λb o e n' hb hx=>?_,λb o e n' hx=>?_,λb o e hx=>?_,λb xs e=>?_,λb o u e=>?_,λb ps e=>?_⟩
    (hok6.track nD ⟨hz,its,k,rv5,eD'⟩) I6.bare λb hb=>⟨(f2 b hb).2.2.2.1,(f2 b hb).2.1,(f2 b hb).2.2.2.2.1,(f2 b hb).2.2.2.2.2⟩
   ·obtain ⟨sl,e'⟩:=ub.slot b o e n' hb hx
    exact ⟨sl,hsb.extBut b _ (below b (Heap.lt_size e)) e'⟩
   ·rw [xH (zW (Heap.lt_size e))]
    exact ub.free b o e n' hx
   ·obtain ⟨o',e'⟩:=ub.there b o e hx
    exact ⟨o',hsb.extBut b _ (below b (Heap.lt_size e)) e'⟩
   ·have z:=ub.tups b xs e
    rw [xH (yz z nD)];exact z
   ·have z:=ub.frzs b o u e
    rw [xH (yz z nD)];exact z
   ·obtain ⟨more,z⟩:=ub.tbls b ps e
    exact ⟨more,by rw [xH (yz z nD)];exact z⟩
  ·refine thn (T.item Y rfl rfl rfl hc i _ s5 τ H5 (λ_ _=>False) I5 (stat fr5) st5 go) λr s6 ⟨u,hr,h6⟩=>?_
   subst hr
   refine thn h6 λ_ s7 ⟨x,H7,I7,r7,y7,st7,fr7⟩=>?_
   have I7':=I7.pinned (stat fr7) (T.obj _ _ st7)
   refine thn (hg s2 H2 fp G.objs.size _ s7 τ H7 x u _ I7' r7 (step x H7 y7)) λ_ s8 ⟨τ8,H8,I8,q8⟩=>?_
   refine thn (ht s2 H2 fp G.objs.size _ s8 τ8 H8 _ I8 q8) λok s9 ⟨H9,I9,q9⟩=>?_
   -- the iterator's state behind the turn
   have back:∀ {s':Shared}{τ':St}{H':Hp},Inv Y ([(s2.heap.objs.size,({ cls:=.type "list", data:=.seq its.toArray k }:Obj))]++pinsAt fp s7.heap) τ' H' s'->(tn (i + 1) s'.heap/\∀ b∈fp,H' b=none):=λ{s' τ' H'} Ib=>
    ⟨T.keep _ _ _ st7 λb hb o e=>(Ib.pin (b,o) (zD _ (zD _ (xk hb e)))).1,λb hb=>by
     obtain ⟨o,e,d⟩:=T.obj _ _ st7 b hb
     exact (Ib.pin (b,o) (zD _ (zD _ (xk hb e)))).2.1⟩
   cases ok with
   | false=>
    obtain ⟨m',hm',w'⟩:=q9
    obtain ⟨sb,fb⟩:=back I9
    exact ⟨m',hm',i + 1,τ8,acc,its,k,H9,I9.unpinned,sb,fb,rv5,w'⟩
   | true=>
    -- the inner clause
    refine thn (hi2 s2 H2 fp G.objs.size _ s9 τ8 H9 _ I9 q9) λxv s10 h10=>thn h10 λitv2 s11 h11=>?_
    obtain ⟨it2,fp2,tn2,J2,H11,e2,I11,T2,st11,f11,W2,⟨m2,w2⟩,turn2⟩:=h11
    subst e2
    have stat2:∀ {H':Hp}{its':List Value}{n':Nat},(∀ b∈fp2,H' b=none)->∀ b∈fp2,FpOk Y ([(s2.heap.objs.size,({ cls:=.type "list", data:=.seq its'.toArray n' }:Obj))]++pinsAt fp s7.heap) H' b:=λ{H' its' n'} hn b hb=>by
     obtain ⟨_,a2,a3,a4,a5,a6⟩:=f11 b hb
     refine ⟨hn b hb,a2,a3,a4,a5,λp hp=>?_⟩
     rcases zX.mp hp with z | z
     ·exact a6 p (zq _ z)
     ·rcases zX.mp z with z | z
      ·rw [zM.mp z]
       exact (show s2.heap.objs.size≠b from a6 (s2.heap.objs.size,({ cls:=.type "list", data:=.seq its.toArray k }:Obj)) (zD _ (zq _ (zM.mpr rfl))))
      ·exact a6 p (zD _ (zD _ z))
    have loop2:codeAny (model X.prog X.w) X.A (.compLoop (.ListComp elt [⟨tg,iter,ifs,0⟩,⟨tg2,iter2,ifs2,0⟩] scope pos) 1 (.ref it2) (.ref s2.heap.objs.size) (compEnvC scope (clOf scope.names X.env []) G.objs.size X.env))
      (λr s₆=>(∃ f,r=.ok f)/\∃ m,m < n/\∃ i τ acc its k H',Inv Y [(s2.heap.objs.size,({ cls:=.type "list", data:=.seq its.toArray k }:Obj))] τ H' s₆/\tn i s₆.heap/\(∀ b∈fp,H' b=none)/\Vals acc its/\W i m τ acc H') s11:=by
     refine loop_comp1 (λn' s'=>∃ j τ acc its k H',Inv Y ([(s2.heap.objs.size,({ cls:=.type "list", data:=.seq its.toArray k }:Obj))]++pinsAt fp s7.heap) τ H' s'/\tn2 j s'.heap/\(∀ b∈fp2,H' b=none)/\Vals acc its/\W2 j n' τ acc H') ?_ m2
      ⟨0,τ8,acc,its,k,H11,I11,st11,λb hb=>(f11 b hb).1,rv5,w2⟩
     rintro n' s12 ⟨j,τ12,acc12,its12,k12,H12,I12,st12,fr12,rv12,w12⟩
     rcases turn2 j n' τ12 acc12 H12 w12 with ⟨stop2,m',hm',w'⟩ | ⟨go2,hz2,step2⟩
     ·refine thn (T2.done Y rfl rfl rfl hc j _ s12 τ12 H12 (λ_ _=>False) I12 (stat2 fr12) st12 stop2) λr s13 ⟨hr,I13⟩=>?_
      subst hr
      have sb:tn (i + 1) s13.heap:=T.keep _ _ _ st7 λb hb o e=>(I13.pin (b,o) (zD _ (zD _ (xk hb e)))).1
      have fb:∀ b∈fp,H12 b=none:=λb hb=>by
       obtain ⟨o,e,d⟩:=T.obj _ _ st7 b hb
       exact (I13.pin (b,o) (zD _ (zD _ (xk hb e)))).2.1
      exact ⟨⟨_,rfl⟩,m',hm',i + 1,τ12,acc12,its12,k12,H12,I13.unpinned,sb,fb,rv12,w'⟩
     ·refine thn (T2.item Y rfl rfl rfl hc j _ s12 τ12 H12 (λ_ _=>False) I12 (stat2 fr12) st12 go2) λr s13 ⟨u2,hr,h13⟩=>?_
      subst hr
      refine thn h13 λ_ s14 ⟨y2,H14,I14,r14,y14,st14,fr14⟩=>?_
      have I14':=I14.pinned (stat2 fr14) (T2.obj _ _ st14)
      refine thn (hg2 s2 H2 fp G.objs.size _ s14 τ12 H14 y2 u2 _ I14' r14 (step2 y2 H14 y14)) λ_ s15 ⟨τ15,H15,I15,q15⟩=>?_
      refine thn (ht2 s2 H2 fp G.objs.size _ s15 τ15 H15 _ I15 q15) λok2 s16 ⟨H16,I16,q16⟩=>?_
      have back2:∀ {s':Shared}{τ':St}{H':Hp},Inv Y (([(s2.heap.objs.size,({ cls:=.type "list", data:=.seq its12.toArray k12 }:Obj))]++pinsAt fp s7.heap)++pinsAt fp2 s14.heap) τ' H' s'->(tn2 (j + 1) s'.heap/\∀ b∈fp2,H' b=none):=λ{s' τ' H'} Ib=>
       ⟨T2.keep _ _ _ st14 λb hb o e=>(Ib.pin (b,o) (zD _ (zD _ (xk hb e)))).1,λb hb=>by
        obtain ⟨o,e,d⟩:=T2.obj _ _ st14 b hb
        exact (Ib.pin (b,o) (zD _ (zD _ (xk hb e)))).2.1⟩
      cases ok2 with
      | false=>
       obtain ⟨m',hm',w'⟩:=q16
       obtain ⟨sb,fb⟩:=back2 I16
       exact ⟨m',hm',j + 1,τ15,acc12,its12,k12,H16,I16.unpinned,sb,fb,rv12,w'⟩
      | true=>
       refine thn (he s2 H2 fp G.objs.size _ s16 τ15 H16 _ I16 q16) λy s17 ⟨yv,H17,I17,r17,q17⟩=>?_
       obtain ⟨m',hm',w'⟩:=q17
       obtain ⟨sb,fb⟩:=back2 I17
       obtain ⟨eD,nD,neD,nfD,_⟩:=I17.pin (s2.heap.objs.size,_) (zD _ (zq _ (zq _ (zM.mpr rfl))))
       have hl:acc12.length=its12.length:=rv12.length
       refine call_meets F.slot_list_append ⟨_,eD,rfl⟩ F.entry_list_append (F.args_list_append_2 _ _) (PySem.list_append s2.heap.objs.size its12.toArray k12 y (by rw [zP];omega)) ⟨eD,?_⟩
       have q:=PySem.IsL.update eD (λa:Array Value=>a.push y)
       have Iu:Inv Y [] τ15 H17 s17:=I17.pins_of λp hp=>nomatch hp
       have oth:∀ b o,b≠s2.heap.objs.size->s17.heap.get? b=some o->(s17.heap.update s2.heap.objs.size (Obj.mapSeq (λa:Array Value=>a.push y))).get? b=some o:=λb o hb e=>(Heap.get?_update_other s17.heap _ (Ne.symm hb)).trans e
       have It:=Iu.turned (t':=s17.toks) (it:=s2.heap.objs.size) (h':=s17.heap.update s2.heap.objs.size (Obj.mapSeq (λa:Array Value=>a.push y))) oth nD neD (.inr (zF _))
        (λx c e z=>by
         obtain ⟨v,ob,hob,_⟩:=I2.cell x c (xi e)
         exact absurd (Heap.lt_size hob) (by rw [z];exact yL _)) (λp hp=>nomatch hp)
       have nfp:∀ b∈fp,b≠s2.heap.objs.size:=λb hb=>zW (fl b hb)
       have nfp2:∀ b∈fp2,b≠s2.heap.objs.size:=λb hb z=>(f11 b hb).2.2.2.2.2 (s2.heap.objs.size,({ cls:=.type "list", data:=.seq its.toArray k }:Obj)) (zD _ (zq _ (zM.mpr rfl))) z.symm
       have It':=It.pins_of (pins':=[(s2.heap.objs.size,({ cls:=.type "list", data:=.seq (its12++[y]).toArray (k12 + 1) }:Obj))]++pinsAt fp s7.heap) λp hp=>by
        rcases zX.mp hp with hp | hp
        ·have e:p=_:=zM.mp hp
         subst e
         exact ⟨by simpa using q,nD,neD,nfD,λv z=>nomatch z⟩
        ·obtain ⟨e1,e2,e3,e4,e5⟩:=I17.pin p (zD _ (zq _ (zD _ hp)))
         exact ⟨oth _ _ (nfp _ (of_pinsAt hp).1) e1,e2,e3,e4,e5⟩
       exact ⟨m',hm',j + 1,τ15,acc12++[yv],its12++[y],_,H17,It',T2.keep _ _ _ sb λb hb o e=>oth b o (nfp2 b hb) e,fb,rv12.append (.cons r17 .nil),w'⟩
    exact codeAny_compStart_1 loop2 (T2.self _ 0 s11 _ _ st11 loop2)
 exact codeAny_compStart_list loop (T.self _ 0 s4 _ _ st4 loop)
end
end L2
namespace L2
open PySem PySem.Spec PyProof.Rows
section
variable {K:PySem.W.Frag}{a b:Addr}{xs ys:List V}{n:Nat}{caps:List Nat} {g g2:TG} {tc tc2:TT} {wi2:TI}{te:TE} {σ τ0:St}{H:Hp} {acc0:List V}{Qf:Addr->Hp->List V->Prop}{C:St->List V->Hp->Prop}
def In2 (J2:It) (g2:TG) (tc2:TT) (te:TE) (τ0:St) (acc0:List V) (H0:Hp) (C:St->List V->Hp->Prop):Prop:=
 ∃ W2:Nat->Nat->St->List V->Hp->Prop,(∃ m2,W2 0 m2 τ0 acc0 H0)/\∀ j m2 τ acc H,W2 j m2 τ acc H ->
  (J2.stop j H/\C τ acc H) \/
  (J2.go j H/\acc.length < sizeLine/\∀ y H',J2.yld j H y H'->g2 y τ H' fun τ3 H5=>tc2 τ3 H5 λb H6=>if b=true then te τ3 H6 λz H7=>∃ m',m' < m2/\W2 (j + 1) m' τ3 (acc++[z]) H7 else ∃ m',m' < m2/\W2 (j + 1) m' τ3 acc H6)
theorem in_of {J2:It} (Pw:Nat->St->List V->Hp->Prop) (len:Nat) (h0:Pw 0 τ0 acc0 H) (hl:∀ j τ acc H,Pw j τ acc H->acc.length < sizeLine)
  (hgo:∀ j τ acc H,j < len->Pw j τ acc H->J2.go j H) (hstop:∀ τ acc H,Pw len τ acc H->J2.stop len H)
  (hs:∀ j τ acc H (D:St->List V->Hp->Prop),j < len->Pw j τ acc H->(∀ τ acc H,Pw (j + 1) τ acc H->D τ acc H)->∀ y H',J2.yld j H y H'->g2 y τ H' fun τ3 H5=>tc2 τ3 H5 λb H6=>if b=true then te τ3 H6 λz H7=>D τ3 (acc++[z]) H7 else D τ3 acc H6)
  (hd:∀ τ acc H,Pw len τ acc H->C τ acc H):In2 J2 g2 tc2 te τ0 acc0 H C:=by
 refine ⟨λj m τ acc H=>m=len - j/\j<=len/\Pw j τ acc H,⟨len,by simp,za _,h0⟩,?_⟩
 rintro j m τ acc H ⟨rfl,hj,p⟩
 by_cases hlt:j < len
 ·exact .inr ⟨hgo j τ acc H hlt p,hl j τ acc H p,λy H' z=>hs j τ acc H (fun τ acc H=>∃ m',m' < len - j/\m'=len - (j + 1)/\j + 1<=len/\Pw (j + 1) τ acc H) hlt p (fun τ acc H p'=>⟨len - (j + 1),by omega,rfl,hlt,p'⟩) y H' z⟩
 ·have e:j=len:=by omega
  subst e
  exact .inl ⟨hstop τ acc H p,hd τ acc H p⟩
theorem in_zipM (el:xs.length=ys.length) (Pw:Nat->St->List V->Hp->Prop) (h0:Pw 0 τ0 acc0 H) (hl:∀ j τ acc H,Pw j τ acc H->acc.length < sizeLine/\SqL K H a xs/\SqT K H b ys)
  (hs:∀ j x y q τ acc H (D:St->List V->Hp->Prop),xs[j]?=some x->ys[j]?=some y->H q=none->Pw j τ acc H->(∀ τ acc H,Pw (j + 1) τ acc H->D τ acc H)->g2 (.ref q) τ (upd H q (.tup [x,y])) fun τ3 H5=>tc2 τ3 H5 λb H6=>if b=true then te τ3 H6 λz H7=>D τ3 (acc++[z]) H7 else D τ3 acc H6)
  (hd:∀ τ acc H,Pw xs.length τ acc H->C τ acc H):In2 (IzM K a b) g2 tc2 te τ0 acc0 H C:=
 in_of Pw xs.length h0 (λj τ acc H p=>(hl j τ acc H p).1) (λj τ acc H hj p=>⟨xs,ys,xs[j],ys[j]'(by omega),(hl j τ acc H p).2.1,(hl j τ acc H p).2.2,el,by simp [hj],by simp [<-el,hj]⟩) (fun τ acc H p=>⟨xs,ys,(hl _ τ acc H p).2.1,(hl _ τ acc H p).2.2,el,rfl⟩)
  (λj τ acc H D hj p c x H' y=>by obtain ⟨q,x',y',hq,e1,e2,y⟩:=y;subst e1;subst e2;exact hs j x' y' q τ acc _ D (y xs ys (hl j τ acc _ p).2.1 (hl j τ acc _ p).2.2).1 (y xs ys (hl j τ acc _ p).2.1 (hl j τ acc _ p).2.2).2 hq p c) hd
theorem comp2_list (Pv:Nat->St->List V->Hp->Prop) (h0:Pv 0 (tau0 n caps σ) [] H) (hl:∀ i τ acc H,Pv i τ acc H->acc.length<=sizeLine/\SqL K H a xs)
  (hs:∀ i x τ acc H (D:St->List V->Hp->Prop),xs[i]?=some x->Pv i τ acc H->(∀ τ acc H,Pv (i + 1) τ acc H->D τ acc H)->g x τ H fun τ2 H2=>tc τ2 H2 λb H3=>if b=true then wi2 τ2 H3 λJ2 H4=>In2 J2 g2 tc2 te τ2 acc H4 D else D τ2 acc H3)
  (hd:∀ τ acc H,Pv xs.length τ acc H->∀ p,H p=none->Qf p H acc) :
  ∃ W:Nat->Nat->St->List V->Hp->Prop,(∃ m,W 0 m (tau0 n caps σ) [] H)/\∀ i m τ acc H,W i m τ acc H ->
   ((Itl K a).stop i H/\acc.length<=sizeLine/\∀ p,H p=none->Qf p H acc) \/
   ((Itl K a).go i H/\∀ x H',(Itl K a).yld i H x H'->g x τ H' fun τ2 H2=>tc τ2 H2 λb H3=>if b=true then wi2 τ2 H3 λJ2 H4=>In2 J2 g2 tc2 te τ2 acc H4 (fun τ acc H=>∃ m',m' < m/\W (i + 1) m' τ acc H) else ∃ m',m' < m/\W (i + 1) m' τ2 acc H3):=by
 refine ⟨λi m τ acc H=>m=xs.length - i/\i<=xs.length/\Pv i τ acc H,⟨xs.length,by simp,za _,h0⟩,?_⟩
 rintro i m τ acc H ⟨rfl,hi,p⟩
 have q:=hl i τ acc H p
 by_cases hlt:i < xs.length
 ·refine .inr ⟨⟨xs,xs[i],q.2,by simp [hlt]⟩,λx H' y=>?_⟩
  obtain ⟨e,y⟩:=y
  subst e
  exact hs i x τ acc _ (fun τ acc H=>∃ m',m' < xs.length - i/\m'=xs.length - (i + 1)/\i + 1<=xs.length/\Pv (i + 1) τ acc H) (y xs q.2) p fun τ acc H p'=>⟨xs.length - (i + 1),by omega,rfl,hlt,p'⟩
 ·have e:i=xs.length:=by omega
  subst e
  exact .inl ⟨⟨xs,q.2,zF _⟩,q.1,hd τ acc H p⟩
end
end L2
namespace Sm
open PySem L2
def DT (H:Hp):Nat->V->Prop
 | 0,v=>∃ t,tyS H v=some t
 | n + 1,v=>(∃ p xs,v=.ref p/\H p=some (.lst xs)/\∀ x∈xs,DT H n x)\/(∃ p xs,v=.ref p/\H p=some (.tup xs)/\∀ x∈xs,DT H n x)\/∃ t,tyS H v=some t/\t ≠ "list" /\ t ≠ "tuple"
theorem DT.ty {H:Hp}{n:Nat}{v:V} (h:DT H n v):∃ t,tyS H v=some t:=by
 cases n with
 | zero=>exact h
 | succ n=>
  rcases h with ⟨p,xs,rfl,k,_⟩ | ⟨p,xs,rfl,k,_⟩ | ⟨t,k,_⟩
  ·exact ⟨_,wE k⟩
  ·exact ⟨_,xj k⟩
  ·exact ⟨t,k⟩
theorem DT.same {H H':Hp} (s:Same H H'):∀ {n:Nat}{v:V},DT H n v->DT H' n v
 | 0,_,⟨t,h⟩=>⟨t,wF s h⟩
 | n + 1,_,h=>by
  rcases h with ⟨p,xs,rfl,k,e⟩ | ⟨p,xs,rfl,k,e⟩ | ⟨t,k,e⟩
  ·exact .inl ⟨p,xs,rfl,s _ _ k,λx hx=>DT.same s (e x hx)⟩
  ·exact .inr (.inl ⟨p,xs,rfl,s _ _ k,λx hx=>DT.same s (e x hx)⟩)
  ·exact .inr (.inr ⟨t,wF s k,e⟩)
theorem DT.le {H:Hp}:∀ {n:Nat}{v:V},DT H (n + 1) v->DT H n v
 | 0,_,h=>h.ty
 | n + 1,_,h=>by
  rcases h with ⟨p,xs,rfl,k,e⟩ | ⟨p,xs,rfl,k,e⟩ | ⟨t,k,e⟩
  ·exact .inl ⟨p,xs,rfl,k,λx hx=>DT.le (e x hx)⟩
  ·exact .inr (.inl ⟨p,xs,rfl,k,λx hx=>DT.le (e x hx)⟩)
  ·exact .inr (.inr ⟨t,k,e⟩)
theorem three38:∀ {xs:List V},xs.length=3->∃ x y z,xs=[x,y,z]
 | [x,y,z],_=>⟨x,y,z,rfl⟩
def isBl:V->Bool
 | .bl _=>true
 | _=>false
def truthsV (H:Hp) (n:Nat) (v:V):Bool:=match v with
 | .ref p=>match H p with
  | some (.lst xs)=>decide (xs.length=n) && xs.all isBl
  | _=>false
 | _=>false
def marksV (H:Hp) (n:Nat) (v:V):Bool:=match v with
 | .ref p=>match H p with
  | some (.lst xs)=>decide (xs.length=n) && xs.all (inB 0 3)
  | _=>false
 | _=>false
def rowsV (H:Hp) (m n:Nat) (v:V):Bool:=match v with
 | .ref p=>match H p with
  | some (.lst xs)=>decide (xs.length=m) && xs.all (marksV H n)
  | _=>false
 | _=>false
def formV (H:Hp) (nl nw m n:Nat) (v:V):Bool:=match v with
 | .ref p=>match H p with
  | some (.tup [a,b,c])=>truthsV H nl a && truthsV H nw b && rowsV H m n c
  | _=>false
 | _=>false
theorem truthsV_l {H:Hp}{n:Nat}{p:Addr}{xs:List V} (h:H p=some (.lst xs)):truthsV H n (.ref p)=(decide (xs.length=n) && xs.all isBl):=by simp only [truthsV,h]
theorem marksV_l {H:Hp}{n:Nat}{p:Addr}{xs:List V} (h:H p=some (.lst xs)):marksV H n (.ref p)=(decide (xs.length=n) && xs.all (inB 0 3)):=by simp only [marksV,h]
theorem rowsV_l {H:Hp}{m n:Nat}{p:Addr}{xs:List V} (h:H p=some (.lst xs)):rowsV H m n (.ref p)=(decide (xs.length=m) && xs.all (marksV H n)):=by simp only [rowsV,h]
theorem xf {H:Hp}{v:V}{t:String} (h:tyS H v=some t) (ne:t ≠ "list") (n m:Nat):truthsV H n v=false/\marksV H n v=false/\rowsV H m n v=false:=by
 have key:∀ p xs,v=.ref p->H p=some (.lst xs)->False:=λp xs e k=>by subst e;rw [wE k] at h;exact ne (Option.some.inj h).symm
 refine ⟨?_,?_,?_⟩
 ·unfold truthsV;split
  ·split
   ·exact (key _ _ rfl (by assumption)).elim
   ·rfl
  ·rfl
 ·unfold marksV;split
  ·split
   ·exact (key _ _ rfl (by assumption)).elim
   ·rfl
  ·rfl
 ·unfold rowsV;split
  ·split
   ·exact (key _ _ rfl (by assumption)).elim
   ·rfl
  ·rfl
theorem no_tup {H:Hp}{v:V}{t:String} (h:tyS H v=some t) (ne:t ≠ "tuple") (a b m n:Nat):formV H a b m n v=false:=by
 unfold formV;split
 ·split
  ·rename_i k;rw [xj k] at h;exact (ne (Option.some.inj h).symm).elim
  ·rfl
 ·rfl
theorem form_len {H:Hp}{p:Addr}{xs:List V} (h:H p=some (.tup xs)) (ne:xs.length≠3) (a b m n:Nat):formV H a b m n (.ref p)=false:=by
 unfold formV;simp only [h];split
 ·rename_i k;injection (Option.some.inj k) with k;subst k;exact (ne rfl).elim
 ·rfl
theorem form_3 {H:Hp}{p:Addr}{x y z:V} (h:H p=some (.tup [x,y,z])) (a b m n:Nat):formV H a b m n (.ref p)=(truthsV H a x && truthsV H b y && rowsV H m n z):=by simp only [formV,h]
theorem marks_same {H H':Hp} (s:Same H H') {n:Nat}{v:V} (h:DT H 1 v):marksV H' n v=marksV H n v:=by
 rcases h with ⟨p,xs,rfl,k,e⟩ | ⟨p,xs,rfl,k,e⟩ | ⟨t,k,e,_⟩
 ·rw [marksV_l k,marksV_l (s _ _ k)]
 ·rw [(xf (xj k) (by decide) n 0).2.1,(xf (xj (s _ _ k)) (by decide) n 0).2.1]
 ·rw [(xf k e n 0).2.1,(xf (wF s k) e n 0).2.1]
theorem truths_same {H H':Hp} (s:Same H H') {n:Nat}{v:V} (h:DT H 1 v):truthsV H' n v=truthsV H n v:=by
 rcases h with ⟨p,xs,rfl,k,e⟩ | ⟨p,xs,rfl,k,e⟩ | ⟨t,k,e,_⟩
 ·rw [truthsV_l k,truthsV_l (s _ _ k)]
 ·rw [(xf (xj k) (by decide) n 0).1,(xf (xj (s _ _ k)) (by decide) n 0).1]
 ·rw [(xf k e n 0).1,(xf (wF s k) e n 0).1]
theorem isBl_of {H:Hp}{v:V}{t:String} (h:tyS H v=some t):isSub t "bool" = isBl v:=by
 cases v with
 | bl b=>injection h with h;subst h;rfl
 | non=>injection h with h;subst h;rfl
 | int b=>injection h with h;subst h;rfl
 | str b=>injection h with h;subst h;rfl
 | ref a=>rcases wY h with rfl | rfl | rfl | rfl | rfl | rfl | rfl <;> first | rfl | (simp only [tyS] at h;split at h <;> simp at h)
 | _=>cases h
def spTruths:Sp:=λvs H Q _=>∃ v,∃ n:Nat,vs=[v,.int n]/\DT H 1 v/\n<=1000/\∀ H',Same H H'->Q (.bl (truthsV H n v)) H'
def spMarks38:Sp:=λvs H Q _=>∃ v,∃ n:Nat,vs=[v,.int n]/\DT H 1 v/\n<=1000/\∀ H',Same H H'->Q (.bl (marksV H n v)) H'
def spCutForm:Sp:=λvs H Q _=>∃ b ll lw v rooms tr tm ps ls ws,vs=[.ref b,.ref ll,.ref lw,v]/\BookAt H b rooms tr tm ps/\SacksAt H ll ls/\SacksAt H lw ws/\ls.length<=100/\ws.length<=100/\rooms.length<=100/\ps.length<=100/\DT H 3 v/\∀ H',Same H H'->Q (.bl (formV H ls.length ws.length (ps.length + 1) rooms.length v)) H'
structure CutAt (H:Hp) (c lg lt lm:Addr) (gs ts:List Bool) (ms:List (Addr×List Int)):Prop where
 c:H c=some (.tup [.ref lg,.ref lt,.ref lm])
 g:H lg=some (.lst (gs.map V.bl))
 t:H lt=some (.lst (ts.map V.bl))
 m:H lm=some (.lst (ms.map λa=>V.ref a.1))
 rows:∀ a∈ms,H a.1=some (.lst (a.2.map V.int))
theorem CutAt.same {H H':Hp}{c lg lt lm:Addr}{gs ts:List Bool}{ms:List (Addr×List Int)} (h:CutAt H c lg lt lm gs ts ms) (s:Same H H'):CutAt H' c lg lt lm gs ts ms:=⟨s _ _ h.c,s _ _ h.g,s _ _ h.t,s _ _ h.m,λa ha=>s _ _ (h.rows a ha)⟩
def openB (m:Int):Bool:=decide (2<=m)
def innB (m:Int):Bool:=decide (m=1) || decide (m=3)
def spOpen:Sp:=λvs H Q _=>∃ m,vs=[.int m]/\Q (.bl (openB m)) H
def spIn:Sp:=λvs H Q _=>∃ m,vs=[.int m]/\∀ H',Same H H'->Q (.bl (innB m)) H'
def at38 (r:List Int) (w:Int):Int:=r.getD w.toNat 0
theorem xu {r:List Int}{w:Int} (h0:0<=w) (h1:w < r.length):atI (r.map V.int) w=some (.int (at38 r w)):=by
 obtain ⟨k,rfl⟩:=zh h0
 refine xb ?_
 have hk:k < r.length:=by omega
 rw [zJ,zG hk]
 show some (V.int r[k])=some (V.int (r.getD ((k:Int)).toNat 0))
 rw [Int.toNat_natCast,zS,zG hk];rfl
theorem cut_refs {ms:List (Addr×List Int)}{c:Nat}:cutV (ms.map λa=>V.ref a.1) (some (c:Int)) none=(ms.drop c).map λa=>V.ref a.1:=by rw [cut_drop,List.map_drop]
theorem cut_refs1 {ms:List (Addr×List Int)}{c:Nat} (h:c < ms.length):cutV (ms.map λa=>V.ref a.1) (some 1) (some ((c:Int) + 1))=((ms.drop 1).take c).map λa=>V.ref a.1:=by rw [cut_one _ _ (by rw [zA];exact h),List.map_take,List.map_drop]
def open1 (ms:List M4) (rows:List (List Int)) (l:S3) (g:Bool):Bool:=!(g && !((rows.drop (cnt ms l.t)).all λr=>openB (at38 r l.w)))
def openF (ms:List M4) (ls:List S3) (gs:List Bool) (rows:List (List Int)):Bool:=(ls.zip gs).all λp=>open1 ms rows p.1 p.2
theorem openF_cons {ms:List M4}{l:S3}{ls:List S3}{g:Bool}{gs:List Bool}{rows:List (List Int)}:openF ms (l::ls) (g::gs) rows=(open1 ms rows l g && openF ms ls gs rows):=rfl
def goes1 (a b:List Int):Bool:=(a.zip b).all λp=>!(openB p.1 && !innB p.2)
def goesK (rows:List (List Int)) (k:Nat):Bool:=goes1 (rows.getD k []) (rows.getD (k + 1) [])
def goesF (n:Nat) (rows:List (List Int)):Bool:=(List.range n).all (goesK rows)
theorem goes1_cons {x y:Int}{a b:List Int}:goes1 (x::a) (y::b)=(!(openB x && !innB y) && goes1 a b):=rfl
theorem goesK_at {rows:List (List Int)}{k:Nat}{a b:List Int} (h1:rows[k]?=some a) (h2:rows[k + 1]?=some b):goesK rows k=goes1 a b:=by
 unfold goesK;rw [zS,zS,h1,h2];rfl
def come1 (ms:List M4) (rows:List (List Int)) (w:S3) (t:Bool):Bool:=!(!t && (((rows.take (cnt ms w.t + 1)).drop 1).any λr=>innB (at38 r w.w)))
def comeF (ms:List M4) (ws:List S3) (ts:List Bool) (rows:List (List Int)):Bool:=(ws.zip ts).all λp=>come1 ms rows p.1 p.2
theorem comeF_cons {ms:List M4}{w:S3}{ws:List S3}{t:Bool}{ts:List Bool}{rows:List (List Int)}:comeF ms (w::ws) (t::ts) rows=(come1 ms rows w t && comeF ms ws ts rows):=rfl
def once1 (l:S3) (g:Bool) (ws:List S3) (ts:List Bool):Bool:=(ws.zip ts).all λq=>!(g && (!q.2 && strB l q.1))
def onceF (ls ws:List S3) (gs ts:List Bool):Bool:=(ls.zip gs).all λp=>once1 p.1 p.2 ws ts
theorem once1_cons {l w:S3}{g t:Bool}{ws:List S3}{ts:List Bool}:once1 l g (w::ws) (t::ts)=(!(g && (!t && strB l w)) && once1 l g ws ts):=rfl
theorem onceF_cons {l:S3}{g:Bool}{ls ws:List S3}{gs ts:List Bool}:onceF (l::ls) ws (g::gs) ts=(once1 l g ws ts && onceF ls ws gs ts):=rfl
def leaveF (ls:List S3) (gs:List Bool):Int:=(((ls.zip gs).filter λp=>!p.2).map (·.1.m)).sum
def takeF (ws:List S3) (ts:List Bool):Int:=(((ws.zip ts).filter λp=>p.2).map (·.1.m)).sum
def rowBag (rooms r:List Int):List Int:=((r.zip rooms).filter λp=>decide (p.1=1)).map (·.2)
def bagsF (rooms:List Int) (rows:List (List Int)):List Int:=rows.flatMap (rowBag rooms)
theorem rowBag_len (rooms r:List Int):(rowBag rooms r).length<=rooms.length:=by
 unfold rowBag
 rw [zA]
 exact zk (zi _ _) (by rw [yG];exact Nat.min_le_right _ _)
theorem bagsF_snoc {rooms r:List Int}{rs:List (List Int)}{i:Nat} (h:rs[i]?=some r):bagsF rooms (rs.take (i + 1))=bagsF rooms (rs.take i)++rowBag rooms r:=by
 unfold bagsF;rw [xX h,List.flatMap_append];simp
theorem bagsF_len {rooms:List Int}:∀ (rs:List (List Int)),(bagsF rooms rs).length<=rs.length * rooms.length
 | []=>by simp [bagsF]
 | r::rs=>by
  have:=bagsF_len (rooms:=rooms) rs
  have h:=rowBag_len rooms r
  unfold bagsF at this ⊢
  rw [List.flatMap_cons,zK,yC,Nat.succ_mul];omega
def spBagsW:Sp:=λvs H Q _=>∃ b lm rooms tr tm ps,∃ ms:List (Addr×List Int),vs=[.ref b,.ref lm]/\BookAt H b rooms tr tm ps/\H lm=some (.lst (ms.map λa=>V.ref a.1))/\(∀ a∈ms,H a.1=some (.lst (a.2.map V.int))/\a.2.length=rooms.length)/\ms.length<=70/\rooms.length<=12/\∀ H',Same H H'->Q (.int (bagsF rooms (ms.map (·.2))).sum) H'
structure CutOf (H:Hp) (b ll lw:Addr) (rooms:List Int) (tr tm:Addr) (ps:List (Addr×M4)) (ls ws:List (Addr×S3)) (lg lt lm:Addr) (gs ts:List Bool) (ms:List (Addr×List Int)):Prop where
 b:BookAt H b rooms tr tm ps
 l:SacksAt H ll ls
 w:SacksAt H lw ws
 g:H lg=some (.lst (gs.map V.bl))
 t:H lt=some (.lst (ts.map V.bl))
 m:H lm=some (.lst (ms.map λa=>V.ref a.1))
 rows:∀ a∈ms,H a.1=some (.lst (a.2.map V.int))
theorem CutOf.same {H H':Hp}{b ll lw:Addr}{rooms:List Int}{tr tm:Addr}{ps:List (Addr×M4)}{ls ws:List (Addr×S3)}{lg lt lm:Addr}{gs ts:List Bool}{ms:List (Addr×List Int)} (h:CutOf H b ll lw rooms tr tm ps ls ws lg lt lm gs ts ms) (s:Same H H'):CutOf H' b ll lw rooms tr tm ps ls ws lg lt lm gs ts ms:=
 ⟨h.b.same s,h.l.same s,h.w.same s,s _ _ h.g,s _ _ h.t,s _ _ h.m,λa ha=>s _ _ (h.rows a ha)⟩
structure CutOk (nr nm:Nat) (ls ws:List (Addr×S3)) (gs ts:List Bool) (ms:List (Addr×List Int)):Prop where
 r12:nr<=12
 m60:nm<=60
 l:ls.length<=100
 w:ws.length<=100
 lg:gs.length=ls.length
 lt:ts.length=ws.length
 lm:ms.length=nm + 1
 rows:∀ a∈ms,a.2.length=nr
 lw:∀ a∈ls,0<=a.2.w/\a.2.w < nr
 ww:∀ a∈ws,0<=a.2.w/\a.2.w < nr
def spOpenL:Sp:=λvs H Q _=>∃ b ll lw rooms tr tm ps ls ws lg lt lm gs ts ms,vs=[.ref b,.ref ll,.ref lg,.ref lm]/\CutOf H b ll lw rooms tr tm ps ls ws lg lt lm gs ts ms/\CutOk rooms.length ps.length ls ws gs ts ms/\∀ H',Same H H'->Q (.bl (openF (ps.map (·.2)) (ls.map (·.2)) gs (ms.map (·.2)))) H'
def spGoes:Sp:=λvs H Q _=>∃ b ll lw rooms tr tm ps ls ws lg lt lm gs ts ms,vs=[.ref b,.ref lm]/\CutOf H b ll lw rooms tr tm ps ls ws lg lt lm gs ts ms/\CutOk rooms.length ps.length ls ws gs ts ms/\∀ H',Same H H'->Q (.bl (goesF ps.length (ms.map (·.2)))) H'
def spCome38:Sp:=λvs H Q _=>∃ b ll lw rooms tr tm ps ls ws lg lt lm gs ts ms,vs=[.ref b,.ref lw,.ref lt,.ref lm]/\CutOf H b ll lw rooms tr tm ps ls ws lg lt lm gs ts ms/\CutOk rooms.length ps.length ls ws gs ts ms/\∀ H',Same H H'->Q (.bl (comeF (ps.map (·.2)) (ws.map (·.2)) ts (ms.map (·.2)))) H'
def spOnce38:Sp:=λvs H Q _=>∃ b ll lw rooms tr tm ps ls ws lg lt lm gs ts ms,vs=[.ref ll,.ref lw,.ref lg,.ref lt]/\CutOf H b ll lw rooms tr tm ps ls ws lg lt lm gs ts ms/\CutOk rooms.length ps.length ls ws gs ts ms/\∀ H',Same H H'->Q (.bl (onceF (ls.map (·.2)) (ws.map (·.2)) gs ts)) H'
theorem all_drop {α:Type}{l:List α}{p:α->Bool}{i:Nat}{x:α} (h:l[i]?=some x):(l.drop i).all p=(p x && (l.drop (i + 1)).all p):=by rw [wl h,yR]
def crossV (ms:List M4) (rows:List (List Int)) (x:W4):Int:=if openB (at38 (rows.getD x.n []) x.w.g) && !innB (at38 (rows.getD (x.n + 1) []) x.w.o) then (ms.map (·.m)).getD x.n 0 else 0
def meetF (ms:List M4) (rows:List (List Int)):Int:=((waysN ms ms.length).map (crossV ms rows)).sum
theorem getD_at {α:Type}{l:List α}{i:Nat}{x d:α} (h:l[i]?=some x):l.getD i d=x:=by rw [zS,h];rfl
theorem ends38 {lo hi:Int}{n g o:Nat} (a1:0<=lo) (a2:lo < hi) (a3:hi < (n:Int)) (e:(lo.toNat=g/\hi.toNat=o)\/(lo.toNat=o/\hi.toNat=g)):g < n/\o < n:=by omega
def spMeetW:Sp:=λvs H Q _=>∃ b ll lw rooms tr tm ps ls ws lg lt lm gs ts ms,vs=[.ref b,.ref lm]/\CutOf H b ll lw rooms tr tm ps ls ws lg lt lm gs ts ms/\CutOk rooms.length ps.length ls ws gs ts ms/\Good rooms.length (ps.map (·.2))/\∀ H',Same H H'->Q (.int (meetF (ps.map (·.2)) (ms.map (·.2)))) H'
theorem bools_of:∀ {xs:List V},xs.all isBl=true->∃ bs:List Bool,xs=bs.map V.bl
 | [],_=>⟨[],rfl⟩
 | x::xs,h=>by
  rw [yR,zd] at h
  obtain ⟨bs,rfl⟩:=bools_of h.2
  cases x with
  | bl b=>exact ⟨b::bs,rfl⟩
  | _=>cases h.1
theorem marks_of:∀ {xs:List V},xs.all (inB 0 3)=true->∃ ns:List Int,xs=ns.map V.int/\∀ n∈ns,0<=n/\n<=3
 | [],_=>⟨[],rfl,nofun⟩
 | x::xs,h=>by
  rw [yR,zd] at h
  obtain ⟨ns,rfl,hn⟩:=marks_of h.2
  cases x with
  | int b=>
   have:=h.1
   simp only [inB,zd,decide_eq_true_eq] at this
   refine ⟨b::ns,rfl,λn hm=>?_⟩
   rcases zE.mp hm with rfl | hm
   ·exact this
   ·exact hn n hm
  | _=>cases h.1
theorem truthsV_true {H:Hp}{n:Nat}{v:V} (h:truthsV H n v=true):∃ p,∃ bs:List Bool,v=.ref p/\H p=some (.lst (bs.map V.bl))/\bs.length=n:=by
 cases v with
 | ref p=>
  simp only [truthsV] at h
  split at h
  ·rename_i xs k
   rw [zd] at h
   obtain ⟨bs,rfl⟩:=bools_of h.2
   exact ⟨_,bs,rfl,k,by have:=of_decide_eq_true h.1;rwa [zA] at this⟩
  ·cases h
 | _=>cases h
theorem marksV_true {H:Hp}{n:Nat}{v:V} (h:marksV H n v=true):∃ p,∃ ns:List Int,v=.ref p/\H p=some (.lst (ns.map V.int))/\ns.length=n/\∀ m∈ns,0<=m/\m<=3:=by
 cases v with
 | ref p=>
  simp only [marksV] at h
  split at h
  ·rename_i xs k
   rw [zd] at h
   obtain ⟨bs,rfl,hb⟩:=marks_of h.2
   exact ⟨_,bs,rfl,k,by have:=of_decide_eq_true h.1;rwa [zA] at this,hb⟩
  ·cases h
 | _=>cases h
theorem rows_of {H:Hp}{n:Nat}:∀ {xs:List V},xs.all (marksV H n)=true->∃ ms:List (Addr×List Int),xs=ms.map (λa=>V.ref a.1)/\∀ a∈ms,H a.1=some (.lst (a.2.map V.int))/\a.2.length=n/\∀ m∈a.2,0<=m/\m<=3
 | [],_=>⟨[],rfl,nofun⟩
 | x::xs,h=>by
  rw [yR,zd] at h
  obtain ⟨ms,rfl,hm⟩:=rows_of h.2
  obtain ⟨p,ns,rfl,k,l,e⟩:=marksV_true h.1
  refine ⟨(p,ns)::ms,rfl,λa ha=>?_⟩
  rcases zE.mp ha with rfl | ha
  ·exact ⟨k,l,e⟩
  ·exact hm a ha
theorem rowsV_true {H:Hp}{m n:Nat}{v:V} (h:rowsV H m n v=true):∃ p,∃ ms:List (Addr×List Int),v=.ref p/\H p=some (.lst (ms.map λa:Addr×List Int=>V.ref a.1))/\ms.length=m/\∀ a∈ms,H a.1=some (.lst (a.2.map V.int))/\a.2.length=n/\∀ m∈a.2,0<=m/\m<=3:=by
 cases v with
 | ref p=>
  simp only [rowsV] at h
  split at h
  ·rename_i xs k
   rw [zd] at h
   obtain ⟨bs,rfl,hb⟩:=rows_of h.2
   exact ⟨_,bs,rfl,k,by have:=of_decide_eq_true h.1;rwa [zA] at this,hb⟩
  ·cases h
 | _=>cases h
theorem formV_true {H:Hp}{a b m n:Nat}{v:V} (h:formV H a b m n v=true):∃ c lg lt lm,∃ gs ts:List Bool,∃ ms:List (Addr×List Int),v=.ref c/\H c=some (.tup [.ref lg,.ref lt,.ref lm])/\H lg=some (.lst (gs.map V.bl))/\gs.length=a/\H lt=some (.lst (ts.map V.bl))/\ts.length=b/\H lm=some (.lst (ms.map λa=>V.ref a.1))/\ms.length=m/\∀ a∈ms,H a.1=some (.lst (a.2.map V.int))/\a.2.length=n/\∀ m∈a.2,0<=m/\m<=3:=by
 cases v with
 | ref p=>
  simp only [formV] at h
  split at h
  ·rename_i k
   rw [zd,zd] at h
   obtain ⟨⟨h1,h2⟩,h3⟩:=h
   obtain ⟨p1,gs,rfl,k1,l1⟩:=truthsV_true h1
   obtain ⟨p2,ts,rfl,k2,l2⟩:=truthsV_true h2
   obtain ⟨p3,ms,rfl,k3,l3,e3⟩:=rowsV_true h3
   exact ⟨_,p1,p2,p3,gs,ts,ms,rfl,k,k1,l1,k2,l2,k3,l3,e3⟩
  ·cases h
 | _=>cases h
def holdsF (ms:List M4) (ls ws:List S3) (gs ts:List Bool) (rows:List (List Int)):Bool:=openF ms ls gs rows && (goesF ms.length rows && (comeF ms ws ts rows && onceF ls ws gs ts))
def worthC (rooms:List Int) (ms:List M4) (ls ws:List S3) (gs ts:List Bool) (rows:List (List Int)):Int:=leaveF ls gs + takeF ws ts + (bagsF rooms rows).sum + meetF ms rows
def spCutW:Sp:=λvs H Q _=>∃ b ll lw v rooms tr tm ps ls ws,vs=[.ref b,.ref ll,.ref lw,v]/\BookAt H b rooms tr tm ps/\Good rooms.length (ps.map (·.2))/\rooms.length<=12/\SacksAt H ll ls/\SacksAt H lw ws/\ls.length<=100/\ws.length<=100/\(∀ a∈ls,0<=a.2.w/\a.2.w < rooms.length)/\(∀ a∈ws,0<=a.2.w/\a.2.w < rooms.length)/\DT H 3 v /\
 (formV H ls.length ws.length (ps.length + 1) rooms.length v=false->∀ H',Same H H'->Q .non H') /\
 (∀ c lg lt lm gs ts ms,v=.ref c->H c=some (.tup [.ref lg,.ref lt,.ref lm])->CutOf H b ll lw rooms tr tm ps ls ws lg lt lm gs ts ms->CutOk rooms.length ps.length ls ws gs ts ms->(∀ a∈ms,∀ m∈a.2,(0:Int)<=m/\m<=3) ->
  ∀ H',Same H H'->Q (if holdsF (ps.map (·.2)) (ls.map (·.2)) (ws.map (·.2)) gs ts (ms.map (·.2)) then .int (worthC rooms (ps.map (·.2)) (ls.map (·.2)) (ws.map (·.2)) gs ts (ms.map (·.2))) else .non) H')
def oddB (m:Int):Bool:=decide (m % 2=1)
def behindB (ms:List M4) (rows:List (List Int)) (w:S3):Bool:=((rows.drop 1).take (cnt ms w.t)).any λr=>oddB (at38 r w.w)
theorem odd_inn {m:Int} (h0:0<=m) (h3:m<=3):oddB m=innB m:=by
 unfold oddB innB
 have:m=0\/m=1\/m=2\/m=3:=by omega
 rcases this with rfl | rfl | rfl | rfl <;> decide
theorem dec_odd {m:Int}:decide (V.int (m % 2)=V.int 1)=oddB m:=by
 unfold oddB
 by_cases h:m % 2=1
 ·rw [decide_eq_true h,decide_eq_true (by rw [h])]
 ·rw [decide_eq_false h,decide_eq_false (λz=>h (V.int.inj z))]
theorem cut_at {α:Type}{l:List α}{c i:Nat} (h:i < c):((l.drop 1).take c)[i]?=l[1 + i]?:=by rw [List.getElem?_take_of_lt h,yN]
def spBehind38:Sp:=λvs H Q _=>∃ b z lm rooms tr tm ps,∃ w:S3,∃ ms:List (Addr×List Int),vs=[.ref b,.ref z,.ref lm]/\BookAt H b rooms tr tm ps/\ps.length<=60/\H z=some (.tup [.int w.w,.int w.t,.int w.m])/\0<=w.w/\w.w < rooms.length/\H lm=some (.lst (ms.map λa=>V.ref a.1))/\(∀ a∈ms,H a.1=some (.lst (a.2.map V.int))/\a.2.length=rooms.length)/\ms.length=ps.length + 1/\∀ H',Same H H'->Q (.bl (behindB (ps.map (·.2)) (ms.map (·.2)) w)) H'
end Sm
namespace Sm
open PySem L2
def mk38 (rs:List (List Int)) (k w:Nat):Int:=(rs.getD k []).getD w 0
def setM (rs:List (List Int)) (k w:Nat) (v:Int):List (List Int):=rs.set k ((rs.getD k []).set w v)
structure Dim38 (n nr:Nat) (rs:List (List Int)):Prop where
 len:rs.length=n
 rows:∀ r∈rs,r.length=nr/\∀ m∈r,(0:Int)<=m/\m<=3
section
variable {n nr k w k' w':Nat}{rs:List (List Int)}{v:Int}
theorem Dim38.row (d:Dim38 n nr rs) (h:k < n):(rs.getD k []).length=nr/\∀ m∈rs.getD k [],(0:Int)<=m/\m<=3:=by
 have hk:k < rs.length:=by rw [d.len];exact h
 rw [zS,zG hk]
 exact d.rows _ (yI hk)
theorem Dim38.mk3 (d:Dim38 n nr rs) (h:k < n) (hw:w < nr):0<=mk38 rs k w/\mk38 rs k w<=3:=by
 obtain ⟨l,e⟩:=d.row h
 have hw':w < (rs.getD k []).length:=by rw [l];exact hw
 unfold mk38
 rw [zS (i:=w),zG hw']
 exact e _ (yI hw')
theorem mk_set38 (d:Dim38 n nr rs) (h:k < n) (hw:w < nr):mk38 (setM rs k w v) k' w'=if k'=k/\w'=w then v else mk38 rs k' w':=by
 obtain ⟨l,_⟩:=d.row h
 have hk:k < rs.length:=by rw [d.len];exact h
 unfold mk38 setM
 by_cases ek:k'=k
 ·subst ek
  rw [getD_at (l:=rs.set k' _) (i:=k') (yY hk)]
  by_cases ew:w'=w
  ·subst ew
   rw [getD_at (yY (by rw [l];exact hw)),if_pos ⟨rfl,rfl⟩]
  ·rw [if_neg (λz=>ew z.2),zS,yW (Ne.symm ew),<- zS]
 ·rw [if_neg (λz=>ek z.1),zS (i:=k'),yW (Ne.symm ek),<- zS]
theorem Dim38.set (d:Dim38 n nr rs) (h:k < n) (v0:0<=v) (v3:v<=3):Dim38 n nr (setM rs k w v):=by
 obtain ⟨l,e⟩:=d.row h
 refine ⟨by unfold setM;rw [yo,d.len],λr hr=>?_⟩
 rcases List.mem_or_eq_of_mem_set hr with hr | rfl
 ·exact d.rows r hr
 ·refine ⟨by rw [yo,l],λm hm=>?_⟩
  rcases List.mem_or_eq_of_mem_set hm with hm | rfl
  ·exact e m hm
  ·exact ⟨v0,v3⟩
def Up38 (rs rs':List (List Int)):Prop:=∀ k w,2<=mk38 rs k w->2<=mk38 rs' k w
theorem Up38.trans {a b c:List (List Int)} (h:Up38 a b) (g:Up38 b c):Up38 a c:=λk w z=>g k w (h k w z)
theorem up_set38 (d:Dim38 n nr rs) (h:k < n) (hw:w < nr) (le:mk38 rs k w<=v):Up38 rs (setM rs k w v):=λk' w' z=>by
 rw [mk_set38 d h hw]
 split
 ·rename_i e;rw [e.1,e.2] at z;omega
 ·exact z
end
structure MC (p:Addr) (H0:Hp) (lg lt lm:Addr) (as:List Addr) (n nr:Nat) (gs ts:List Bool) (rs:List (List Int)) (H:Hp):Prop where
 go:Go p H0 H
 g:H lg=some (.lst (gs.map V.bl))
 t:H lt=some (.lst (ts.map V.bl))
 m:H lm=some (.lst (as.map V.ref))
 each:∀ (k:Nat) a,as[k]?=some a->H a=some (.lst ((rs.getD k []).map V.int))
 d:Dim38 n nr rs
 al:as.length=n
 nd:as.Nodup
 nw:∀ a∈as,H0 a=none/\a≠p/\a≠lg/\a≠lt/\a≠lm
 tn:H0 lt=none/\lt≠p/\lt≠lg/\lt≠lm
section
variable {p lg lt lm a:Addr} {H0 H H':Hp}{as:List Addr}{n nr k w i:Nat}{gs ts:List Bool}{rs:List (List Int)}{v:Int}
theorem MC.same (c:MC p H0 lg lt lm as n nr gs ts rs H) (s:Same H H'):MC p H0 lg lt lm as n nr gs ts rs H':=
 ⟨c.go.same s,s _ _ c.g,s _ _ c.t,s _ _ c.m,λk a h=>s _ _ (c.each k a h),c.d,c.al,c.nd,c.nw,c.tn⟩
theorem go_but38 (g:Go p H0 H) (fa:H0 a=none) (na:a≠p) (b:But a H H'):Go p H0 H':=by
 refine ⟨λc u nc e=>b _ _ (yz e fa) (g.1 c u nc e),?_⟩
 obtain ⟨x,y,z,e⟩:=g.2
 exact ⟨x,y,z,b _ _ (Ne.symm na) e⟩
theorem nd_38 {xs:List Addr} (nd:xs.Nodup) {i j:Nat}{c:Addr} (h1:xs[i]?=some c) (h2:xs[j]?=some c):i=j:=by
 obtain ⟨l1,e1⟩:=zH.mp h1
 obtain ⟨l2,e2⟩:=zH.mp h2
 have pw:=List.pairwise_iff_getElem.mp nd
 rcases Nat.lt_trichotomy i j with z | z | z
 ·exact absurd (e1.trans e2.symm) (pw i j l1 l2 z)
 ·exact z
 ·exact absurd (e2.trans e1.symm) (pw j i l2 l1 z)
theorem MC.set (c:MC p H0 lg lt lm as n nr gs ts rs H) (ha:as[k]?=some a) (v0:0<=v) (v3:v<=3) (b:But a H H') (e:H' a=some (.lst (((rs.getD k []).set w v).map V.int))):MC p H0 lg lt lm as n nr gs ts (setM rs k w v) H':=by
 have hk:k < n:=by have:=(zH.mp ha).1;rw [c.al] at this;exact this
 obtain ⟨f,np,n1,n2,n3⟩:=c.nw a (zB ha)
 refine ⟨go_but38 c.go f np b,b _ _ n1.symm c.g,b _ _ n2.symm c.t,b _ _ n3.symm c.m,λj x hx=>?_,c.d.set hk v0 v3,c.al,c.nd,c.nw,c.tn⟩
 have hk':k < rs.length:=by rw [c.d.len];exact hk
 unfold setM
 by_cases ej:j=k
 ·subst ej
  rw [hx] at ha;cases ha
  rw [getD_at (l:=rs.set j _) (i:=j) (yY hk')];exact e
 ·rw [zS,yW (Ne.symm ej),<- zS]
  exact b _ _ (λz=>ej (nd_38 c.nd (by rw [<-z];exact hx) ha)) (c.each j x hx)
theorem MC.put (c:MC p H0 lg lt lm as n nr gs ts rs H) (b:But lt H H') {ts':List Bool} (e:H' lt=some (.lst (ts'.map V.bl))):MC p H0 lg lt lm as n nr gs ts' rs H':=by
 obtain ⟨f,np,n1,n2⟩:=c.tn
 refine ⟨go_but38 c.go f np b,b _ _ n1.symm c.g,e,b _ _ n2.symm c.m,λj x hx=>?_,c.d,c.al,c.nd,c.nw,c.tn⟩
 exact b _ _ (c.nw x (zB hx)).2.2.2.1 (c.each j x hx)
theorem MC.row (c:MC p H0 lg lt lm as n nr gs ts rs H) (h:k < n):∃ a,as[k]?=some a/\H a=some (.lst ((rs.getD k []).map V.int)):=by
 obtain ⟨a,ha⟩:∃ a,as[k]?=some a:=⟨_,zG (by rw [c.al];exact h)⟩
 exact ⟨a,ha,c.each k a ha⟩
theorem MC.zip (c:MC p H0 lg lt lm as n nr gs ts rs H):(as.zip rs).map (·.1)=as/\(as.zip rs).map (·.2)=rs/\H lm=some (.lst ((as.zip rs).map λx=>V.ref x.1))/\∀ x∈as.zip rs,H x.1=some (.lst (x.2.map V.int))/\x.2.length=nr/\(∀ m∈x.2,(0:Int)<=m/\m<=3)/\x.1≠p:=by
 have l:as.length=rs.length:=by rw [c.al,c.d.len]
 refine ⟨List.map_fst_zip (by omega),List.map_snd_zip (by omega),?_,λx hx=>?_⟩
 ·rw [c.m]
  have:(as.zip rs).map (λx=>V.ref x.1)=((as.zip rs).map Prod.fst).map V.ref:=by rw [yl];rfl
  rw [this,List.map_fst_zip (by omega)]
 ·obtain ⟨i,hi⟩:=zn hx
  obtain ⟨h1,h2⟩:=yA.mp hi
  have e:=c.each i x.1 h1
  rw [getD_at h2] at e
  have d:=c.d.rows x.2 (zB h2)
  exact ⟨e,d.1,d.2,(c.nw x.1 (zB h1)).2.1⟩
end
structure RC (p:Addr) (H0:Hp) (as:List Addr) (n nr:Nat) (rs:List (List Int)) (H:Hp):Prop where
 go:Go p H0 H
 each:∀ (k:Nat) a,as[k]?=some a->H a=some (.lst ((rs.getD k []).map V.int))
 d:Dim38 n nr rs
 al:as.length=n
 nd:as.Nodup
 nw:∀ a∈as,H0 a=none/\a≠p
section
variable {p lg lt lm a:Addr} {H00 H0 H H' H1:Hp}{as:List Addr}{n nr:Nat}{gs ts:List Bool}{rs:List (List Int)}{r:List Int}
theorem RC.init (hp:Purse H p):RC p H [] 0 nr [] H:=⟨Go.refl hp,nofun,⟨rfl,nofun⟩,rfl,.nil,nofun⟩
theorem RC.to (c:RC p H0 as n nr rs H) (g:Go p H H1):RC p H0 as n nr rs H1:=⟨c.go.trans g,λk a h=>g.1 _ _ (c.nw a (zB h)).2 (c.each k a h),c.d,c.al,c.nd,c.nw⟩
theorem RC.new (c:RC p H0 as n nr rs H) (g:Go p H H1) (ha:H1 a=none) (lr:r.length=nr) (hr:∀ m∈r,(0:Int)<=m/\m<=3):RC p H0 (as++[a]) (n + 1) nr (rs++[r]) (upd H1 a (.lst (r.map V.int))):=by
 have c1:=c.to g
 have np:=g.2.ne ha
 have fa:H0 a=none:=c1.go.free ha np
 have na:a ∉ as:=λh=>by
  obtain ⟨k,hk⟩:=zn h
  rw [c1.each k a hk] at ha;cases ha
 refine ⟨c1.go.new ha,λk x hx=>?_,⟨by rw [zK,c.d.len];rfl,λq hq=>?_⟩,by rw [zK,c.al];rfl,?_,λx hx=>?_⟩
 ·by_cases h:k < as.length
  ·rw [yJ h] at hx
   have hk:k < rs.length:=by rw [c.d.len,<- c.al];exact h
   rw [zS,yJ hk,<- zS]
   have e:=c1.each k x hx
   rw [xH (yz e ha)];exact e
  ·have hk:=(zH.mp hx).1
   rw [zK] at hk
   have ek:k=as.length:=by have:[a].length=1:=rfl;omega
   subst ek
   rw [z4 (zF _),Nat.sub_self] at hx
   cases hx
   rw [zS,z4 (by rw [c.d.len,c.al];exact zF _),c.d.len,c.al,Nat.sub_self]
   exact yx
 ·rcases zX.mp hq with hq | hq
  ·exact c.d.rows q hq
  ·cases zM.mp hq;exact ⟨lr,hr⟩
 ·rw [List.nodup_append]
  exact ⟨c.nd,by simp,λx hx y hy e=>by cases zM.mp hy;exact na (e ▸ hx)⟩
 ·rcases zX.mp hx with hx | hx
  ·exact c.nw x hx
  ·cases zM.mp hx;exact ⟨fa,np⟩
theorem RC.mc (c:RC p H0 as n nr rs H) (g:Go p H00 H0) (npg:lg≠p) (kg:H0 lg=some (.lst (gs.map V.bl))) (npt:lt≠p) (kt:H0 lt=some (.lst (ts.map V.bl))) (ft:H00 lt=none) (ne:lt≠lg) (hm:H lm=none):MC p H00 lg lt lm as n nr gs ts rs (upd H lm (.lst (as.map V.ref))):=by
 have k1:=c.go.1 _ _ npg kg
 have k2:=c.go.1 _ _ npt kt
 refine ⟨(g.trans c.go).new hm,by rw [xH (yz k1 hm)];exact k1,by rw [xH (yz k2 hm)];exact k2,yx,λk x hx=>?_,c.d,c.al,c.nd,λx hx=>⟨g.free (c.nw x hx).1 (c.nw x hx).2,(c.nw x hx).2,λe=>?_,λe=>?_,λe=>?_⟩,ft,npt,ne,yz k2 hm⟩
 ·have e:=c.each k x hx
  rw [xH (yz e hm)];exact e
 ·have:=(c.nw x hx).1;rw [e,kg] at this;cases this
 ·have:=(c.nw x hx).1;rw [e,kt] at this;cases this
 ·obtain ⟨k,hk⟩:=zn hx
  have e2:=c.each k x hk
  rw [e,hm] at e2;cases e2
end
def Opn38 (ms:List M4) (ls:List S3) (gs:List Bool) (rs:List (List Int)) (n i:Nat):Prop:=∀ (j:Nat),j < i->∀ l:S3,ls[j]?=some l->gs[j]?=some true->∀ k,cnt ms l.t<=k->k < n->2<=mk38 rs k l.w.toNat
def Gs38 (rs:List (List Int)) (nr k:Nat):Prop:=∀ k' < k,∀ w < nr,2<=mk38 rs k' w->mk38 rs (k' + 1) w % 2=1
def Gw38 (rs:List (List Int)) (k i:Nat):Prop:=∀ w < i,2<=mk38 rs k w->mk38 rs (k + 1) w % 2=1
def Td38 (ms:List M4) (ls ws:List S3) (gs ts:List Bool) (rs:List (List Int)) (i:Nat):Prop:=∀ (j:Nat),j < i->∀ w:S3,ws[j]?=some w->ts[j]?=some false->behindB ms rs w=false/\∀ (m:Nat) (l:S3),ls[m]?=some l->gs[m]?=some true->strB l w=false
section
variable {ms:List M4}{ls ws:List S3}{gs ts:List Bool}{rs rs':List (List Int)}{n nr i k w:Nat}{v:Int}
theorem Opn38.up (h:Opn38 ms ls gs rs n i) (u:Up38 rs rs'):Opn38 ms ls gs rs' n i:=λj hj l hl hg k h1 h2=>u _ _ (h j hj l hl hg k h1 h2)
theorem goes_step38 (d:Dim38 n nr rs) (hk:k + 1 < n) (hw:w < nr) (g:Gs38 rs nr k) (gw:Gw38 rs k w) (ev:mk38 rs (k + 1) w % 2=0):Gs38 (setM rs (k + 1) w (mk38 rs (k + 1) w + 1)) nr k/\Gw38 (setM rs (k + 1) w (mk38 rs (k + 1) w + 1)) k (w + 1)/\Up38 rs (setM rs (k + 1) w (mk38 rs (k + 1) w + 1))/\0<=mk38 rs (k + 1) w + 1/\mk38 rs (k + 1) w + 1<=3:=by
 have m3:=d.mk3 hk hw
 have st:=λk' w'=>mk_set38 (v:=mk38 rs (k + 1) w + 1) (k':=k') (w':=w') d hk hw
 refine ⟨λk' hk' w' hw' h=>?_,λw' hw' h=>?_,up_set38 d hk hw (by omega),by omega,by omega⟩
 ·rw [st,if_neg (by omega)] at h
  rw [st,if_neg (by omega)]
  exact g k' hk' w' hw' h
 ·rw [st,if_neg (by omega)] at h
  rw [st]
  by_cases e:w'=w
  ·subst e;rw [if_pos ⟨rfl,rfl⟩];omega
  ·rw [if_neg (λz=>e z.2)]
   exact gw w' (by omega) h
theorem any_congr38 {α:Type}{l:List α}{f g:α->Bool} (h:∀ x∈l,f x=g x):l.any f=l.any g:=by
 induction l with
 | nil=>rfl
 | cons x l ih=>rw [List.any_cons,List.any_cons,h x (zo ..),ih λy hy=>h y (zc _ hy)]
theorem wM {r:List Int}{k:Nat}{rs:List (List Int)} (h:rs[k]?=some r) (w:Nat):r.getD w 0=mk38 rs k w:=by unfold mk38;rw [getD_at h]
theorem open_true38 (lg:gs.length=ls.length) (d:Dim38 n nr rs) (h:Opn38 ms ls gs rs n ls.length):openF ms ls gs rs=true:=by
 unfold openF
 rw [zg]
 intro x hx
 obtain ⟨j,hj⟩:=zn hx
 obtain ⟨h1,h2⟩:=yA.mp hj
 unfold open1
 cases e:x.2 with
 | false=>rfl
 | true=>
  rw [e] at h2
  rw [zQ,Bool.not_not,zg]
  intro r hr
  obtain ⟨i,hi⟩:=zn hr
  rw [yN] at hi
  have hi':=(zH.mp hi).1
  have z:=h j (zH.mp h1).1 x.1 h1 h2 (cnt ms x.1.t + i) (by omega) (by rw [<-d.len];exact hi')
  rw [<-wM hi] at z
  exact decide_eq_true z
theorem goes_true38 (d:Dim38 (n + 1) nr rs) (h:Gs38 rs nr n):goesF n rs=true:=by
 unfold goesF
 rw [zg]
 intro k hk
 have hk:=zx.mp hk
 obtain ⟨a,ha⟩:∃ a,rs[k]?=some a:=⟨_,zG (by rw [d.len];omega)⟩
 obtain ⟨b,hb⟩:∃ a,rs[k + 1]?=some a:=⟨_,zG (by rw [d.len];omega)⟩
 rw [goesK_at ha hb]
 unfold goes1
 rw [zg]
 intro x hx
 obtain ⟨w,hw⟩:=zn hx
 obtain ⟨h1,h2⟩:=yA.mp hw
 have lw:w < nr:=by rw [<-(d.rows a (zB ha)).1];exact (zH.mp h1).1
 have z:=h k hk w lw
 rw [<-wM ha,<- wM hb,getD_at h1,getD_at h2] at z
 cases e:openB x.1 with
 | false=>rfl
 | true=>
  have o:=(d.rows b (zB hb)).2 x.2 (zB h2)
  rw [<-odd_inn o.1 o.2,show oddB x.2=true from decide_eq_true (z (of_decide_eq_true e))];rfl
theorem at38_3 (d:Dim38 n nr rs) {r:List Int} (hr:r∈rs) (w:Int):0<=at38 r w/\at38 r w<=3:=by
 unfold at38
 rw [zS]
 cases e:r[w.toNat]? with
 | none=>exact ⟨by decide,by decide⟩
 | some x=>exact (d.rows r hr).2 x (zB e)
theorem behind_come38 (d:Dim38 n nr rs) (w:S3):come1 ms rs w false=!behindB ms rs w:=by
 unfold come1 behindB
 rw [yX,zQ,List.drop_take,Nat.add_sub_cancel]
 congr 1
 refine any_congr38 ?_
 intro r hr
 have mr:=yO (ye hr)
 exact (odd_inn (at38_3 d mr _).1 (at38_3 d mr _).2).symm
theorem come_true38 (lt:ts.length=ws.length) (d:Dim38 n nr rs) (h:Td38 ms ls ws gs ts rs ws.length):comeF ms ws ts rs=true:=by
 unfold comeF
 rw [zg]
 intro x hx
 obtain ⟨j,hj⟩:=zn hx
 obtain ⟨h1,h2⟩:=yA.mp hj
 cases e:x.2 with
 | true=>rfl
 | false=>
  rw [e] at h2
  rw [behind_come38 d,(h j (zH.mp h1).1 x.1 h1 h2).1];rfl
theorem once_true38 (lt:ts.length=ws.length) (h:Td38 ms ls ws gs ts rs ws.length):onceF ls ws gs ts=true:=by
 unfold onceF once1
 rw [zg]
 intro x hx
 obtain ⟨i,hi⟩:=zn hx
 obtain ⟨g1,g2⟩:=yA.mp hi
 rw [zg]
 intro y hy
 obtain ⟨j,hj⟩:=zn hy
 obtain ⟨h1,h2⟩:=yA.mp hj
 cases e:x.2 with
 | false=>rfl
 | true=>
  cases e2:y.2 with
  | true=>rfl
  | false=>
   rw [e] at g2;rw [e2] at h2
   rw [(h j (zH.mp h1).1 y.1 h1 h2).2 i x.1 g1 g2];rfl
theorem td_put38 (h:Td38 ms ls ws gs ts rs i):Td38 ms ls ws gs (ts.set i true) rs (i + 1):=λj hj w hw ht=>by
 by_cases e:j=i
 ·subst e
  rw [List.getElem?_set] at ht
  rw [if_pos rfl] at ht
  split at ht <;> cases ht
 ·rw [yW (Ne.symm e)] at ht
  exact h j (by omega) w hw ht
theorem td_keep38 (h:Td38 ms ls ws gs ts rs i) {w:S3} (hw:ws[i]?=some w) (hb:behindB ms rs w=false) (hn:∀ (m:Nat) (l:S3),ls[m]?=some l->gs[m]?=some true->strB l w=false):Td38 ms ls ws gs ts rs (i + 1):=λj hj w' hw' ht=>by
 by_cases e:j=i
 ·subst e
  rw [hw] at hw';cases hw'
  exact ⟨hb,hn⟩
 ·exact h j (by omega) w' hw' ht
theorem near_nil38 {ps:List (Addr×S3)}{w:S3} (e:(ps.zip gs).filter (λq=>q.2 && strB q.1.2 w)=[]) (m:Nat) (l:S3) (hl:(ps.map (·.2))[m]?=some l) (hg:gs[m]?=some true):strB l w=false:=by
 rw [zJ] at hl
 obtain ⟨x,hx,rfl⟩:=Option.map_eq_some_iff.mp hl
 have z:=List.filter_eq_nil_iff.mp e (x,true) (zB (zip_at hx hg))
 rw [zQ,Bool.not_eq_true] at z
 exact z
theorem holds_true38 (lg:gs.length=ls.length) (lt:ts.length=ws.length) (d:Dim38 (ms.length + 1) nr rs) (h1:Opn38 ms ls gs rs (ms.length + 1) ls.length) (h2:Gs38 rs nr ms.length) (h3:Td38 ms ls ws gs ts rs ws.length):holdsF ms ls ws gs ts rs=true:=by
 unfold holdsF
 rw [open_true38 lg d h1,goes_true38 d h2,come_true38 lt d h3,once_true38 lt h3];rfl
end
section
variable {ms:List M4}{ls ws:List S3}{gs ts:List Bool}{rs rs':List (List Int)}{n nr i k w:Nat}{v:Int}
theorem open_inv38 (d:Dim38 n nr rs) (h:openF ms ls gs rs=true):Opn38 ms ls gs rs n ls.length:=λj hj l hl hg k h1 h2=>by
 unfold openF at h
 have z:=zg.mp h (l,true) (zB (zip_at hl hg))
 unfold open1 at z
 rw [zQ,Bool.not_not,zg] at z
 obtain ⟨r,hr⟩:∃ r,rs[k]?=some r:=⟨_,zG (by rw [d.len];exact h2)⟩
 have y:=z r (zB (i:=k - cnt ms l.t) (by rw [yN,show cnt ms l.t + (k - cnt ms l.t)=k by omega];exact hr))
 rw [<-wM hr]
 exact of_decide_eq_true y
theorem goes_inv38 (d:Dim38 (n + 1) nr rs) (h:goesF n rs=true):Gs38 rs nr n:=λk hk w hw h2=>by
 unfold goesF at h
 have z:=zg.mp h k (zx.mpr hk)
 obtain ⟨a,ha⟩:∃ a,rs[k]?=some a:=⟨_,zG (by rw [d.len];omega)⟩
 obtain ⟨b,hb⟩:∃ a,rs[k + 1]?=some a:=⟨_,zG (by rw [d.len];omega)⟩
 obtain ⟨la,_⟩:=d.rows a (zB ha)
 obtain ⟨lb,eb⟩:=d.rows b (zB hb)
 obtain ⟨x,hx⟩:∃ x,a[w]?=some x:=⟨_,zG (by omega)⟩
 obtain ⟨y,hy⟩:∃ x,b[w]?=some x:=⟨_,zG (by omega)⟩
 rw [goesK_at ha hb] at z
 unfold goes1 at z
 have z:=zg.mp z (x,y) (zB (zip_at hx hy))
 rw [<-wM ha,getD_at hx] at h2
 rw [<-wM hb,getD_at hy]
 have o:=eb y (zB hy)
 rw [show openB x=true from decide_eq_true h2,zQ,Bool.not_not,<- odd_inn o.1 o.2] at z
 exact of_decide_eq_true z
theorem td_inv38 (d:Dim38 n nr rs) (h1:comeF ms ws ts rs=true) (h2:onceF ls ws gs ts=true):Td38 ms ls ws gs ts rs ws.length:=λj hj w hw ht=>by
 have m:=zB (zip_at hw ht)
 unfold comeF at h1
 have z:=zg.mp h1 (w,false) m
 rw [behind_come38 d] at z
 refine ⟨by rwa [Bool.not_eq_true'] at z,λi l hl hg=>?_⟩
 unfold onceF at h2
 have y:=zg.mp h2 (l,true) (zB (zip_at hl hg))
 unfold once1 at y
 have y:=zg.mp y (w,false) m
 rw [zQ,yX,zQ,Bool.not_eq_true'] at y
 exact y
theorem holds_inv38 (d:Dim38 (ms.length + 1) nr rs) (h:holdsF ms ls ws gs ts rs=true):Opn38 ms ls gs rs (ms.length + 1) ls.length/\Gs38 rs nr ms.length/\Td38 ms ls ws gs ts rs ws.length:=by
 unfold holdsF at h
 rw [zd,zd,zd] at h
 exact ⟨open_inv38 d h.1,goes_inv38 d h.2.1,td_inv38 d h.2.2.1 h.2.2.2⟩
theorem behind_at38 {w:S3}:behindB ms rs w=true↔∃ k,k < cnt ms w.t/\k + 1 < rs.length/\mk38 rs (k + 1) w.w.toNat % 2=1:=by
 unfold behindB
 rw [List.any_eq_true]
 constructor
 ·rintro ⟨r,hr,e⟩
  obtain ⟨k,hk⟩:=zn hr
  rw [List.getElem?_take] at hk
  split at hk
  ·rename_i h
   rw [yN,Nat.add_comm] at hk
   refine ⟨k,h,(zH.mp hk).1,?_⟩
   rw [<-wM hk]
   exact of_decide_eq_true e
  ·cases hk
 ·rintro ⟨k,h1,h2,h3⟩
  obtain ⟨r,hr⟩:∃ r,rs[k + 1]?=some r:=⟨_,zG h2⟩
  refine ⟨r,zB (i:=k) (by rw [List.getElem?_take,if_pos h1,yN,Nat.add_comm];exact hr),?_⟩
  rw [<-wM hr] at h3
  exact decide_eq_true h3
def over38 (rs:List (List Int)) (k lo hi:Nat):Bool:=(openB (mk38 rs k lo) && !innB (mk38 rs (k + 1) hi)) || (openB (mk38 rs k hi) && !innB (mk38 rs (k + 1) lo))
def meet38 (ms:List M4) (rs:List (List Int)) (i:Nat):Int:=((waysN ms i).map (crossV ms rs)).sum
theorem meet_succ38 {m:M4} (hm:ms[k]?=some m) (g1:openB (mk38 rs k m.lo.toNat)=true->innB (mk38 rs (k + 1) m.lo.toNat)=true) (g2:openB (mk38 rs k m.hi.toNat)=true->innB (mk38 rs (k + 1) m.hi.toNat)=true):meet38 ms rs (k + 1)=meet38 ms rs k + if over38 rs k m.lo.toNat m.hi.toNat then m.m else 0:=by
 have e:(ms.map (·.m)).getD k 0=m.m:=getD_at (by rw [zJ,hm];rfl)
 have c:∀ (g o:Nat) (t:Int),crossV ms rs ⟨k,⟨g,o,t⟩⟩=if openB (mk38 rs k g) && !innB (mk38 rs (k + 1) o) then m.m else 0:=λg o t=>by
  unfold crossV;rw [e];rfl
 unfold meet38
 rw [waysN_succ hm,zC,yj,zt,zt,yZ,c,c]
 unfold over38
 cases h1:openB (mk38 rs k m.lo.toNat) <;> cases h2:openB (mk38 rs k m.hi.toNat) <;> cases h3:innB (mk38 rs (k + 1) m.lo.toNat) <;> cases h4:innB (mk38 rs (k + 1) m.hi.toNat) <;> simp_all
end
theorem CutOk.dim {nr nm:Nat}{ls ws:List (Addr×S3)}{gs ts:List Bool}{ms:List (Addr×List Int)} (h:CutOk nr nm ls ws gs ts ms) (hm:∀ a∈ms,∀ m∈a.2,(0:Int)<=m/\m<=3):Dim38 (nm + 1) nr (ms.map (·.2)):=⟨by rw [zA,h.lm],λr hr=>by
 obtain ⟨x,hx,rfl⟩:=zp.mp hr
 exact ⟨h.rows x hx,hm x hx⟩⟩
theorem rowBag_swap38:∀ (rooms r:List Int),((rooms.zip r).filter λp=>decide (p.2=1)).map (·.1)=rowBag rooms r
 | [],r=>by unfold rowBag;rw [List.zip_nil_left,List.zip_nil_right];rfl
 | _::_,[]=>rfl
 | x::rooms,y::r=>by
  have ih:=rowBag_swap38 rooms r
  unfold rowBag at ih ⊢
  rw [List.zip_cons_cons,List.zip_cons_cons]
  by_cases e:y=1
  ·rw [yQ (by rw [decide_eq_true e]),yQ (by rw [decide_eq_true e]),zt,zt,ih]
  ·rw [yP (by rw [decide_eq_false e];decide),yP (by rw [decide_eq_false e];decide),ih]
theorem even_inn38 {m:Int} (h0:0<=m) (h3:m<=3):decide (V.int (m % 2)=V.int 0)=!innB m:=by
 rw [<-odd_inn h0 h3]
 unfold oddB
 by_cases e:m % 2=1
 ·rw [decide_eq_true e,decide_eq_false (λz=>by have:=V.int.inj z;omega)];rfl
 ·have e2:m % 2=0:=by omega
  rw [decide_eq_false e,decide_eq_true (congrArg V.int e2)];rfl
theorem SacksAt.go38 {p l:Addr}{H H':Hp}{ps:List (Addr×S3)} (h:SacksAt H l ps) (g:Go p H H') (hp:Purse H p):SacksAt H' l ps:=by
 refine ⟨g.1 _ _ (λe=>?_) h.l,λa ha=>g.tups hp _ _ (h.each a ha)⟩
 obtain ⟨x,y,z,k⟩:=hp
 rw [<-e,h.l] at k
 match ps,k with
 | [],k=>cases k
 | a::ps,k=>cases k
def spCut38:Sp:=λvs H Q _=>∃ p b ll lw rooms tr tm ps ls ws,vs=[.ref p,.ref b,.ref ll,.ref lw]/\BookAt H b rooms tr tm ps/\Good rooms.length (ps.map (·.2))/\SacksAt H ll ls/\SacksAt H lw ws/\ls.length<=100/\ws.length<=100/\(∀ a∈ls,0<=a.2.w/\a.2.w < rooms.length)/\(∀ a∈ws,0<=a.2.w/\a.2.w < rooms.length)/\rooms.length<=12/\Purse H p /\
 ∀ c lg lt lm gs ts ms H',Go p H H'->H' c=some (.tup [.ref lg,.ref lt,.ref lm])->CutOf H' b ll lw rooms tr tm ps ls ws lg lt lm gs ts ms->CutOk rooms.length ps.length ls ws gs ts ms->(∀ a∈ms,(∀ m∈a.2,(0:Int)<=m/\m<=3)/\a.1≠p)->holdsF (ps.map (·.2)) (ls.map (·.2)) (ws.map (·.2)) gs ts (ms.map (·.2))=true->Q (.ref c) H'
theorem purse_ne38 {p l:Addr}{H:Hp}{xs:List V} (hp:Purse H p) (h:H l=some (.lst xs)) (n:∀ x y z:Int,xs≠[.int x,.int y,.int z]):l≠p:=λe=>by
 obtain ⟨x,y,z,k⟩:=hp
 rw [<-e,h] at k
 exact n x y z (by injection (Option.some.inj k))
theorem CutAt.go {p:Addr}{H H':Hp}{c lg lt lm:Addr}{gs ts:List Bool}{ms:List (Addr×List Int)} (h:CutAt H c lg lt lm gs ts ms) (g:Go p H H') (hp:Purse H p) (hn:∀ a∈ms,a.1≠p):CutAt H' c lg lt lm gs ts ms:=by
 refine ⟨g.tups hp _ _ h.c,g.1 _ _ (purse_ne38 hp h.g λx y z e=>?_) h.g,g.1 _ _ (purse_ne38 hp h.t λx y z e=>?_) h.t,g.1 _ _ (purse_ne38 hp h.m λx y z e=>?_) h.m,λa ha=>g.1 _ _ (hn a ha) (h.rows a ha)⟩
 ·cases gs with
  | nil=>cases e
  | cons b gs=>cases e
 ·cases ts with
  | nil=>cases e
  | cons b gs=>cases e
 ·cases ms with
  | nil=>cases e
  | cons b gs=>cases e
theorem DT.flat {H:Hp}{v:V}{t:String} (h:tyS H v=some t) (n1:t ≠ "list") (n2:t ≠ "tuple"):∀ n,DT H n v
 | 0=>⟨t,h⟩
 | _ + 1=>.inr (.inr ⟨t,h,n1,n2⟩)
theorem DT.bl {H:Hp} (n:Nat) (b:Bool):DT H n (.bl b):=DT.flat (t := "bool") rfl (by decide) (by decide) n
theorem DT.int {H:Hp} (n:Nat) (b:Int):DT H n (.int b):=DT.flat (t := "int") rfl (by decide) (by decide) n
theorem DT.non {H:Hp} (n:Nat):DT H n .non:=DT.flat (t := "NoneType") rfl (by decide) (by decide) n
theorem DT.lst {H:Hp}{n:Nat}{p:Addr}{xs:List V} (h:H p=some (.lst xs)) (e:∀ x∈xs,DT H n x):DT H (n + 1) (.ref p):=.inl ⟨p,xs,rfl,h,e⟩
theorem DT.tup {H:Hp}{n:Nat}{p:Addr}{xs:List V} (h:H p=some (.tup xs)) (e:∀ x∈xs,DT H n x):DT H (n + 1) (.ref p):=.inr (.inl ⟨p,xs,rfl,h,e⟩)
theorem DT.bools {H:Hp} (n:Nat) {gs:List Bool}:∀ x∈gs.map V.bl,DT H n x:=λx hx=>by
 obtain ⟨b,_,rfl⟩:=zp.mp hx;exact DT.bl n b
theorem DT.ints {H:Hp} (n:Nat) {r:List Int}:∀ x∈r.map V.int,DT H n x:=λx hx=>by
 obtain ⟨b,_,rfl⟩:=zp.mp hx;exact DT.int n b
theorem DT.three {H:Hp}{n:Nat}{x y z:V} (a:DT H n x) (b:DT H n y) (c:DT H n z):∀ v∈[x,y,z],DT H n v:=λv hv=>by
 simp only [zE,zI,or_false] at hv
 rcases hv with rfl | rfl | rfl <;> assumption
theorem DT.two {H:Hp}{n:Nat}{x y:V} (a:DT H n x) (b:DT H n y):∀ v∈[x,y],DT H n v:=λv hv=>by
 simp only [zE,zI,or_false] at hv
 rcases hv with rfl | rfl <;> assumption
theorem cut_mem38 {xs:List V}{lo hi:Option Int}{y:V} (h:y∈cutV xs lo hi):y∈xs:=by
 unfold cutV at h;exact yO (ye h)
section
variable {H:Hp}{c lg lt lm:Addr}{gs ts:List Bool}{ms:List (Addr×List Int)}
theorem CutAt.dg (h:CutAt H c lg lt lm gs ts ms):DT H 2 (.ref lg):=DT.lst h.g (DT.bools 1)
theorem CutAt.dt (h:CutAt H c lg lt lm gs ts ms):DT H 2 (.ref lt):=DT.lst h.t (DT.bools 1)
theorem CutAt.dr (h:CutAt H c lg lt lm gs ts ms):∀ x∈ms.map λa=>V.ref a.1,DT H 1 x:=λx hx=>by
 obtain ⟨a,ha,rfl⟩:=zp.mp hx
 exact DT.lst (h.rows a ha) (DT.ints 0)
theorem CutAt.dm (h:CutAt H c lg lt lm gs ts ms):DT H 2 (.ref lm):=DT.lst h.m h.dr
theorem mid_mem38 {n:Nat}{xs:List V} {l1 h1 l2 h2:Option Int}{v:V} (e:∀ x∈xs,DT H n x) (hv:DT H n v):∀ x∈cutV xs l1 h1++[v]++cutV xs l2 h2,DT H n x:=λx hx=>by
 rcases zX.mp hx with hx | hx
 ·rcases zX.mp hx with hx | hx
  ·exact e x (cut_mem38 hx)
  ·cases zM.mp hx;exact hv
 ·exact e x (cut_mem38 hx)
end
theorem dt_put38 {H:Hp}{l:Addr}{xs ys:List V}{v:V} (h:H l=some (.lst xs)) (d:DT H 0 v):∃ t,tyS (upd H l (.lst ys)) v=some t:=by
 obtain ⟨t,d⟩:=d
 cases v with
 | ref a=>
  by_cases e:a=l
  ·subst e;exact ⟨_,wE yx⟩
  ·refine ⟨t,?_⟩
   simp only [tyS] at d ⊢
   rw [xH e];exact d
 | _=>exact ⟨t,d⟩
theorem dt_go38 {p:Addr}{H H':Hp}{v:V} (g:Go p H H') (hp:Purse H p) (d:DT H 0 v):DT H' 0 v:=by
 obtain ⟨t,d⟩:=d
 cases v with
 | ref a=>
  by_cases e:a=p
  ·subst e
   obtain ⟨x,y,z,k⟩:=g.2
   exact ⟨_,wE k⟩
  ·cases h:H a with
   | none=>simp only [tyS,h] at d;cases d
   | some o=>
    have h2:=g.1 _ _ e h
    refine ⟨t,?_⟩
    simp only [tyS,h] at d
    simp only [tyS,h2];exact d
 | _=>exact ⟨t,d⟩
theorem tyS_dK {H:Hp}{p:Addr} (h:H p=some (.dK [])):tyS H (.ref p)=some "dict" := by simp only [tyS,h]
def spHolds38:Sp:=λvs H Q _=>∃ b ll lw rooms tr tm ps ls ws c lg lt lm gs ts ms,vs=[.ref b,.ref ll,.ref lw,.ref c]/\H c=some (.tup [.ref lg,.ref lt,.ref lm])/\CutOf H b ll lw rooms tr tm ps ls ws lg lt lm gs ts ms/\CutOk rooms.length ps.length ls ws gs ts ms/\Good rooms.length (ps.map (·.2))/\(∀ a∈ms,∀ m∈a.2,(0:Int)<=m/\m<=3)/\∀ H',Same H H'->Q (.bl (holdsF (ps.map (·.2)) (ls.map (·.2)) (ws.map (·.2)) gs ts (ms.map (·.2)))) H'
def spBent38:Sp:=λvs H Q _=>∃ p c lg lt lm,∃ gs ts:List Bool,∃ ms:List (Addr×List Int),∃ nr,vs=[.ref p,.ref c]/\Purse H p/\CutAt H c lg lt lm gs ts ms/\gs.length<=100/\ts.length<=100/\ms.length<=100/\1<=ms.length/\1<=nr/\nr<=12/\(∀ a∈ms,a.2.length=nr/\a.1≠p)/\∀ v H',Go p H H'->DT H' 3 v->Q v H'
def spAlike38:Sp:=λvs H Q _=>∃ b ll lw v rooms tr tm ps ls ws,vs=[.ref b,.ref ll,.ref lw,v]/\BookAt H b rooms tr tm ps/\Good rooms.length (ps.map (·.2))/\rooms.length<=12/\SacksAt H ll ls/\SacksAt H lw ws/\ls.length<=100/\ws.length<=100/\(∀ a∈ls,0<=a.2.w/\a.2.w < rooms.length)/\(∀ a∈ws,0<=a.2.w/\a.2.w < rooms.length)/\DT H 3 v/\∀ H',Same H H'->Q (.bl true) H'
end Sm
namespace Sm
open PySem L2
theorem bools_bl {bs:List Bool}:(bs.map V.bl).all isBl=true:=by
 induction bs with
 | nil=>rfl
 | cons b bs ih=>rw [zt,yR,ih];rfl
theorem ints_in38:∀ {r:List Int},(∀ m∈r,(0:Int)<=m/\m<=3)->(r.map V.int).all (inB 0 3)=true
 | [],_=>rfl
 | m::r,h=>by
  rw [zt,yR,ints_in38 λx hx=>h x (zc _ hx)]
  have:=h m (zo ..)
  simp only [inB,Bool.and_true,zd,decide_eq_true_eq];exact this
theorem form_of38 {H:Hp}{c lg lt lm:Addr}{gs ts:List Bool}{ms:List (Addr×List Int)}{n:Nat} (h:CutAt H c lg lt lm gs ts ms) (hr:∀ a∈ms,a.2.length=n/\∀ m∈a.2,(0:Int)<=m/\m<=3):formV H gs.length ts.length ms.length n (.ref c)=true:=by
 rw [form_3 h.c,truthsV_l h.g,truthsV_l h.t,rowsV_l h.m,bools_bl,bools_bl,zA,zA,zA,decide_eq_true rfl,decide_eq_true rfl,decide_eq_true rfl,zQ,zQ,zQ,zQ,zg]
 intro x hx
 obtain ⟨a,ha,rfl⟩:=zp.mp hx
 rw [marksV_l (h.rows a ha),zA,(hr a ha).1,decide_eq_true rfl,zQ]
 exact ints_in38 (hr a ha).2
theorem all_congr38 {α:Type}{l:List α}{f g:α->Bool} (h:∀ x∈l,f x=g x):l.all f=l.all g:=by
 induction l with
 | nil=>rfl
 | cons x l ih=>rw [yR,yR,h x (zo ..),ih λy hy=>h y (zc _ hy)]
theorem form_same38 {H H':Hp} (s:Same H H') {a b m n:Nat}{v:V} (h:DT H 3 v):formV H' a b m n v=formV H a b m n v:=by
 rcases h with ⟨p,xs,rfl,k,e⟩ | ⟨p,xs,rfl,k,e⟩ | ⟨t,k,_,e⟩
 ·rw [no_tup (wE k) (by decide),no_tup (wE (s _ _ k)) (by decide)]
 ·by_cases l:xs.length=3
  ·obtain ⟨x,y,z,rfl⟩:=three38 l
   have dx:=e x (by simp)
   have dy:=e y (by simp)
   have dz:=e z (by simp)
   rw [form_3 k,form_3 (s _ _ k),truths_same s dx.le,truths_same s dy.le]
   congr 1
   rcases dz with ⟨q,zs,rfl,k2,e2⟩ | ⟨q,zs,rfl,k2,e2⟩ | ⟨t,k2,e2,_⟩
   ·rw [rowsV_l k2,rowsV_l (s _ _ k2)]
    congr 1
    exact all_congr38 λx hx=>marks_same s (e2 x hx)
   ·rw [(xf (xj k2) (by decide) n m).2.2,(xf (xj (s _ _ k2)) (by decide) n m).2.2]
   ·rw [(xf k2 e2 n m).2.2,(xf (wF s k2) e2 n m).2.2]
  ·rw [form_len k l,form_len (s _ _ k) l]
 ·rw [no_tup k e,no_tup (wF s k) e]
theorem bl_inj38:∀ {a b:List Bool},a.map V.bl=b.map V.bl->a=b
 | [],[],_=>rfl
 | [],_::_,h=>by cases h
 | _::_,[],h=>by cases h
 | x::a,y::b,h=>by
  injection h with h1 h2
  injection h1 with h1
  rw [h1,bl_inj38 h2]
theorem ints_inj38:∀ {a b:List Int},a.map V.int=b.map V.int->a=b
 | [],[],_=>rfl
 | [],_::_,h=>by cases h
 | _::_,[],h=>by cases h
 | x::a,y::b,h=>by
  injection h with h1 h2
  injection h1 with h1
  rw [h1,ints_inj38 h2]
theorem rows_inj38 {H:Hp}:∀ {a b:List (Addr×List Int)},a.map (λx=>V.ref x.1)=b.map (λx=>V.ref x.1)->(∀ x∈a,H x.1=some (.lst (x.2.map V.int)))->(∀ x∈b,H x.1=some (.lst (x.2.map V.int)))->a=b
 | [],[],_,_,_=>rfl
 | [],_::_,h,_,_=>by cases h
 | _::_,[],h,_,_=>by cases h
 | x::a,y::b,h,ha,hb=>by
  injection h with h1 h2
  injection h1 with h1
  have k1:=ha x (zo ..)
  have k2:=hb y (zo ..)
  rw [<-h1,k1] at k2
  have e:x.2=y.2:=ints_inj38 (by injection (Option.some.inj k2))
  rw [show x=y from Prod.ext h1 e,rows_inj38 h2 (λz hz=>ha z (zc _ hz)) λz hz=>hb z (zc _ hz)]
theorem CutAt.uniq {H:Hp}{c lg lt lm lg' lt' lm':Addr}{gs ts gs' ts':List Bool}{ms ms':List (Addr×List Int)} (h:CutAt H c lg lt lm gs ts ms) (h':CutAt H c lg' lt' lm' gs' ts' ms'):gs=gs'/\ts=ts'/\ms=ms':=by
 have e:=h.c.symm.trans h'.c
 injection (Option.some.inj e) with e
 injection e with e1 e
 injection e with e2 e
 injection e with e3 e
 injection e1 with e1
 injection e2 with e2
 injection e3 with e3
 subst e1 e2 e3
 refine ⟨bl_inj38 ?_,bl_inj38 ?_,rows_inj38 ?_ h.rows h'.rows⟩
 ·have:=h.g.symm.trans h'.g;injection (Option.some.inj this)
 ·have:=h.t.symm.trans h'.t;injection (Option.some.inj this)
 ·have:=h.m.symm.trans h'.m;injection (Option.some.inj this)
theorem CutAt.eqv {K:PySem.W.Frag}{H:Hp}{c lg lt lm c' lg' lt' lm':Addr}{gs ts:List Bool}{ms ms':List (Addr×List Int)}{neg:Bool}{Q:VK} (h:CutAt H c lg lt lm gs ts ms) (h':CutAt H c' lg' lt' lm' gs ts ms') (e:ms.map (·.2)=ms'.map (·.2)) (q:Q (.bl (if neg then false else true)) H):rEqv K neg (.ref c) (.ref c') H Q:=by
 have bls:∀ {a b:Addr}{gs:List Bool},H a=some (.lst (gs.map V.bl))->H b=some (.lst (gs.map V.bl))->Eqv K H 2 (.ref a) (.ref b) true:=λ{a b gs} h1 h2=>eqv_lst h1 h2 rfl λi u v hu hv=>by
  rw [hu] at hv;cases hv
  rw [zJ] at hu
  obtain ⟨x,_,rfl⟩:=Option.map_eq_some_iff.mp hu
  exact eqv_flat rfl (by cases x <;> rfl)
 refine ⟨2,c,c',_,_,λ_=>true,true,by decide,rfl,rfl,.inr ⟨SqT.of h.c,SqT.of h'.c⟩,rfl,λi x y hx hy=>?_,?_⟩
 ·match i,hx,hy with
  | 0,hx,hy=>cases hx;cases hy;exact bls h.g h'.g
  | 1,hx,hy=>cases hx;cases hy;exact bls h.t h'.t
  | 2,hx,hy=>
   cases hx;cases hy
   refine eqv_lst h.m h'.m (by have:=congrArg List.length e;rw [zA,zA] at this;rw [zA,zA];exact this) λi u v hu hv=>?_
   obtain ⟨r,hr,rfl⟩:=xR hu
   obtain ⟨s,hs,rfl⟩:=xR hv
   have er:r.2=s.2:=by
    have:=congrArg (·[i]?) e
    simp only [zJ,hr,hs,Option.map_some,Option.some.injEq] at this
    exact this
   have k2:=h'.rows s (zB hs)
   rw [<-er] at k2
   exact eqv_lst (h.rows r (zB hr)) k2 rfl (eqv_ints _)
  | n + 3,hx,hy=>cases hx
 ·cases neg <;> exact q
end Sm
namespace Sm
open PySem L2 SmSort
structure Tie where
 h:Nat
 t:Nat
 m:Int
def hd (ts:List Tie) (a:Nat):Nat:=match ts[a / 2]? with
 | some x=>if a % 2=0 then x.t else x.h
 | none=>0
end Sm
namespace Sm
open PySem L2 SmSort
def straight (L:L4) (M:M4):Prop:=L.a < M.t/\L.s≠L.w/\(M.lo=(L.s:Int)\/M.hi=(L.s:Int))/\(M.lo=(L.w:Int)\/M.hi=(L.w:Int))
instance (L:L4) (M:M4):Decidable (straight L M):=by unfold straight;infer_instance
section
variable {rooms:List Int}{ms:List M4}{ls:List (Addr×L4)}{d:RuleD}{m j:Nat}{s:RS}{M:M4}{L:Addr×L4}{o:Option (Nat×Int)}
end
end Sm
namespace Sm
open PySem L2 SmSort
theorem cnt_lt:∀ {ms:List M4}{t:Int},(ms.Pairwise λa b=>a.t<=b.t)->∀ {j:Nat}{m:M4},ms[j]?=some m->(j < cnt ms t↔m.t<=t)
 | [],t,_,j,m,h=>by simp at h
 | a::ms,t,o,j,m,h=>by
  have o:=List.pairwise_cons.mp o
  by_cases c:a.t<=t
  ·have e:cnt (a::ms) t=cnt ms t + 1:=by unfold cnt;rw [List.filter_cons,if_pos (by simp [c])];rfl
   rw [e]
   cases j with
   | zero=>cases h;exact ⟨λ_=>c,λ_=>by omega⟩
   | succ j=>rw [<-cnt_lt (t:=t) o.2 (j:=j) h];omega
  ·have e:cnt (a::ms) t=0:=by
    unfold cnt
    rw [List.filter_cons,if_neg (by simp [c]),List.filter_eq_nil_iff.mpr (λm hm=>by have:=o.1 m hm;simp;omega)];rfl
   rw [e]
   have:a.t<=m.t:=by
    cases j with
    | zero=>cases h;exact Int.le_refl _
    | succ j=>exact o.1 m (zB h)
   omega
section
variable {lo hi:Nat->Nat}{g:Nat->Option Nat} {a s0:Nat}
end
end Sm
namespace Sm
open PySem L2
theorem line9:1002<=sizeLine:=by rw [sizeLine_eq];decide
end Sm


namespace Sm
open PySem L2
def top (i:Nat):Stmt:=PySem.Challenge.pw_satchelmeet_k38_whole_cuts_looked_at.main.body.getD i (.Pass ⟨0,0,0,0⟩)
abbrev Cy:Stmt:=top 22
abbrev CV:Stmt:=top 23
abbrev Dp:Stmt:=top 24
abbrev Cw:Stmt:=top 25
abbrev CW:Stmt:=top 26
abbrev wa:Stmt:=top 27
abbrev CY:Stmt:=top 28
abbrev CU:Stmt:=top 29
abbrev Cv:Stmt:=top 30
abbrev Do:Stmt:=top 1
abbrev CT:Stmt:=top 2
abbrev Db:Stmt:=top 4
abbrev GX:Stmt:=top 5
abbrev Cn:Stmt:=top 7
abbrev B4:Stmt:=top 11
abbrev Ck:Stmt:=top 12
abbrev wm:Stmt:=top 10
abbrev D1:Stmt:=top 13
abbrev FH:Stmt:=top 14
abbrev wS:Stmt:=top 15
abbrev Cu:Stmt:=top 16
abbrev wc:Stmt:=top 17
abbrev Cc:Stmt:=top 18
abbrev B3:Stmt:=top 19
abbrev BN:Stmt:=top 20
abbrev BZ:Stmt:=top 9
abbrev Cl:Stmt:=top 31
abbrev B5:Stmt:=top 32
abbrev Dc:Stmt:=top 33
abbrev wT:Stmt:=top 34
abbrev we:Stmt:=top 35
abbrev wO:Stmt:=top 36
abbrev wL:Stmt:=top 37
abbrev xx:Stmt:=top 38
abbrev CZ:Stmt:=top 39
abbrev Cz:Stmt:=top 40
abbrev Hl:Stmt:=top 41
set_option genInjectivity false
set_option genSizeOf false
structure Ad where
 AO:Addr
 Bu:FuncData
 AY:Addr
 BD:FuncData
 Bd:Addr
 BU:FuncData
 AN:Addr
 Bt:FuncData
 AZ:Addr
 BE:FuncData
 Al:Addr
 AG:FuncData
 A1:Addr
 BG:FuncData
 AX:Addr
 BC:FuncData
 AL:Addr
 Br:FuncData
 Bc:Addr
 BT:FuncData
 AU:Addr
 Bz:FuncData
 BJ:Addr
 Ca:FuncData
 C9:Addr
 Es:FuncData
 Ax:Addr
 Bb:FuncData
 AK:Addr
 Bq:FuncData
 AW:Addr
 BB:FuncData
 As:Addr
 AS:FuncData
 BI:Addr
 B9:FuncData
 Cm:Addr
 Dd:FuncData
 Ag:Addr
 Az:FuncData
 AI:Addr
 Bo:FuncData
 Ak:Addr
 AF:FuncData
 At:Addr
 AT:FuncData
 AJ:Addr
 Bp:FuncData
 Af:Addr
 Ay:FuncData
 AV:Addr
 BA:FuncData
 A0:Addr
 BF:FuncData
 AM:Addr
 Bs:FuncData
 BK:Addr
 Cb:FuncData
 Ah:Addr
 AA:FuncData
 Be:Addr
 BV:FuncData
 Am:Addr
 AH:FuncData
 Aj:Addr
 AC:FuncData
 Ai:Addr
 AB:FuncData
 A2:Addr
 BH:FuncData
 AQ:Addr
 Bv:FuncData
 DV:Addr
 FG:FuncData
structure Tx (K:PySem.W.Frag) (mg:Str->Option Value) (a:Ad):Prop where
 A9:Fun K "_law_purse" "_law_purse" Cy a.AO a.Bu
 B8:Binds K a.Bu ["_law_script", "_law_k"] []
 B6:mg "_law_purse" = some (.ref a.AO)
 B7:zN K (.ref a.AO)=true
 Bj:Fun K "_law_take" "_law_take" CV a.AY a.BD
 Ae:Binds K a.BD ["_law_purse_here", "_law_many"] []
 Ab:mg "_law_take" = some (.ref a.AY)
 Ac:zN K (.ref a.AY)=true
 Bx:Fun K "_law_far" "_law_far" Dp a.Bd a.BU
 Hb:Binds K a.BU ["_law_purse_here"] []
 GZ:mg "_law_far" = some (.ref a.Bd)
 G8:zN K (.ref a.Bd)=true
 A8:Fun K "_law_rooms" "_law_rooms" Cw a.AN a.Bt
 F1:Binds K a.Bt ["_law_purse_here", "_law_walkers"] []
 FS:mg "_law_rooms" = some (.ref a.AN)
 FW:zN K (.ref a.AN)=true
 Bk:Fun K "_law_step" "_law_step" CW a.AZ a.BE
 GD:Binds K a.BE ["_law_purse_here"] []
 Gn:mg "_law_step" = some (.ref a.AZ)
 Gw:zN K (.ref a.AZ)=true
 Av:Fun K "_law_meetings" "_law_meetings" wa a.Al a.AG
 EW:Binds K a.AG ["_law_purse_here", "_law_walkers", "_law_most"] []
 EQ:mg "_law_meetings" = some (.ref a.Al)
 ET:zN K (.ref a.Al)=true
 Bm:Fun K "_law_book" "_law_book" CY a.A1 a.BG
 GF:Binds K a.BG ["_law_purse_here", "_law_most_walkers", "_law_most_meetings"] []
 Gq:mg "_law_book" = some (.ref a.A1)
 Gy:zN K (.ref a.A1)=true
 Bi:Fun K "_law_time" "_law_time" CU a.AX a.BC
 GC:Binds K a.BC ["_law_purse_here", "_law_book_here", "_law_later"] []
 Gm:mg "_law_time" = some (.ref a.AX)
 Gv:zN K (.ref a.AX)=true
 A6:Fun K "_law_whole" "_law_whole" Cv a.AL a.Br
 CD:Binds K a.Br ["_law_thing"] []
 CB:mg "_law_whole" = some (.ref a.AL)
 CC:zN K (.ref a.AL)=true
 Bw:Fun K "is_whole" "is_whole" Do a.Bc a.BT
 Ha:Binds K a.BT ["thing"] []
 GY:mg "is_whole" = some (.ref a.Bc)
 G7:zN K (.ref a.Bc)=true
 Bf:Fun K "is_within" "is_within" CT a.AU a.Bz
 GA:Binds K a.Bz ["thing", "least", "most"] []
 Gj:mg "is_within" = some (.ref a.AU)
 Gs:zN K (.ref a.AU)=true
 BX:Fun K "by_time" "by_time" Db a.BJ a.Ca
 FE:Binds K a.Ca ["book", "time"] []
 FA:mg "by_time" = some (.ref a.BJ)
 FC:zN K (.ref a.BJ)=true
 Dv:Fun K "ways" "ways" GX a.C9 a.Es
 Hy:Binds K a.Es ["book"] []
 Hv:mg "ways" = some (.ref a.C9)
 Hw:zN K (.ref a.C9)=true
 AR:Fun K "is_straight" "is_straight" Cn a.Ax a.Bb
 Fx:Binds K a.Bb ["load", "want"] []
 Fv:mg "is_straight" = some (.ref a.Ax)
 Fw:zN K (.ref a.Ax)=true
 A5:Fun K "are_truths" "are_truths" B4 a.AK a.Bq
 DR:Binds K a.Bq ["thing", "size"] []
 DL:mg "are_truths" = some (.ref a.AK)
 DO:zN K (.ref a.AK)=true
 Bh:Fun K "are_marks" "are_marks" Ck a.AW a.BB
 GB:Binds K a.BB ["thing", "size"] []
 Gk:mg "are_marks" = some (.ref a.AW)
 Gu:zN K (.ref a.AW)=true
 AD:Fun K "has_cut_form" "has_cut_form" wm a.As a.AS
 Fh:Binds K a.AS ["book", "loads", "wants", "thing"] []
 Fd:mg "has_cut_form" = some (.ref a.As)
 Ff:zN K (.ref a.As)=true
 BW:Fun K "is_open" "is_open" D1 a.BI a.B9
 Ej:Binds K a.B9 ["mark"] []
 D7:mg "is_open" = some (.ref a.BI)
 Ed:zN K (.ref a.BI)=true
 CO:Fun K "is_in" "is_in" FH a.Cm a.Dd
 FX:Binds K a.Dd ["mark"] []
 FP:mg "is_in" = some (.ref a.Cm)
 FT:zN K (.ref a.Cm)=true
 Ao:Fun K "are_loads_open" "are_loads_open" wS a.Ag a.Az
 Ek:Binds K a.Az ["book", "loads", "begun", "marks"] []
 D8:mg "are_loads_open" = some (.ref a.Ag)
 Ee:zN K (.ref a.Ag)=true
 A3:Fun K "goes_on_in" "goes_on_in" Cu a.AI a.Bo
 FY:Binds K a.Bo ["book", "marks"] []
 FQ:mg "goes_on_in" = some (.ref a.AI)
 FU:zN K (.ref a.AI)=true
 Au:Fun K "come_where_in" "come_where_in" wc a.Ak a.AF
 EV:Binds K a.AF ["book", "wants", "come", "marks"] []
 EO:mg "come_where_in" = some (.ref a.Ak)
 ES:zN K (.ref a.Ak)=true
 AE:Fun K "come_at_once" "come_at_once" Cc a.At a.AT
 Fi:Binds K a.AT ["loads", "wants", "begun", "come"] []
 Fe:mg "come_at_once" = some (.ref a.At)
 Fg:zN K (.ref a.At)=true
 A4:Fun K "bags_worth" "bags_worth" B3 a.AJ a.Bp
 FZ:Binds K a.Bp ["book", "marks"] []
 FR:mg "bags_worth" = some (.ref a.AJ)
 FV:zN K (.ref a.AJ)=true
 An:Fun K "meetings_worth" "meetings_worth" BN a.Af a.Ay
 Ei:Binds K a.Ay ["book", "marks"] []
 D6:mg "meetings_worth" = some (.ref a.Af)
 Ec:zN K (.ref a.Af)=true
 Bg:Fun K "cut_worth" "cut_worth" BZ a.AV a.BA
 EK:Binds K a.BA ["book", "loads", "wants", "thing"] []
 EI:mg "cut_worth" = some (.ref a.AV)
 EJ:zN K (.ref a.AV)=true
 Bl:Fun K "_law_sack" "_law_sack" Cl a.A0 a.BF
 GE:Binds K a.BF ["_law_purse_here", "_law_book_here", "_law_walkers", "_law_later"] []
 Gp:mg "_law_sack" = some (.ref a.A0)
 Gx:zN K (.ref a.A0)=true
 A7:Fun K "_law_sacks" "_law_sacks" B5 a.AM a.Bs
 DS:Binds K a.Bs ["_law_script", "_law_book_here", "_law_head", "_law_first", "_law_later"] []
 DM:mg "_law_sacks" = some (.ref a.AM)
 DP:zN K (.ref a.AM)=true
 BY:Fun K "_law_by" "_law_by" Dc a.BK a.Cb
 FF:Binds K a.Cb ["_law_book_here", "_law_time_here"] []
 FB:mg "_law_by" = some (.ref a.BK)
 FD:zN K (.ref a.BK)=true
 Ap:Fun K "_law_in_behind" "_law_in_behind" wT a.Ah a.AA
 El:Binds K a.AA ["_law_book_here", "_law_want", "_law_marks"] []
 D9:mg "_law_in_behind" = some (.ref a.Ah)
 Ef:zN K (.ref a.Ah)=true
 By:Fun K "_law_cut" "_law_cut" we a.Be a.BV
 Hc:Binds K a.BV ["_law_purse_here", "_law_book_here", "_law_loads", "_law_wants"] []
 G6:mg "_law_cut" = some (.ref a.Be)
 G9:zN K (.ref a.Be)=true
 Aw:Fun K "_law_cut_form" "_law_cut_form" wO a.Am a.AH
 EX:Binds K a.AH ["_law_book_here", "_law_loads", "_law_wants", "_law_cut_here"] []
 ER:mg "_law_cut_form" = some (.ref a.Am)
 EU:zN K (.ref a.Am)=true
 Ar:Fun K "_law_cut_holds" "_law_cut_holds" wL a.Aj a.AC
 En:Binds K a.AC ["_law_book_here", "_law_loads", "_law_wants", "_law_cut_here"] []
 Eb:mg "_law_cut_holds" = some (.ref a.Aj)
 Eh:zN K (.ref a.Aj)=true
 Aq:Fun K "_law_cut_worth" "_law_cut_worth" xx a.Ai a.AB
 Em:Binds K a.AB ["_law_book_here", "_law_loads", "_law_wants", "_law_cut_here"] []
 Ea:mg "_law_cut_worth" = some (.ref a.Ai)
 Eg:zN K (.ref a.Ai)=true
 Bn:Fun K "_law_bent" "_law_bent" CZ a.A2 a.BH
 GG:Binds K a.BH ["_law_purse_here", "_law_cut_here"] []
 Gr:mg "_law_bent" = some (.ref a.A2)
 Gz:zN K (.ref a.A2)=true
 Ba:Fun K "_law_alike" "_law_alike" Cz a.AQ a.Bv
 DU:Binds K a.Bv ["_law_book_here", "_law_loads", "_law_wants", "_law_thing"] []
 DN:mg "_law_alike" = some (.ref a.AQ)
 DQ:zN K (.ref a.AQ)=true
 EL:Fun K "law" "law" Hl a.DV a.FG
 HE:Binds K a.FG ["_law_script"] []
 HD:mg "law" = some (.ref a.DV)
 k_law:zN K (.ref a.DV)=true
 b_all:mg "all" = none
 b_any:mg "any" = none
 b_bool:mg "bool" = none
 b_enumerate:mg "enumerate" = none
 b_int:mg "int" = none
 b_isinstance:mg "isinstance" = none
 b_len:mg "len" = none
 b_list:mg "list" = none
 b_max:mg "max" = none
 b_min:mg "min" = none
 b_range:mg "range" = none
 b_sorted:mg "sorted" = none
 b_sum:mg "sum" = none
 b_tuple:mg "tuple" = none
 b_zip:mg "zip" = none
section
variable (P:Program) (w:World) {K:PySem.W.Frag}{mg:Str->Option Value} (base:Heap) {a:Ad}
theorem Dk:FnScope ["_law_script", "_law_k", "_law_cell", "_law_left"] ["_law_script", "_law_k"] (defScope Cy):=⟨rfl,rfl,rfl,by decide +kernel,rfl,by decide +kernel,by decide +kernel⟩
theorem Dm (T:Tx K mg a):FnOk P w K mg base CX0 1 a.AO a.Bu ["_law_script", "_law_k"] (spPurse K):=by
 refine T.A9.ok Dk (λvs H Q E h=>?_) (λcdv A outer s H vs Q E hr h=>?_)
 ·obtain ⟨a,ns,k,rfl,_⟩:=h;rfl
 ·have nd:=Dk.nd
  have hu:=hr.units
  obtain ⟨sa,ns,k,rfl,hS,hk,q⟩:=h
  refine ⟨_,(@xD _ _ _ (@xQ _ _ _ _ _ _ (xL (i:=2) nd rfl rfl yt) (@xQ _ _ _ _ _ _ (@xW _ _ _ _ _ _ _ _ (@xP _ _ _ _ _ _ _ _ op_lt (pv 1) (xF (xJ rfl) (by rfl) T.b_len PySem.boot_len (@yu _ _ _ (@yw _ _ _ _ _ (pv 0) xB rfl))) (nomark _)) (@xD _ _ _ (@xS _ _ _ (xL (i:=2) nd rfl rfl (@xG _ _ _ _ _ _ _ (xI rfl) (pv 0) (pv 1) (λ_ _=>rfl))))) xO) (@xQ _ _ _ _ _ _ (xL (i:=3) nd rfl rfl yt) (@xQ _ _ _ _ _ _ (@xW _ _ _ _ _ _ _ _ (@xP _ _ _ _ _ _ _ _ op_lt (pv 2) yt (nomark _)) (@xD _ _ _ (@xS _ _ _ (xL (i:=3) nd rfl rfl (@xM _ _ _ _ _ _ _ _ op_sub (@pe_un _ _ _ _ _ _ un_neg yt) (pv 2))))) xO) (@xQ _ _ _ _ _ _ (@xW _ _ _ _ _ _ _ _ (@xP _ _ _ _ _ _ _ _ op_ge (pv 2) (@xM _ _ _ _ _ _ _ _ op_pow yt yt) (nomark _)) (@xD _ _ _ (@xS _ _ _ (xL (i:=3) nd rfl rfl (pv 2)))) xO) (@xS _ _ _ (@xN _ _ _ _ (@xa _ _ _ _ (@yu _ _ _ (@yw _ _ _ _ _ (pv 3) (@yw _ _ _ _ _ (@xM _ _ _ _ _ _ _ _ wj (@xM _ _ _ _ _ _ _ _ xU (@xM _ _ _ _ _ _ _ _ xU (@xM _ _ _ _ _ _ _ _ op_mul (pv 2) yt) (@xM _ _ _ _ _ _ _ _ op_mul (pv 1) yt)) yt) yt) (@yw _ _ _ _ _ yt xB rfl) rfl) rfl))))))))))),?_⟩
  have c18:CPow 10 18:=⟨by decide,by decide,by decide⟩
  have s3:3<=sizeLine:=by rw [sizeLine_eq];decide
  have fin:∀ (x y:Int) p,H p=none->Q (.ref p) (upd H p (.lst [.int x,.int y,.int 0])):=λx y p hp=>q p _ hp ⟨x,y,0,yx⟩ (yy hp)
  have c69:∀ x:Int,CMul x 69:=λx=>.inr ⟨by decide,by decide⟩
  have c405:∀ x:Int,CMul x 40503:=λx=>.inr ⟨by decide,by decide⟩
  refine (zr rfl (zr rfl ⟨sa,zr rfl ⟨.inl hS,zr2 rfl rfl (zr rfl (iteN (fun σ H1=>∃ c:Int,σ=[some (.ref sa),some (.int k),some (.int c),none]/\H=H1) ?_ (λc k0=>?_) (λc=>⟨0,rfl,rfl⟩)))⟩⟩))
  ·rintro σ H1 ⟨c,rfl,rfl⟩
   refine (zr rfl (zr2 rfl rfl (zr rfl (iteN (fun σ H1=>∃ d:Int,σ=[some (.ref sa),some (.int k),some (.int c),some (.int d)]/\H=H1) ?_ (λz k0=>?_) (λz=>⟨0,rfl,rfl⟩)))))
   ·rintro σ H1 ⟨d,rfl,rfl⟩
    refine (zr rfl (zr2 rfl rfl ⟨c18,zr2 rfl rfl (zr rfl (iteN (fun σ H1=>∃ d:Int,σ=[some (.ref sa),some (.int k),some (.int c),some (.int d)]/\H=H1) ?_ (λz k0=>(zr rfl (k0 _ _ ⟨c,rfl,rfl⟩))) (λz=>⟨d,rfl,rfl⟩)))⟩))
    rintro σ H1 ⟨d,rfl,rfl⟩
    exact (zr rfl (zr rfl (zr2 rfl rfl ⟨c69 _,zr rfl (zr2 rfl rfl ⟨c405 _,zr2 rfl rfl (zr2 rfl rfl (zr2 rfl rfl ⟨(by show (0:Int) < 2147483647;decide),s3,fin _ _⟩))⟩)⟩)))
   ·exact (zr rfl (zr rfl (zr2 rfl rfl (k0 _ _ (zr rfl rfl)))))
  ·have hk2:k < ns.length:=by
    have:=of_decide_eq_true c
    rw [zA] at this;omega
   exact (zr rfl (zr rfl ⟨sa,_,zr2 rfl rfl ⟨hS,xb (v:=V.int ns[k]) (by simp [hk2]),k0 _ _ (zr rfl rfl)⟩⟩))
theorem DA:FnScope ["_law_purse_here", "_law_many", "_law_digit", "_law_mixed"] ["_law_purse_here", "_law_many"] (defScope CV):=⟨rfl,rfl,rfl,by decide +kernel,rfl,by decide +kernel,by decide +kernel⟩
theorem xl (T:Tx K mg a):FnOk P w K mg base CX0 1 a.AY a.BD ["_law_purse_here", "_law_many"] (spTake):=by
 refine T.Bj.ok DA (λvs H Q E h=>?_) (λcdv A outer s H vs Q E hr h=>?_)
 ·obtain ⟨p,n,rfl,_⟩:=h;rfl
 ·have nd:=DA.nd
  have hu:=hr.units
  obtain ⟨p,n,rfl,n0,n1,⟨x,y,z,hp⟩,q⟩:=h
  refine ⟨_,(@xD _ _ _ (@xQ _ _ _ _ _ _ (@xW _ _ _ _ _ _ _ _ (@xP _ _ _ _ _ _ _ _ op_gt (@xG _ _ _ _ _ _ _ (xI rfl) (pv 0) yt (λ_ _=>rfl)) yt (nomark _)) (@xD _ _ _ (@xQ _ _ _ _ _ _ (xL (i:=2) nd rfl rfl (@xM _ _ _ _ _ _ _ _ wj (@xG _ _ _ _ _ _ _ (xI rfl) (pv 0) yt (λ_ _=>rfl)) (pv 1))) (@xQ _ _ _ _ _ _ (ps_asg (@xM _ _ _ _ _ _ _ _ op_fdivB (@xG _ _ _ _ _ _ _ (xI rfl) (pv 0) yt (λ_ _=>rfl)) (pv 1)) (pg_sub (pv 0) yt set_list)) (@xS _ _ _ (@xN _ _ _ _ (pv 2)))))) xO) (@xQ _ _ _ _ _ _ (ps_augS (pv 0) yt (get_list rfl) yt ip_add set_list) (@xQ _ _ _ _ _ _ (xL (i:=3) nd rfl rfl (@xM _ _ _ _ _ _ _ _ wj (@xM _ _ _ _ _ _ _ _ op_mul (@xM _ _ _ _ _ _ _ _ xU (@xG _ _ _ _ _ _ _ (xI rfl) (pv 0) yt (λ_ _=>rfl)) (@xM _ _ _ _ _ _ _ _ op_mul (@xG _ _ _ _ _ _ _ (xI rfl) (pv 0) yt (λ_ _=>rfl)) yt)) yt) yt)) (@xQ _ _ _ _ _ _ (xL (i:=3) nd rfl rfl (@xM _ _ _ _ _ _ _ _ wj (@xM _ _ _ _ _ _ _ _ xU (@xM _ _ _ _ _ _ _ _ xU (@xM _ _ _ _ _ _ _ _ op_mul (pv 3) (pv 3)) (@xM _ _ _ _ _ _ _ _ op_mul (@xG _ _ _ _ _ _ _ (xI rfl) (pv 0) yt (λ_ _=>rfl)) yt)) (@xG _ _ _ _ _ _ _ (xI rfl) (pv 0) yt (λ_ _=>rfl))) yt)) (@xS _ _ _ (@xN _ _ _ _ (@xM _ _ _ _ _ _ _ _ wj (@xM _ _ _ _ _ _ _ _ op_fdivB (@xM _ _ _ _ _ _ _ _ wj (@xM _ _ _ _ _ _ _ _ op_mul (pv 3) yt) yt) yt) (pv 1))))))))),?_⟩
  have hS:SqL K H p _:=SqL.of hp
  have cm:∀ x c:Int,-(2 ^ 64) < c->c < 2 ^ 64->CMul x c:=λx c h h'=>.inr ⟨h,h'⟩
  refine (zr rfl ⟨p,_,zr2 rfl rfl ⟨hS,rfl,zr2 rfl rfl (zr rfl (iteD (λh1=>?_) λh1=>?_))⟩⟩)
  ·refine (zr rfl ⟨p,_,zr2 rfl rfl ⟨hS,rfl,zr rfl (zr2 rfl rfl ⟨n0,?_⟩)⟩⟩)
   refine (zr rfl ⟨p,_,zr2 rfl rfl ⟨hS,rfl,zr rfl (zr2 rfl rfl ⟨⟨n0,n1⟩,zr rfl ⟨p,_,_,0,rfl,rfl,hp,rfl,?_⟩⟩)⟩⟩)
   exact (zr rfl (q _ _ (yh _ (by omega)) (yb _ n0) ⟨But.set,_,_,_,yx⟩))
  ·refine (zr rfl ⟨p,_,zr2 rfl rfl ⟨hS,rfl,zr2 rfl rfl ⟨p,_,_,2,rfl,rfl,hp,rfl,?_⟩⟩⟩)
   have h2:(upd H p (HO.lst ([V.int x,V.int y,V.int z].set 2 (.int (z + 1))))) p=some (.lst [V.int x,V.int y,V.int (z + 1)]):=yx
   have b2:But p H (upd H p (HO.lst ([V.int x,V.int y,V.int z].set 2 (.int (z + 1))))):=But.set
   generalize upd H p (HO.lst ([V.int x,V.int y,V.int z].set 2 (.int (z + 1))))=H2 at h2 b2 ⊢
   have hS2:SqL K H2 p _:=SqL.of h2
   have big:(2147483647:Int) < 2 ^ 64:=by decide
   have low:-(2:Int) ^ 64 < 0:=by decide
   have pos:(0:Int) < 2147483647:=by decide
   refine (zr rfl ⟨p,_,zr2 rfl rfl ⟨hS2,rfl,zr rfl ⟨p,_,zr2 rfl rfl ⟨hS2,rfl,zr2 rfl rfl ⟨cm _ _ (by decide) (by decide),zr2 rfl rfl (zr2 rfl rfl ⟨cm _ _ (by decide) (by decide),zr2 rfl rfl ⟨(by show (0:Int) < 2147483647;decide),?_⟩⟩)⟩⟩⟩⟩⟩)
   have m0:=yh ((y + (z + 1) * 362437) * 48271) (show (2147483647:Int)≠0 by decide)
   have m1:=yb ((y + (z + 1) * 362437) * 48271) pos
   refine (zr rfl (zr rfl (zr2 rfl rfl ⟨.inl ⟨Int.lt_of_lt_of_le low m0,Int.lt_trans m1 big⟩,zr rfl ⟨p,_,zr2 rfl rfl ⟨hS2,rfl,zr2 rfl rfl ⟨cm _ _ (by decide) (by decide),zr2 rfl rfl (zr rfl ⟨p,_,zr2 rfl rfl ⟨hS2,rfl,zr2 rfl rfl (zr2 rfl rfl ⟨(by show (0:Int) < 2147483629;decide),?_⟩)⟩⟩)⟩⟩⟩⟩)))
   refine (zr rfl (zr2 rfl rfl ⟨cm _ _ (by decide) (by decide),zr2 rfl rfl ⟨(by show (0:Int) < 2147483563;decide),zr2 rfl rfl ⟨⟨by decide,by decide⟩,zr rfl (zr2 rfl rfl ⟨n0,?_⟩)⟩⟩⟩))
   exact q _ _ (yh _ (by omega)) (yb _ n0) ⟨b2,_,_,_,h2⟩
theorem EG:FnScope ["_law_purse_here", "_law_high"] ["_law_purse_here"] (defScope Dp):=⟨rfl,rfl,rfl,by decide +kernel,rfl,by decide +kernel,by decide +kernel⟩
theorem Gh (T:Tx K mg a):FnOk P w K mg base CX0 2 a.Bd a.BU ["_law_purse_here"] (spFar):=by
 have Aa:=xl P w base T
 refine T.Bx.ok EG (λvs H Q E h=>?_) (λcdv A outer s H vs Q E hr h=>?_)
 ·obtain ⟨p,rfl,_⟩:=h;rfl
 ·have nd:=EG.nd
  have hu:=hr.units
  obtain ⟨p,rfl,hp,q⟩:=h
  refine ⟨_,(@xD _ _ _ (@xQ _ _ _ _ _ _ (xL (i:=1) nd rfl rfl (xC Aa (hr.mono (by decide)) rfl T.Ab T.Ac T.Ae .nil pass0 (@yu _ _ _ (@yw _ _ _ _ _ (pv 0) (@yw _ _ _ _ _ yt xB rfl) rfl)))) (@xS _ _ _ (@xN _ _ _ _ (@xM _ _ _ _ _ _ _ _ wj (@xM _ _ _ _ _ _ _ _ xU (@xM _ _ _ _ _ _ _ _ op_mul (pv 1) yt) (xC Aa (hr.mono (by decide)) rfl T.Ab T.Ac T.Ae .nil pass0 (@yu _ _ _ (@yw _ _ _ _ _ (pv 0) (@yw _ _ _ _ _ yt xB rfl) rfl)))) (@xM _ _ _ _ _ _ _ _ xU (@xM _ _ _ _ _ _ _ _ op_pow yt yt) yt)))))),?_⟩
  refine (zr rfl ⟨p,zr rfl ⟨by decide,by decide,hp,λd H1 d0 d1 g1=>(zr rfl (zr2 rfl rfl ⟨.inr ⟨by decide,by decide⟩,zr rfl ⟨p,zr rfl ⟨by decide,by decide,g1.2,λe H2 e0 e1 g2=>(zr2 rfl rfl (zr2 rfl rfl ⟨⟨by decide,by decide,by decide⟩,zr2 rfl rfl (zr2 rfl rfl ⟨(by show (0:Int) < 10 ^ Int.toNat 9 + 1;decide),?_⟩)⟩))⟩⟩⟩))⟩⟩)
  have e9:(10:Int) ^ Int.toNat 9 + 1=1000000001:=by decide
  rw [e9]
  exact q _ _ (yh _ (by decide)) (Int.lt_add_one_iff.mp (yb _ (by decide))) (g1.trans g2)
theorem Dj:FnScope ["_law_purse_here", "_law_walkers", "_law_rooms_here", "_law_walker", "_law_room"] ["_law_purse_here", "_law_walkers"] (defScope Cw):=⟨rfl,rfl,rfl,by decide +kernel,rfl,by decide +kernel,by decide +kernel⟩
theorem Ft (T:Tx K mg a):FnOk P w K mg base CX0 2 a.AN a.Bt ["_law_purse_here", "_law_walkers"] (spRooms):=by
 have Aa:=xl P w base T
 refine T.A8.ok Dj (λvs H Q E h=>?_) (λcdv A outer s H vs Q E hr h=>?_)
 ·obtain ⟨p,n,rfl,_⟩:=h;rfl
 ·have nd:=Dj.nd
  have hu:=hr.units
  obtain ⟨p,n,rfl,hn,hp,q⟩:=h
  refine ⟨_,(@xD _ _ _ (@xQ _ _ _ _ _ _ (xL (i:=2) nd rfl rfl (@xa _ _ _ _ wd)) (@xQ _ _ _ _ _ _ (xm PassesOwn.never rfl (xq rfl T.b_range (@yu _ _ _ (@yw _ _ _ _ _ (pv 1) xB rfl))) (xA (i:=3) nd rfl rfl) (@xD _ _ _ (@xQ _ _ _ _ _ _ (xL (i:=4) nd rfl rfl (@xM _ _ _ _ _ _ _ _ op_fdivB (xC Aa (hr.mono (by decide)) rfl T.Ab T.Ac T.Ae .nil pass0 (@yu _ _ _ (@yw _ _ _ _ _ (pv 0) (@yw _ _ _ _ _ yt xB rfl) rfl))) yt)) (@xQ _ _ _ _ _ _ (@xW _ _ _ _ _ _ _ _ (@xP _ _ _ _ _ _ _ _ xw (pv 4) yt (nomark _)) (@xD _ _ _ (@xS _ _ _ (xL (i:=4) nd rfl rfl (xC Aa (hr.mono (by decide)) rfl T.Ab T.Ac T.Ae .nil pass0 (@yu _ _ _ (@yw _ _ _ _ _ (pv 0) (@yw _ _ _ _ _ yt xB rfl) rfl)))))) xO) (@xS _ _ _ (ps_expr (pe_bm PySem.F.plainAttrs_list PySem.F.slot_list_append PySem.F.type_list_append mt_append (pv 2) (@yu _ _ _ (@yw _ _ _ _ _ (pv 4) xB rfl))))))))) (@xS _ _ _ (@xN _ _ _ _ (xr (wV) (by rfl) T.b_tuple yD (@yu _ _ _ (@yw _ _ _ _ _ (pv 2) xB rfl)))))))),?_⟩
  have line:1001<=sizeLine:=by rw [sizeLine_eq];decide
  refine ⟨za _,λl hl=>?_⟩
  have npl:=hp.ne hl
  refine (zr rfl (zr rfl ⟨by omega,by omega,?_⟩))
  refine xy (lo:=0) (n:=n) (λi σ H2=>∃ v3 v4 rs,σ=[some (.ref p),some (.int n),some (.ref l),v3,v4]/\H2 l=some (.lst (List.map V.int rs))/\rs.length=i/\(∀ r∈rs,(0:Int)<=r/\r<=99)/\Go p H H2)
   ⟨_,_,[],rfl,yx,rfl,(λ_ z=>nomatch z),(Go.refl hp).new hl⟩ ?_ ?_
  ·rintro i σ H2 hi ⟨v3,v4,rs,rfl,h2,hlen,hr,go⟩
   refine (zr rfl ⟨p,zr rfl ⟨by decide,by decide,go.2,λd H3 d0 d1 g3=>(zr2 rfl rfl ⟨⟨by decide,by decide⟩,?_⟩)⟩⟩)
   refine (zr rfl ⟨rfl,zr rfl (iteN (fun σ H4=>∃ x:Int,σ=[some (.ref p),some (.int n),some (.ref l),some (.int (0 + (i:Int))),some (.int x)]/\0<=x/\x<=99/\Go p H2 H4) ?_ (λc k0=>(zr rfl ⟨p,zr rfl ⟨by decide,by decide,g3.2,λe H4 e0 e1 g4=>k0 _ _ ⟨e,rfl,e0,by omega,g3.trans g4⟩⟩⟩)) (λc=>(zr rfl ⟨by omega,by omega,g3⟩)))⟩)
   rintro σ H4 ⟨x,rfl,x0,x1,g4⟩
   have h4:=g4.1 l _ npl h2
   refine (zr rfl ⟨.inl ⟨rfl,_,SqL.of h4⟩,zr rfl ⟨l,zr2 rfl rfl ⟨h4,by rw [zA];omega,_,_,rs++[x],rfl,by rw [yx,zC];rfl,by simp [hlen],λr hr'=>?_,?_⟩⟩⟩)
   ·rcases zX.mp hr' with h | h
    ·exact hr r h
    ·cases zM.mp h;exact ⟨x0,x1⟩
   ·have g2:=go.trans g4
    refine ⟨λb u nb e=>?_,?_⟩
    ·rw [xH (yz e hl)];exact g2.1 b u nb e
    ·obtain ⟨a,b,c,e⟩:=g2.2
     exact ⟨a,b,c,by rw [xH npl.symm];exact e⟩
  ·rintro σ H2 ⟨v3,v4,rs,rfl,h2,hlen,hr,go⟩
   exact (zr rfl ⟨l,zr rfl (.inl ⟨SqL.of h2,λt ht=>q t rs _ (go.new ht) yx hlen hr⟩)⟩)
theorem DB:FnScope ["_law_purse_here", "_law_way"] ["_law_purse_here"] (defScope CW):=⟨rfl,rfl,rfl,by decide +kernel,rfl,by decide +kernel,by decide +kernel⟩
theorem FL (T:Tx K mg a):FnOk P w K mg base CX0 2 a.AZ a.BE ["_law_purse_here"] (spStep):=by
 have Aa:=xl P w base T
 refine T.Bk.ok DB (λvs H Q E h=>?_) (λcdv A outer s H vs Q E hr h=>?_)
 ·obtain ⟨p,rfl,_⟩:=h;rfl
 ·have nd:=DB.nd
  have hu:=hr.units
  obtain ⟨p,rfl,hp,q⟩:=h
  refine ⟨_,(@xD _ _ _ (@xQ _ _ _ _ _ _ (xL (i:=1) nd rfl rfl (xC Aa (hr.mono (by decide)) rfl T.Ab T.Ac T.Ae .nil pass0 (@yu _ _ _ (@yw _ _ _ _ _ (pv 0) (@yw _ _ _ _ _ yt xB rfl) rfl)))) (@xQ _ _ _ _ _ _ (@xW _ _ _ _ _ _ _ _ (@xP _ _ _ _ _ _ _ _ op_lt (pv 1) yt (nomark _)) (@xD _ _ _ (@xS _ _ _ (@xN _ _ _ _ (@xG _ _ _ _ _ _ _ (xI rfl) (@xa _ _ _ _ (@yu _ _ _ (@yw _ _ _ _ _ yt (@yw _ _ _ _ _ yt (@yw _ _ _ _ _ yt xB rfl) rfl) rfl))) (pv 1) (λ_ _=>rfl))))) xO) (@xQ _ _ _ _ _ _ (@xW _ _ _ _ _ _ _ _ (@xP _ _ _ _ _ _ _ _ xw (pv 1) yt (nomark _)) (@xD _ _ _ (@xS _ _ _ (@xN _ _ _ _ (@xM _ _ _ _ _ _ _ _ xU yt (xC Aa (hr.mono (by decide)) rfl T.Ab T.Ac T.Ae .nil pass0 (@yu _ _ _ (@yw _ _ _ _ _ (pv 0) (@yw _ _ _ _ _ yt xB rfl) rfl))))))) xO) (@xS _ _ _ (@xN _ _ _ _ (@xM _ _ _ _ _ _ _ _ xU yt (xC Aa (hr.mono (by decide)) rfl T.Ab T.Ac T.Ae .nil pass0 (@yu _ _ _ (@yw _ _ _ _ _ (pv 0) (@yw _ _ _ _ _ (@xM _ _ _ _ _ _ _ _ op_mul yt (@xM _ _ _ _ _ _ _ _ op_pow yt yt)) xB rfl) rfl)))))))))),?_⟩
  have s3:3<=sizeLine:=by rw [sizeLine_eq];decide
  refine (zr rfl ⟨p,zr rfl ⟨by decide,by decide,hp,λd H1 d0 d1 g1=>(zr rfl (zr2 rfl rfl (zr rfl (iteD (λh1=>?_) λh1=>?_))))⟩⟩)
  ·obtain ⟨v,hv,v0,v1⟩:∃ v:Int,atI [V.int 0,V.int 1,V.int 1] d=some (V.int v)/\0<=v/\v<=1:=by
    obtain rfl | rfl | rfl:d=0\/d=1\/d=2:=by omega
    ·exact ⟨0,rfl,by decide,by decide⟩
    ·exact ⟨1,rfl,by decide,by decide⟩
    ·exact ⟨1,rfl,by decide,by decide⟩
   exact ⟨s3,λl hl=>(zr rfl (ixl yx hv (q _ _ v0 (by omega) (g1.new hl))))⟩
  ·refine (zr rfl ⟨rfl,zr rfl (iteD (λh2=>?_) λh2=>?_)⟩)
   ·exact (zr rfl ⟨p,zr rfl ⟨by decide,by decide,g1.2,λe H2 e0 e1 g2=>(zr2 rfl rfl (q _ _ (by omega) (by omega) (g1.trans g2)))⟩⟩)
   ·have e16:(16:Int) * 10 ^ Int.toNat 6=16000000:=by decide
    refine (zr rfl (zr2 rfl rfl ⟨⟨by decide,by decide,by decide⟩,zr2 rfl rfl ⟨.inl ⟨by decide,by decide⟩,p,zr rfl ⟨by decide,by decide,g1.2,λe H2 e0 e1 g2=>(zr2 rfl rfl (q _ _ (by omega) (by rw [e16] at e1;omega) (g1.trans g2)))⟩⟩⟩))
theorem Cr:FnScope ["_law_purse_here", "_law_walkers", "_law_most", "_law_found", "_law_when", "_law_busy", "_law_k", "_law_one", "_law_other", "_law_gap", "_law_passed", "_law_late"] ["_law_purse_here", "_law_walkers", "_law_most"] (defScope wa):=⟨rfl,rfl,rfl,by decide +kernel,rfl,by decide +kernel,by decide +kernel⟩
theorem D4 (T:Tx K mg a):FnOk P w K mg base CX0 3 a.Al a.AG ["_law_purse_here", "_law_walkers", "_law_most"] (spMeetings):=by
 have Aa:=xl P w base T
 have GT:=FL P w base T
 refine T.Av.ok Cr (λvs H Q E h=>?_) (λcdv A outer s H vs Q E hr h=>?_)
 ·obtain ⟨p,w,n,rfl,_⟩:=h;rfl
 ·have nd:=Cr.nd
  have hu:=hr.units
  obtain ⟨p,w,n,rfl,hn,w9,hw,hp,q⟩:=h
  refine ⟨_,(@xD _ _ _ (@xQ _ _ _ _ _ _ (xL (i:=3) nd rfl rfl (@xa _ _ _ _ wd)) (@xQ _ _ _ _ _ _ (xL (i:=4) nd rfl rfl (@xM _ _ _ _ _ _ _ _ xU yt (@xM _ _ _ _ _ _ _ _ op_mul (@xM _ _ _ _ _ _ _ _ op_fdivB (xC Aa (hr.mono (by decide)) rfl T.Ab T.Ac T.Ae .nil pass0 (@yu _ _ _ (@yw _ _ _ _ _ (pv 0) (@yw _ _ _ _ _ yt xB rfl) rfl))) yt) (xC Aa (hr.mono (by decide)) rfl T.Ab T.Ac T.Ae .nil pass0 (@yu _ _ _ (@yw _ _ _ _ _ (pv 0) (@yw _ _ _ _ _ (@xM _ _ _ _ _ _ _ _ op_pow yt yt) xB rfl) rfl)))))) (@xQ _ _ _ _ _ _ (xL (i:=5) nd rfl rfl (@xa _ _ _ _ wd)) (@xQ _ _ _ _ _ _ (xm PassesOwn.never rfl (xq rfl T.b_range (@yu _ _ _ (@yw _ _ _ _ _ (pv 2) xB rfl))) (xA (i:=6) nd rfl rfl) (@xD _ _ _ (@xQ _ _ _ _ _ _ (xL (i:=7) nd rfl rfl (xC Aa (hr.mono (by decide)) rfl T.Ab T.Ac T.Ae .nil pass0 (@yu _ _ _ (@yw _ _ _ _ _ (pv 0) (@yw _ _ _ _ _ (pv 1) xB rfl) rfl)))) (@xQ _ _ _ _ _ _ (xL (i:=8) nd rfl rfl (@xM _ _ _ _ _ _ _ _ wj (@xM _ _ _ _ _ _ _ _ xU (@xM _ _ _ _ _ _ _ _ xU (pv 7) yt) (xC Aa (hr.mono (by decide)) rfl T.Ab T.Ac T.Ae .nil pass0 (@yu _ _ _ (@yw _ _ _ _ _ (pv 0) (@yw _ _ _ _ _ (@xM _ _ _ _ _ _ _ _ op_sub (pv 1) yt) xB rfl) rfl)))) (pv 1))) (@xQ _ _ _ _ _ _ (xL (i:=9) nd rfl rfl (xC GT (hr.mono (by decide)) rfl T.Gn T.Gw T.GD .nil pass0 (@yu _ _ _ (@yw _ _ _ _ _ (pv 0) xB rfl)))) (@xQ _ _ _ _ _ _ (@xW _ _ _ _ _ _ _ _ (@PW.pt _ _ _ (@pw_or _ _ _ _ _ _ _ (@xP _ _ _ _ _ _ _ _ (op_in_seq' rfl) (pv 7) (pv 5) rfl) (@wf _ _ _ _ (@xP _ _ _ _ _ _ _ _ (op_in_seq' rfl) (pv 8) (pv 5) rfl)))) (@xD _ _ _ (@xS _ _ _ (xL (i:=9) nd rfl rfl (xF (call_max2 rfl) (by rfl) T.b_max PyProof.Rows.boot_max (@yu _ _ _ (@yw _ _ _ _ _ yt (@yw _ _ _ _ _ (pv 9) xB rfl) rfl)))))) xO) (@xQ _ _ _ _ _ _ (@xW _ _ _ _ _ _ _ _ (@xP _ _ _ _ _ _ _ _ op_gt (pv 9) yt (nomark _)) (@xD _ _ _ (@xS _ _ _ (xL (i:=5) nd rfl rfl (@xa _ _ _ _ wd)))) xO) (@xQ _ _ _ _ _ _ (xL (i:=4) nd rfl rfl (@xM _ _ _ _ _ _ _ _ xU (pv 4) (pv 9))) (@xQ _ _ _ _ _ _ (xL (i:=5) nd rfl rfl (@xM _ _ _ _ _ _ _ _ op_cat (pv 5) (@xa _ _ _ _ (@yu _ _ _ (@yw _ _ _ _ _ (pv 7) (@yw _ _ _ _ _ (pv 8) xB rfl) rfl))))) (@xQ _ _ _ _ _ _ (xL (i:=10) nd rfl rfl (@xM _ _ _ _ _ _ _ _ xU yt (@xM _ _ _ _ _ _ _ _ op_fdivB (xC Aa (hr.mono (by decide)) rfl T.Ab T.Ac T.Ae .nil pass0 (@yu _ _ _ (@yw _ _ _ _ _ (pv 0) (@yw _ _ _ _ _ yt xB rfl) rfl))) yt))) (@xQ _ _ _ _ _ _ (@xW _ _ _ _ _ _ _ _ (@xP _ _ _ _ _ _ _ _ xw (xC Aa (hr.mono (by decide)) rfl T.Ab T.Ac T.Ae .nil pass0 (@yu _ _ _ (@yw _ _ _ _ _ (pv 0) (@yw _ _ _ _ _ yt xB rfl) rfl))) yt (nomark _)) (@xD _ _ _ (@xS _ _ _ (xL (i:=10) nd rfl rfl (@xM _ _ _ _ _ _ _ _ xU yt (xC Aa (hr.mono (by decide)) rfl T.Ab T.Ac T.Ae .nil pass0 (@yu _ _ _ (@yw _ _ _ _ _ (pv 0) (@yw _ _ _ _ _ yt xB rfl) rfl))))))) xO) (@xS _ _ _ (ps_expr (pe_bm PySem.F.plainAttrs_list PySem.F.slot_list_append PySem.F.type_list_append mt_append (pv 3) (@yu _ _ _ (@yw _ _ _ _ _ (@wJ _ _ _ _ _ (@yu _ _ _ (@yw _ _ _ _ _ (pv 4) (@yw _ _ _ _ _ (xF (call_min2 rfl) (by rfl) T.b_min PyProof.Rows.boot_min (@yu _ _ _ (@yw _ _ _ _ _ (pv 7) (@yw _ _ _ _ _ (pv 8) xB rfl) rfl))) (@yw _ _ _ _ _ (xF (call_max2 rfl) (by rfl) T.b_max PyProof.Rows.boot_max (@yu _ _ _ (@yw _ _ _ _ _ (pv 7) (@yw _ _ _ _ _ (pv 8) xB rfl) rfl))) (@yw _ _ _ _ _ (pv 10) xB rfl) rfl) rfl) rfl))) xB rfl)))))))))))))))) (@xQ _ _ _ _ _ _ (xL (i:=11) nd rfl rfl yt) (@xQ _ _ _ _ _ _ (@xW _ _ _ _ _ _ _ _ (@PW.pt _ _ _ (@wI _ _ _ _ _ _ _ (@xP _ _ _ _ _ _ _ _ xw (xC Aa (hr.mono (by decide)) rfl T.Ab T.Ac T.Ae .nil pass0 (@yu _ _ _ (@yw _ _ _ _ _ (pv 0) (@yw _ _ _ _ _ yt xB rfl) rfl))) yt (nomark _)) (@wC _ _ _ _ (@xP _ _ _ _ _ _ _ _ (op_neNil hu) (pv 3) (@xa _ _ _ _ wd) (nomark _))))) (@xD _ _ _ (@xS _ _ _ (xL (i:=11) nd rfl rfl (@xM _ _ _ _ _ _ _ _ op_sub (@xM _ _ _ _ _ _ _ _ op_pow yt yt) (pv 4))))) xO) (@xS _ _ _ (@xN _ _ _ _ (xr (wV) (by rfl) T.b_tuple yD (@yu _ _ _ (@yw _ _ _ _ _ (xt (own:=["_law_then", "_law_low", "_law_high", "_law_room"]) (caps:=[11]) rfl (show CompScope ["_law_then", "_law_low", "_law_high", "_law_room"] [11] ["_law_purse_here", "_law_walkers", "_law_most", "_law_found", "_law_when", "_law_busy", "_law_k", "_law_one", "_law_other", "_law_gap", "_law_passed", "_law_late"] (defScope wa) _ from ⟨rfl,by decide +kernel,by decide +kernel,by decide +kernel,by decide +kernel⟩) (@xp _ _ _ _ _ rfl (xF (call_sortT) (by rfl) T.b_sorted PyProof.Rows.boot_sorted (@yu _ _ _ (@yw _ _ _ _ _ (pv 3) xB rfl)))) (λ_ _ _ _=>(xZ (n:=4) rfl rfl (xE (xA (i:=0) (show List.Nodup (["_law_then", "_law_low", "_law_high", "_law_room", "_law_late"]:List Str) from by decide +kernel) rfl rfl) (xE (xA (i:=1) (show List.Nodup (["_law_then", "_law_low", "_law_high", "_law_room", "_law_late"]:List Str) from by decide +kernel) rfl rfl) (xE (xA (i:=2) (show List.Nodup (["_law_then", "_law_low", "_law_high", "_law_room", "_law_late"]:List Str) from by decide +kernel) rfl rfl) (xE (xA (i:=3) (show List.Nodup (["_law_then", "_law_low", "_law_high", "_law_room", "_law_late"]:List Str) from by decide +kernel) rfl rfl) xY)))))) (λ_ _ _ _=>wH) (λ_ _ _ _=>(@wJ _ _ _ _ _ (@yu _ _ _ (@yw _ _ _ _ _ (pv 1) (@yw _ _ _ _ _ (pv 2) (@yw _ _ _ _ _ (@xM _ _ _ _ _ _ _ _ xU (pv 0) (pv 4)) (@yw _ _ _ _ _ (pv 3) xB rfl) rfl) rfl) rfl))))) xB rfl)))))))))))),?_⟩
  have line:1001<=sizeLine:=by rw [sizeLine_eq];decide
  have c7:CPow 10 7:=⟨by decide,by decide,by decide⟩
  have e7:(10:Int) ^ Int.toNat 7=10000000:=by decide
  have e64:(2:Int) ^ 64 > 1000:=by decide
  have e200:(2:Int) ^ 200 > 1000:=by decide
  refine ⟨za _,λlf hlf=>?_⟩
  have npf:=hp.ne hlf
  have hp1:Purse (upd H lf (.lst [])) p:=hp.new hlf
  refine (zr rfl ⟨p,zr rfl ⟨by decide,by decide,hp1,λd H1 d0 d1 g1=>(zr2 rfl rfl ⟨⟨by decide,by decide⟩,zr rfl (zr2 rfl rfl ⟨c7,?_⟩)⟩)⟩⟩)
  refine ⟨p,zr rfl ⟨by decide,by decide,g1.2,λd2 H2 d20 d21 g2=>(zr2 rfl rfl ⟨.inl ⟨by omega,by omega⟩,zr2 rfl rfl ?_⟩)⟩⟩
  rw [e7] at d21
  refine ⟨za _,λlb hlb=>?_⟩
  have fr2:=g1.trans g2
  have hlf2:H2 lf=some (.lst []):=fr2.1 lf _ npf yx
  have go0:Go p H H2:=((Go.refl hp).new hlf).trans fr2
  refine (zr rfl (zr rfl ⟨by omega,by omega,?_⟩))
  have wh0:1<=1 + d / 2 * d2/\1 + d / 2 * d2<=10000000:=by
   obtain h | h:d / 2=0\/d / 2=1:=by omega
   ·rw [h];omega
   ·rw [h];omega
  refine xy (lo:=0) (n:=n) (PvM p lf w n H)
   ⟨_,_,_,_,_,_,lb,[],[],rfl,by rw [xH (yz hlf2 hlb)];exact hlf2,yx,(yz hlf2 hlb).symm,go0.2.ne hlb,(λ_ z=>nomatch z),⟨(λ_ z=>nomatch z),.nil,(λ_ z=>nomatch z)⟩,rfl,by simp,wh0.1,(by have:=wh0.2;simpa using this),go0.new hlb⟩ ?_ ?_
  ·rintro i σ H3 hi ⟨v6,v7,v8,v9,v10,wh,lb,bs,fs,rfl,h3f,h3b,nbf,nbp,h3r,F,lenf,lenb,wh1,wh2,go⟩
   have w2:2<=w:=by omega
   refine (zr rfl (zr rfl ⟨p,w,rfl,by omega,by omega,go.2,λone H4 o0 o1 g4=>?_⟩))
   refine (zr rfl (zr2 rfl rfl (zr rfl (zr rfl (zr2 rfl rfl ⟨p,zr rfl ⟨by omega,by omega,g4.2,λx H5 x0 x1 g5=>(zr2 rfl rfl (zr rfl (zr2 rfl rfl ⟨by omega,?_⟩)))⟩⟩)))))
   have ot:=oth_ok o0 o1 x0 x1
   refine (zr rfl ⟨p,rfl,g5.2,λgap H6 gap0 gap1 g6=>?_⟩)
   have g46:=g4.trans (g5.trans g6)
   have hb6:=g46.1 lb _ nbp h3b
   have hf6:=g46.1 lf _ npf h3f
   refine (zr rfl (zr rfl ⟨lb,zr rfl ⟨.inl (SqL.of hb6),rfl,flat_ints bs,zr rfl (iteO (fun σ H7=>∃ gp:Int,σ=[some (.ref p),some (.int w),some (.int n),some (.ref lf),some (.int wh),some (.ref lb),some (.int (0 + (i:Int))),some (.int one),some (.int ((one + 1 + x) % w)),some (.int gp),v10,none]/\H6=H7/\0<=gp/\gp<=16000000/\(gp=0->one ∉ bs/\(one + 1 + x) % w ∉ bs)) ?_ (λc1 k0=>?_) (λc1 k0=>(zr rfl (zr rfl ⟨lb,zr rfl ⟨.inl (SqL.of hb6),rfl,flat_ints bs,zr rfl (iteB (λc2=>?_) (λc2=>?_))⟩⟩))))⟩⟩))
   rotate_left
   ·exact (zr rfl (zr1 rfl (k0 _ _ (zr rfl ⟨rfl,by split <;> omega,by split <;> omega,λz=>by split at z <;> omega⟩))))
   ·exact (zr rfl (zr1 rfl (k0 _ _ (zr rfl ⟨rfl,by split <;> omega,by split <;> omega,λz=>by split at z <;> omega⟩))))
   ·have c1':one ∉ bs:=of_decide_eq_false (inV_ints.symm.trans c1)
    have c2':(one + 1 + x) % w ∉ bs:=of_decide_eq_false (inV_ints.symm.trans c2)
    exact k0 _ _ ⟨gap,rfl,rfl,by omega,by omega,λ_=>⟨c1',c2'⟩⟩
   rintro σ H7 ⟨gp,rfl,rfl,gp0,gp1,hg⟩
   refine (zr rfl (zr2 rfl rfl (zr rfl (iteN (fun σ H7=>∃ ly bz,σ=[some (.ref p),some (.int w),some (.int n),some (.ref lf),some (.int wh),some (.ref ly),some (.int (0 + (i:Int))),some (.int one),some (.int ((one + 1 + x) % w)),some (.int gp),v10,none]/\Go p H3 H7/\H7 ly=some (.lst (List.map V.int bz))/\ly≠p/\bz.length<=2 * i/\∀ z∈bs,gp=0->z∈bz) ?_ (λc3 k0=>⟨za _,λln hln=>k0 _ _ ⟨ln,[],rfl,g46.new hln,yx,g46.2.ne hln,za _,λ_ _ z=>by have:=of_decide_eq_true c3;omega⟩⟩) (λc3=>⟨lb,bs,rfl,g46,hb6,nbp,lenb,λ_ z _=>z⟩)))))
   rintro σ H7 ⟨ly,bz,rfl,gy,hyb,nyp,leny,hb0⟩
   have h3f':=gy.1 lf _ npf h3f
   refine (zr rfl (zr rfl (zr2 rfl rfl ?_)))
   refine (zr rfl (zr rfl (zr rfl ⟨by show 2<=sizeLine;omega,λl2 hl2=>?_⟩)))
   have g2':=gy.new (o:=HO.lst [V.int one,V.int ((one + 1 + x) % w)]) hl2
   have hyb2:=yy (o:=HO.lst [V.int one,V.int ((one + 1 + x) % w)]) hl2 _ _ hyb
   have h22:(upd H7 l2 (HO.lst [V.int one,V.int ((one + 1 + x) % w)])) l2=some (.lst [V.int one,V.int ((one + 1 + x) % w)]):=yx
   generalize upd H7 l2 (HO.lst [V.int one,V.int ((one + 1 + x) % w)])=H8 at g2' hyb2 h22 ⊢
   refine ⟨ly,l2,zr2 rfl rfl ⟨hyb2,h22,(by simp only [zA,yC,yi];omega),λl3 hl3=>?_⟩⟩
   have n3p:l3≠p:=g2'.2.ne hl3
   have n3f:l3≠lf:=(yz (g2'.1 lf _ npf h3f) hl3).symm
   have g3':=g2'.new (o:=HO.lst (List.map V.int bz++[V.int one,V.int ((one + 1 + x) % w)])) hl3
   have h3b':(upd H8 l3 (HO.lst (List.map V.int bz++[V.int one,V.int ((one + 1 + x) % w)]))) l3=some (.lst (List.map V.int (bz++[one,(one + 1 + x) % w]))):=by rw [yx,zC];rfl
   generalize upd H8 l3 (HO.lst (List.map V.int bz++[V.int one,V.int ((one + 1 + x) % w)]))=H9 at g3' h3b' ⊢
   refine (zr rfl ⟨p,zr rfl ⟨by decide,by decide,g3'.2,λd4 H10 d40 d41 g10=>(zr2 rfl rfl ⟨⟨by decide,by decide⟩,zr2 rfl rfl ?_⟩)⟩⟩)
   refine (zr rfl ⟨p,zr rfl ⟨by decide,by decide,g10.2,λd5 H11 d50 d51 g11=>⟨rfl,zr rfl (iteN (fun σ H12=>∃ mm:Int,σ=[some (.ref p),some (.int w),some (.int n),some (.ref lf),some (.int (wh + gp)),some (.ref l3),some (.int (0 + (i:Int))),some (.int one),some (.int ((one + 1 + x) % w)),some (.int gp),some (.int mm),none]/\1<=mm/\mm<=99/\Go p H9 H12) ?_ (λc5 k0=>(zr rfl ⟨p,zr rfl ⟨by decide,by decide,g11.2,λd6 H12 d60 d61 g12=>(zr2 rfl rfl (k0 _ _ (zr rfl ⟨by omega,by omega,(g10.trans g11).trans g12⟩)))⟩⟩)) (λc5=>(zr rfl ⟨by omega,by omega,g10.trans g11⟩)))⟩⟩⟩)
   rintro σ H12 ⟨mm,rfl,mm0,mm1,g12⟩
   have gall:=g3'.trans g12
   have hz:=gall.1 lf _ npf h3f
   refine (zr rfl ⟨.inl ⟨rfl,_,SqL.of hz⟩,zr rfl (zr rfl (zr rfl (zr1 rfl (zr rfl (zr rfl (zr1 rfl (zr rfl ⟨by show 4<=sizeLine;omega,λt ht=>⟨lf,zr2 rfl rfl ⟨(by rw [xH (yz hz ht)];exact hz),(by rw [zA];omega),?_⟩⟩⟩)))))))⟩)
   exact PvM.step npf hlf F lenf (bs':=bz++[one,(one + 1 + x) % w]) (by simp only [zK,yC,yi];omega) wh1 wh2 hz (g12.1 l3 _ n3p h3b') n3f n3p (λa ha=>gall.tups go.2 _ _ (h3r a ha)) (go.trans gall) ht gp0 gp1 o0 o1 ot.1 ot.2.1 ot.2.2 mm0 mm1 hg (λz hz1 hz2=>zq _ (hb0 z hz1 hz2)) (by simp) (by simp)
  ·rintro σ H3 ⟨v6,v7,v8,v9,v10,wh,lb,bs,fs,rfl,h3f,h3b,nbf,nbp,h3r,F,lenf,lenb,wh1,wh2,go⟩
   have c9:CPow 10 9:=⟨by decide,by decide,by decide⟩
   have e9:(10:Int) ^ Int.toNat 9=1000000000:=by decide
   refine (zr rfl ⟨p,zr rfl ⟨by decide,by decide,go.2,λd8 H4 _ _ g4=>⟨rfl,zr rfl (iteA (fun σ H5=>∃ late:Int,(∃ v6 v7 v8 v9 v10,σ=[some (.ref p),some (.int w),some (.int n),some (.ref lf),some (.int wh),some (.ref lb),v6,v7,v8,v9,v10,some (.int late)])/\Go p H3 H5/\0<=late/\(fs≠[]->wh + late<=1000000000)) ?_ (λc k0=>?_) (λc=>⟨0,⟨_,_,_,_,_,rfl⟩,g4,Int.le_refl _,λ_=>by omega⟩))⟩⟩⟩)
   rotate_left
   ·have h4f:=g4.1 lf _ npf h3f
    refine (zr rfl ⟨za _,λl4 hl4=>⟨lf,l4,zr rfl ⟨rfl,SqL.of (by rw [xH (yz h4f hl4)];exact h4f),SqL.of yx,zr rfl (iteB (λc2=>?_) (λc2=>?_))⟩⟩⟩)
    ·exact (zr2 rfl rfl ⟨c9,zr rfl (zr2 rfl rfl (k0 _ _ ⟨_,⟨_,_,_,_,_,rfl⟩,g4.new hl4,by rw [e9];omega,λ_=>by rw [e9];omega⟩))⟩)
    ·exact k0 _ _ ⟨0,⟨_,_,_,_,_,rfl⟩,g4.new hl4,Int.le_refl _,λ_=>by omega⟩
   rintro σ Hz ⟨late,⟨v6',v7',v8',v9',v10',rfl⟩,gz,L0,L1⟩
   have hz:=gz.1 lf _ npf h3f
   refine (zr rfl ⟨lf,fs.map (λa=>(a.1,a.2.row)),rfl,?_,(by rw [zA];omega),(λa ha=>?_),λD qs hD pq sq=>?_⟩)
   ·rw [yl];exact SqL.of hz
   ·obtain ⟨b,hb,rfl⟩:=zp.mp ha
    exact ⟨gz.tups go.2 _ _ (h3r b hb),by intro z;cases z⟩
   obtain ⟨rs,prs,srs,rfl⟩:=rows_back pq sq
   refine ⟨D,rfl,⟨_,SqL.of yx⟩,?_⟩
   have lrs:rs.length=n:=by rw [prs.length_eq,lenf]
   have hDl:(upd Hz D (HO.lst (List.map (λa=>V.ref a.1) (List.map (λa:Addr×M4=>(a.1,a.2.row)) rs)))) D=some (.lst (rs.map λa=>V.ref a.1)):=by rw [yx,yl];rfl
   have rD:=λa (ha:a∈rs)=>(Tups.new (o:=HO.lst (List.map (λa=>V.ref a.1) (List.map (λa:Addr×M4=>(a.1,a.2.row)) rs))) hD) _ _ (gz.tups go.2 _ _ (h3r a (prs.mem_iff.mp ha)))
   have gD:=(go.trans gz).new (o:=HO.lst (List.map (λa=>V.ref a.1) (List.map (λa:Addr×M4=>(a.1,a.2.row)) rs))) hD
   refine xz (K:=K) (a:=D) (xs:=rs.map λa=>V.ref a.1) (λi τ acc H5=>∃ ps:List (Addr×M4),(∃ t0 t1 t2 t3,τ=[t0,t1,t2,t3,some (.int late)])/\acc=(ps.map λa=>V.ref a.1)/\(ps.map (·.2))=((rs.take i).map λa=>a.2.late late)/\RowsAt H5 ps/\Same (upd Hz D (HO.lst (List.map (λa=>V.ref a.1) (List.map (λa:Addr×M4=>(a.1,a.2.row)) rs)))) H5)
    ?_ (by rw [zA];omega) ?_ ?_ ?_
   ·exact ⟨[],⟨_,_,_,_,rfl⟩,rfl,rfl,(λ_ z=>nomatch z),Same.refl _⟩
   ·rintro i τ acc H6 ⟨ps,⟨t0,t1,t2,t3,rfl⟩,rfl,eps,rws,sm⟩
    have:=congrArg List.length eps
    rw [zA,zA,zT] at this
    exact ⟨by rw [zA];omega,sm.seq (SqL.of hDl)⟩
   ·rintro i x τ acc H5 C hx ⟨ps,⟨t0,t1,t2,t3,rfl⟩,rfl,eps,rws,sm⟩ hC
    obtain ⟨r,hr,rfl⟩:=xR hx
    have hrow:=sm _ _ (rD r (zB hr))
    refine (un4 hrow (zr rfl (zr rfl (zr rfl (zr rfl (zr2 rfl rfl (zr rfl ⟨by show 4<=sizeLine;omega,λt ht=>hC _ _ _ ?_⟩)))))))
    refine ⟨ps++[(t,r.2.late late)],⟨_,_,_,_,rfl⟩,by rw [zC];rfl,by rw [zC,xX hr,zC,eps];rfl,λa ha=>?_,sm.trans (yy ht)⟩
    rcases zX.mp ha with h | h
    ·exact yy ht _ _ (rws a h)
    ·cases zM.mp h
     exact yx
   ·rintro τ acc H6 ⟨ps,⟨t0,t1,t2,t3,rfl⟩,rfl,eps,rws,sm⟩ lt hlt
    refine ⟨lt,zr rfl (.inl ⟨SqL.of yx,λt ht=>q t ps _ (((gD.same sm).new hlt).new ht) yx ((rws.tups (Tups.new hlt)).tups (Tups.new ht)) ?_ ?_⟩)⟩
    ·rw [eps,zA,zU]
     exact F.good (by omega) L0 L1 prs srs
    ·have:=congrArg List.length eps
     rw [zA,zA,zA,zU] at this
     omega
theorem DD:FnScope ["_law_purse_here", "_law_most_walkers", "_law_most_meetings", "_law_walkers", "_law_most"] ["_law_purse_here", "_law_most_walkers", "_law_most_meetings"] (defScope CY):=⟨rfl,rfl,rfl,by decide +kernel,rfl,by decide +kernel,by decide +kernel⟩
theorem FN (T:Tx K mg a):FnOk P w K mg base CX0 4 a.A1 a.BG ["_law_purse_here", "_law_most_walkers", "_law_most_meetings"] (spBook):=by
 have Aa:=xl P w base T
 have Ge:=Ft P w base T
 have E4:=D4 P w base T
 refine T.Bm.ok DD (λvs H Q E h=>?_) (λcdv A outer s H vs Q E hr h=>?_)
 ·obtain ⟨p,a,n,rfl,_⟩:=h;rfl
 ·have nd:=DD.nd
  have hu:=hr.units
  obtain ⟨p,aw,n,rfl,a1,a2,hn,hp,q⟩:=h
  refine ⟨_,(@xD _ _ _ (@xQ _ _ _ _ _ _ (xL (i:=3) nd rfl rfl (@xM _ _ _ _ _ _ _ _ xU yt (xC Aa (hr.mono (by decide)) rfl T.Ab T.Ac T.Ae .nil pass0 (@yu _ _ _ (@yw _ _ _ _ _ (pv 0) (@yw _ _ _ _ _ (pv 1) xB rfl) rfl))))) (@xQ _ _ _ _ _ _ (xL (i:=4) nd rfl rfl (xF (call_min2 rfl) (by rfl) T.b_min PyProof.Rows.boot_min (@yu _ _ _ (@yw _ _ _ _ _ (pv 2) (@yw _ _ _ _ _ (xC Aa (hr.mono (by decide)) rfl T.Ab T.Ac T.Ae .nil pass0 (@yu _ _ _ (@yw _ _ _ _ _ (pv 0) (@yw _ _ _ _ _ (@xM _ _ _ _ _ _ _ _ xU (pv 2) yt) xB rfl) rfl))) xB rfl) rfl)))) (@xQ _ _ _ _ _ _ (@xW _ _ _ _ _ _ _ _ (@xP _ _ _ _ _ _ _ _ xw (pv 3) yt (nomark _)) (@xD _ _ _ (@xS _ _ _ (xL (i:=4) nd rfl rfl yt))) xO) (@xS _ _ _ (@xN _ _ _ _ (@wJ _ _ _ _ _ (@yu _ _ _ (@yw _ _ _ _ _ (xC Ge (hr.mono (by decide)) rfl T.FS T.FW T.F1 .nil pass0 (@yu _ _ _ (@yw _ _ _ _ _ (pv 0) (@yw _ _ _ _ _ (pv 3) xB rfl) rfl))) (@yw _ _ _ _ _ (xC E4 (hr.mono (by decide)) rfl T.EQ T.ET T.EW .nil pass0 (@yu _ _ _ (@yw _ _ _ _ _ (pv 0) (@yw _ _ _ _ _ (pv 3) (@yw _ _ _ _ _ (pv 4) xB rfl) rfl) rfl))) xB rfl) rfl))))))))),?_⟩
  have line:1001<=sizeLine:=by rw [sizeLine_eq];decide
  have e200:(2:Int) ^ 200 > 1000:=by decide
  refine (zr rfl (zr rfl ⟨p,aw,rfl,by omega,by omega,hp,λd H1 d0 d1 g1=>(zr2 rfl rfl ?_)⟩))
  obtain ⟨k,rfl⟩:=zh d0
  refine (zr rfl (zr rfl (zr rfl (zr2 rfl rfl ⟨p,zr rfl ⟨by omega,by omega,g1.2,λe H2 e0 e1 g2=>(zr1 rfl ?_)⟩⟩))))
  obtain ⟨m,em,hm⟩:∃ m:Nat,(if e < (n:Int) then e else (n:Int))=m/\m<=n:=by
   refine ⟨(if e < (n:Int) then e else (n:Int)).toNat,?_,?_⟩ <;> split <;> omega
  refine ⟨_,rfl,rfl,_,rfl,iteN (fun σ H3=>∃ m:Nat,σ=[some (.ref p),some (.int aw),some (.int n),some (.int (1 + (k:Int))),some (.int m)]/\m<=n/\(m=0\/1<=k)/\Go p H H3) ?_ (λc k0=>k0 _ _ ⟨0,rfl,za _,.inl rfl,g1.trans g2⟩) (λc=>⟨m,by rw [<-em];rfl,hm,.inr (by
    by_cases hk:k=0
    ·subst hk;exact absurd c (by simp)
    ·omega),g1.trans g2⟩)⟩
  rintro σ H2 ⟨m,rfl,hm,hk,g2⟩
  refine (zr rfl (zr rfl ⟨p,1 + k,by simp,by omega,g2.2,λtr rooms H3 g3 h3 l3 r3=>(zr rfl (zr rfl (zr rfl ⟨p,_,m,rfl,by omega,by omega,by omega,g3.2,λtm ps H4 g4 h4 r4 gd l4=>⟨by show 2<=sizeLine;omega,λb hb=>?_⟩⟩)))⟩))
  have h3':=g4.tups g3.2 _ _ h3
  have tn:=Tups.new (o:=HO.tup [V.ref tr,V.ref tm]) hb
  refine q b rooms tr tm ps _ ((g2.trans (g3.trans g4)).new hb) ⟨yx,tn _ _ h3',tn _ _ h4,r4.tups tn⟩ (by omega) (by omega) r3 ?_ (by omega)
  rw [l3]
  simpa using gd
theorem Dz:FnScope ["_law_purse_here", "_law_book_here", "_law_later", "_law_way", "_law_at"] ["_law_purse_here", "_law_book_here", "_law_later"] (defScope CU):=⟨rfl,rfl,rfl,by decide +kernel,rfl,by decide +kernel,by decide +kernel⟩
theorem FK (T:Tx K mg a):FnOk P w K mg base CX0 3 a.AX a.BC ["_law_purse_here", "_law_book_here", "_law_later"] (spTimeOf):=by
 have Aa:=xl P w base T
 have Hi:=Gh P w base T
 refine T.Bi.ok Dz (λvs H Q E h=>?_) (λcdv A outer s H vs Q E hr h=>?_)
 ·obtain ⟨p,b,j,_,_,_,_,rfl,_⟩:=h;rfl
 ·have nd:=Dz.nd
  have hu:=hr.units
  obtain ⟨p,b,j,rooms,tr,tm,ps,rfl,hj,hb,gd,hp,q⟩:=h
  refine ⟨_,(@xD _ _ _ (@xQ _ _ _ _ _ _ (xL (i:=3) nd rfl rfl (xC Aa (hr.mono (by decide)) rfl T.Ab T.Ac T.Ae .nil pass0 (@yu _ _ _ (@yw _ _ _ _ _ (pv 0) (@yw _ _ _ _ _ yt xB rfl) rfl)))) (@xQ _ _ _ _ _ _ (@xW _ _ _ _ _ _ _ _ (@xP _ _ _ _ _ _ _ _ xw (pv 3) yt (nomark _)) (@xD _ _ _ (@xS _ _ _ (@xN _ _ _ _ (@xG _ _ _ _ _ _ _ (xI rfl) (@xa _ _ _ _ (@yu _ _ _ (@yw _ _ _ _ _ yt (@yw _ _ _ _ _ (@xM _ _ _ _ _ _ _ _ op_pow yt yt) xB rfl) rfl))) (pv 2) (λ_ _=>rfl))))) xO) (@xQ _ _ _ _ _ _ (@xW _ _ _ _ _ _ _ _ (@xP _ _ _ _ _ _ _ _ xw (pv 3) yt (nomark _)) (@xD _ _ _ (@xS _ _ _ (@xN _ _ _ _ (xC Hi (hr.mono (by decide)) rfl T.GZ T.G8 T.Hb .nil pass0 (@yu _ _ _ (@yw _ _ _ _ _ (pv 0) xB rfl)))))) xO) (@xQ _ _ _ _ _ _ (@xW _ _ _ _ _ _ _ _ (@xP _ _ _ _ _ _ _ _ (op_eqUnit hu) (@xG _ _ _ _ _ _ _ (xK rfl) (pv 1) yt (λ_ _=>rfl)) (@wJ _ _ _ _ _ wd) (nomark _)) (@xD _ _ _ (@xS _ _ _ (@xN _ _ _ _ (xC Aa (hr.mono (by decide)) rfl T.Ab T.Ac T.Ae .nil pass0 (@yu _ _ _ (@yw _ _ _ _ _ (pv 0) (@yw _ _ _ _ _ yt xB rfl) rfl)))))) xO) (@xQ _ _ _ _ _ _ (xL (i:=4) nd rfl rfl (xC Aa (hr.mono (by decide)) rfl T.Ab T.Ac T.Ae .nil pass0 (@yu _ _ _ (@yw _ _ _ _ _ (pv 0) (@yw _ _ _ _ _ (xF (xJ rfl) (by rfl) T.b_len PySem.boot_len (@yu _ _ _ (@yw _ _ _ _ _ (@xG _ _ _ _ _ _ _ (xK rfl) (pv 1) yt (λ_ _=>rfl)) xB rfl))) xB rfl) rfl)))) (@xQ _ _ _ _ _ _ (@xW _ _ _ _ _ _ _ _ (@xP _ _ _ _ _ _ _ _ op_gt (pv 3) yt (nomark _)) (@xD _ _ _ (@xS _ _ _ (xL (i:=4) nd rfl rfl (@xG _ _ _ _ _ _ _ (xI rfl) (@xa _ _ _ _ (@yu _ _ _ (@yw _ _ _ _ _ (@xM _ _ _ _ _ _ _ _ op_fdivB (pv 4) yt) (@yw _ _ _ _ _ (@xM _ _ _ _ _ _ _ _ op_fdivB (@xM _ _ _ _ _ _ _ _ xU (pv 4) (xF (xJ rfl) (by rfl) T.b_len PySem.boot_len (@yu _ _ _ (@yw _ _ _ _ _ (@xG _ _ _ _ _ _ _ (xK rfl) (pv 1) yt (λ_ _=>rfl)) xB rfl)))) yt) xB rfl) rfl))) (pv 2) (λ_ _=>rfl))))) xO) (@xS _ _ _ (@xN _ _ _ _ (@xM _ _ _ _ _ _ _ _ op_sub (@xG _ _ _ _ _ _ _ (xK rfl) (@xG _ _ _ _ _ _ _ (xK rfl) (@xG _ _ _ _ _ _ _ (xK rfl) (pv 1) yt (λ_ _=>rfl)) (pv 4) (λ_ _=>rfl)) yt (λ_ _=>rfl)) (@xG _ _ _ _ _ _ _ (xI rfl) (@xa _ _ _ _ (@yu _ _ _ (@yw _ _ _ _ _ yt (@yw _ _ _ _ _ yt xB rfl) rfl))) (@xM _ _ _ _ _ _ _ _ op_xor (@xM _ _ _ _ _ _ _ _ op_fdivB (xC Aa (hr.mono (by decide)) rfl T.Ab T.Ac T.Ae .nil pass0 (@yu _ _ _ (@yw _ _ _ _ _ (pv 0) (@yw _ _ _ _ _ yt xB rfl) rfl))) yt) (pv 2)) (λ_ _=>rfl)))))))))))),?_⟩
  have line:=line9
  have e200:(2:Int) ^ 200 > 10000:=by decide
  have c9:CPow 10 9:=⟨by decide,by decide,by decide⟩
  have e9:(10:Int) ^ Int.toNat 9=1000000000:=by decide
  have l60:=gd.len
  refine (zr rfl ⟨p,zr rfl ⟨by decide,by decide,hp,λway H1 w0 w1 g1=>?_⟩⟩)
  refine (zr rfl ⟨rfl,zr rfl (iteD (λc=>?_) (λc=>(zr rfl ⟨rfl,zr rfl (iteD (λc=>?_) (λc=>?_))⟩)))⟩)
  ·refine (zr2 rfl rfl ⟨c9,by show 2<=sizeLine;omega,λl hl=>(zr rfl ?_)⟩)
   rcases hj with rfl | rfl
   ·exact (ixl yx rfl (q _ _ (by omega) (by omega) (g1.new hl)))
   ·exact (ixl yx rfl (q _ _ (by rw [e9];decide) (by rw [e9];decide) (g1.new hl)))
  ·exact (zr rfl ⟨p,rfl,g1.2,λd H2 d0 d1 g2=>q _ _ d0 d1 (g1.trans g2)⟩)
  have hb1:=hb.tups (g1.tups hp)
  refine (zr rfl (ixt hb1.book rfl ⟨za _,λu hu2=>?_⟩))
  have hb2:=hb1.tups (Tups.new (o:=HO.tup []) hu2)
  have g2:=g1.new (o:=HO.tup []) hu2
  refine ⟨tm,u,zr rfl ⟨rfl,SqT.of hb2.meets,SqT.of yx,zr rfl (iteB (λc2=>?_) (λc2=>?_))⟩⟩
  ·exact (zr rfl ⟨p,zr rfl ⟨by decide,by decide,g2.2,λd H3 d0 d1 g3=>q _ _ d0 (by omega) (g2.trans g3)⟩⟩)
  have lps:1<=ps.length:=by
   cases ps with
   | nil=>cases c2
   | cons _ _=>simp
  refine (zr rfl (zr rfl (ixt hb2.book rfl ⟨tm,zr rfl ⟨.inr (SqT.of hb2.meets),p,zr rfl ⟨by rw [zA];omega,by rw [zA];omega,g2.2,λd H3 d0 d1 g3=>?_⟩⟩⟩)))
  rw [zA] at d1
  have hb3:=hb2.tups (g3.tups g2.2)
  have gg3:=g2.trans g3
  refine (zr rfl (zr2 rfl rfl (zr rfl (iteD (λc3=>?_) (λc3=>?_)))))
  ·refine (zr rfl (zr2 rfl rfl ⟨⟨by decide,by decide⟩,zr rfl (zr rfl (ixt hb3.book rfl ⟨tm,zr rfl ⟨.inr (SqT.of hb3.meets),zr2 rfl rfl (zr2 rfl rfl ⟨⟨by decide,by decide⟩,by show 2<=sizeLine;omega,λl hl=>(zr rfl ?_)⟩)⟩⟩))⟩))
   have gx:=gg3.new (o:=HO.lst [V.int (d / 2),V.int ((d + ((ps.map λa=>V.ref a.1).length:Int)) / 2)]) hl
   have hx:=hb3.tups (Tups.new (o:=HO.lst [V.int (d / 2),V.int ((d + ((ps.map λa=>V.ref a.1).length:Int)) / 2)]) hl)
   obtain ⟨k,ek,hk⟩:∃ k:Nat,atI [V.int (d / 2),V.int ((d + ((ps.map λa=>V.ref a.1).length:Int)) / 2)] j=some (V.int (k:Int))/\k < ps.length:=by
    rcases hj with rfl | rfl
    ·obtain ⟨k,hk⟩:=zh (show 0<=d / 2 by omega)
     exact ⟨k,by rw [<-hk];rfl,by omega⟩
    ·obtain ⟨k,hk⟩:=zh (show 0<=(d + ((ps.map λa=>V.ref a.1).length:Int)) / 2 by omega)
     refine ⟨k,by rw [<-hk];rfl,?_⟩
     rw [zA] at hk
     omega
   refine (ixl yx ek ?_)
   refine (zr rfl (ixt hx.book rfl (zr rfl (ixt hx.meets (xb (v:=V.ref ps[k].1) (by simp [hk])) (ixt (hx.rows _ (yI hk)) rfl ⟨by show 2<=sizeLine;omega,λl9 hl9=>?_⟩)))))
   have g9:=gx.new (o:=HO.lst [V.int 1,V.int 0]) hl9
   refine (zr rfl ⟨p,zr rfl ⟨by decide,by decide,g9.2,λe H9 e0 e1 g10=>(zr2 rfl rfl ⟨⟨by decide,by decide⟩,zr rfl (zr2 rfl rfl ?_)⟩)⟩⟩)
   have h9:=g10.1 l9 _ (gx.2.ne hl9) yx
   have tb:=gd.at (yI hk)
   have bx:(e / 3=0\/e / 3=1):=by omega
   rcases hj with rfl | rfl <;> rcases bx with bx | bx <;> rw [bx]
   ·exact (ixl h9 (by decide:atI [V.int 1,V.int 0] (Builtin.bitXor 0 0)=some (V.int 1)) (zr2 rfl rfl (q _ _ (by omega) (by omega) (g9.trans g10))))
   ·exact (ixl h9 (by decide:atI [V.int 1,V.int 0] (Builtin.bitXor 1 0)=some (V.int 0)) (zr2 rfl rfl (q _ _ (by omega) (by omega) (g9.trans g10))))
   ·exact (ixl h9 (by decide:atI [V.int 1,V.int 0] (Builtin.bitXor 0 1)=some (V.int 0)) (zr2 rfl rfl (q _ _ (by omega) (by omega) (g9.trans g10))))
   ·exact (ixl h9 (by decide:atI [V.int 1,V.int 0] (Builtin.bitXor 1 1)=some (V.int 1)) (zr2 rfl rfl (q _ _ (by omega) (by omega) (g9.trans g10))))
  ·have gx:=gg3
   have hx:=hb3
   obtain ⟨k,rfl⟩:=zh d0
   have hk:k < ps.length:=by omega
   refine (zr rfl (ixt hx.book rfl (zr rfl (ixt hx.meets (xb (v:=V.ref ps[k].1) (by simp [hk])) (ixt (hx.rows _ (yI hk)) rfl ⟨by show 2<=sizeLine;omega,λl9 hl9=>?_⟩)))))
   have g9:=gx.new (o:=HO.lst [V.int 1,V.int 0]) hl9
   refine (zr rfl ⟨p,zr rfl ⟨by decide,by decide,g9.2,λe H9 e0 e1 g10=>(zr2 rfl rfl ⟨⟨by decide,by decide⟩,zr rfl (zr2 rfl rfl ?_)⟩)⟩⟩)
   have h9:=g10.1 l9 _ (gx.2.ne hl9) yx
   have tb:=gd.at (yI hk)
   have bx:(e / 3=0\/e / 3=1):=by omega
   rcases hj with rfl | rfl <;> rcases bx with bx | bx <;> rw [bx]
   ·exact (ixl h9 (by decide:atI [V.int 1,V.int 0] (Builtin.bitXor 0 0)=some (V.int 1)) (zr2 rfl rfl (q _ _ (by omega) (by omega) (g9.trans g10))))
   ·exact (ixl h9 (by decide:atI [V.int 1,V.int 0] (Builtin.bitXor 1 0)=some (V.int 0)) (zr2 rfl rfl (q _ _ (by omega) (by omega) (g9.trans g10))))
   ·exact (ixl h9 (by decide:atI [V.int 1,V.int 0] (Builtin.bitXor 0 1)=some (V.int 0)) (zr2 rfl rfl (q _ _ (by omega) (by omega) (g9.trans g10))))
   ·exact (ixl h9 (by decide:atI [V.int 1,V.int 0] (Builtin.bitXor 1 1)=some (V.int 1)) (zr2 rfl rfl (q _ _ (by omega) (by omega) (g9.trans g10))))
theorem Dh:FnScope ["_law_thing"] ["_law_thing"] (defScope Cv):=⟨rfl,rfl,rfl,by decide +kernel,rfl,by decide +kernel,by decide +kernel⟩
theorem Co (T:Tx K mg a):FnOk P w K mg base CX0 1 a.AL a.Br ["_law_thing"] (spWhole):=by
 refine T.A6.ok Dh (λvs H Q E h=>?_) (λcdv A outer s H vs Q E hr h=>?_)
 ·obtain ⟨x,t,rfl,_⟩:=h;rfl
 ·have nd:=Dh.nd
  have hu:=hr.units
  obtain ⟨x,t,rfl,ht,k⟩:=h
  refine ⟨_,(@xD _ _ _ (@xS _ _ _ (@xN _ _ _ _ (@wg _ _ _ _ _ _ _ (xF (xc) (by rfl) T.b_isinstance zV (@yu _ _ _ (@yw _ _ _ _ _ (pv 0) (@yw _ _ _ _ _ (wP (v:=V.ty "int") rfl T.b_int PyProof.Rows.boot_int rfl) xB rfl) rfl))) (@pe_one _ _ _ _ _ (@pe_not _ _ _ _ (xF (xc) (by rfl) T.b_isinstance zV (@yu _ _ _ (@yw _ _ _ _ _ (pv 0) (@yw _ _ _ _ _ (wP (v:=V.ty "bool") rfl T.b_bool PyProof.Rows.boot_bool rfl) xB rfl) rfl))))))))),?_⟩
  refine (zr rfl ⟨x,t, "int", rfl,ht,.inl rfl,zr rfl ?_⟩)
  rcases wY ht with rfl | rfl | rfl | rfl | rfl | rfl | rfl <;> first | exact iteB0 rfl k | exact iteB1 rfl ⟨_,rfl,x,_, "bool", rfl,ht,.inr (.inl rfl),_,rfl,k⟩
theorem EF:FnScope ["thing"] ["thing"] (defScope Do):=⟨rfl,rfl,rfl,by decide +kernel,rfl,by decide +kernel,by decide +kernel⟩
theorem Gg (T:Tx K mg a):FnOk P w K mg base CX0 1 a.Bc a.BT ["thing"] (spWhole):=by
 refine T.Bw.ok EF (λvs H Q E h=>?_) (λcdv A outer s H vs Q E hr h=>?_)
 ·obtain ⟨x,t,rfl,_⟩:=h;rfl
 ·have nd:=EF.nd
  have hu:=hr.units
  obtain ⟨x,t,rfl,ht,k⟩:=h
  refine ⟨_,(@xD _ _ _ (@xS _ _ _ (@xN _ _ _ _ (@wg _ _ _ _ _ _ _ (xF (xc) (by rfl) T.b_isinstance zV (@yu _ _ _ (@yw _ _ _ _ _ (pv 0) (@yw _ _ _ _ _ (wP (v:=V.ty "int") rfl T.b_int PyProof.Rows.boot_int rfl) xB rfl) rfl))) (@pe_one _ _ _ _ _ (@pe_not _ _ _ _ (xF (xc) (by rfl) T.b_isinstance zV (@yu _ _ _ (@yw _ _ _ _ _ (pv 0) (@yw _ _ _ _ _ (wP (v:=V.ty "bool") rfl T.b_bool PyProof.Rows.boot_bool rfl) xB rfl) rfl))))))))),?_⟩
  simp only [gTup,gCons,gNil,tYes,tBM,rAppend,gSub,tAugS,ipI,rU,rIxL,rIxT,rSetL,tSeq,tAsg,tIfS,tRet,tOp,tUn,rI0,rI,tVar,tC,gName,tCall,tCB,tCons,tNil,tAndV,tOrV,tNotV,tNext,tTest,tB,tNot,tAnd,tOr,tDrop,rEq,rNe,scal,tChain,tTup,tLst,tSl,tNoPart,tPart,cxOf,L2.start,zt,yZ,yC,yi,Nat.reduceAdd,Nat.reduceSub,List.replicate,List.cons_append,List.nil_append,zz,List.getElem?_cons_zero,List.getElem?_cons_succ,Option.some.injEq,exists_eq_left',exists_eq_left,exists_and_left,and_assoc,V.int.injEq,V.ty.injEq,V.str.injEq,V.bl.injEq,V.ref.injEq,List.cons.injEq,and_true,true_and,List.set_cons_zero,List.set_cons_succ]
  simp only [V.ty.injEq,ht,Option.some.injEq,exists_eq_left',exists_and_left,true_or,or_true,true_and]
  rcases wY ht with rfl | rfl | rfl | rfl | rfl | rfl | rfl <;> simpa [isSub] using k
theorem Dw:FnScope ["thing", "least", "most"] ["thing", "least", "most"] (defScope CT):=⟨rfl,rfl,rfl,by decide +kernel,rfl,by decide +kernel,by decide +kernel⟩
theorem FI (T:Tx K mg a):FnOk P w K mg base CX0 2 a.AU a.Bz ["thing", "least", "most"] (spWithin):=by
 have Hh:=Gg P w base T
 refine T.Bf.ok Dw (λvs H Q E h=>?_) (λcdv A outer s H vs Q E hr h=>?_)
 ·obtain ⟨x,t,lo,hi,rfl,_⟩:=h;rfl
 ·have nd:=Dw.nd
  have hu:=hr.units
  obtain ⟨x,t,lo,hi,rfl,ht,k⟩:=h
  refine ⟨_,(@xD _ _ _ (@xS _ _ _ (@xN _ _ _ _ (@wg _ _ _ _ _ _ _ (xC Hh (hr.mono (by decide)) rfl T.GY T.G7 T.Ha .nil pass0 (@yu _ _ _ (@yw _ _ _ _ _ (pv 0) xB rfl))) (@pe_one _ _ _ _ _ (pe_chain op_le op_le (pv 1) (pv 0) (pv 2))))))),?_⟩
  simp only [gTup,gCons,gNil,tYes,tBM,rAppend,gSub,tAugS,ipI,rU,rIxL,rIxT,rSetL,tSeq,tAsg,tIfS,tRet,tOp,tUn,rI0,rI,tVar,tC,gName,tCall,tCB,tCons,tNil,tAndV,tOrV,tNotV,tNext,tTest,tB,tNot,tAnd,tOr,tDrop,rEq,rNe,scal,tChain,tTup,tLst,tSl,tNoPart,tPart,cxOf,L2.start,zt,yZ,yC,yi,Nat.reduceAdd,Nat.reduceSub,List.replicate,List.cons_append,List.nil_append,zz,List.getElem?_cons_zero,List.getElem?_cons_succ,Option.some.injEq,exists_eq_left',exists_eq_left,exists_and_left,and_assoc,V.int.injEq,V.ty.injEq,V.str.injEq,V.bl.injEq,V.ref.injEq,List.cons.injEq,and_true,true_and,List.set_cons_zero,List.set_cons_succ]
  refine ⟨x,t,rfl,ht,zr rfl ?_⟩
  by_cases h:t = "int"
  ·subst h
   obtain ⟨i,rfl⟩:=tyS_int ht
   simp only [gTup,gCons,gNil,tYes,tBM,rAppend,gSub,tAugS,ipI,rU,rIxL,rIxT,rSetL,tSeq,tAsg,tIfS,tRet,tOp,tUn,rI0,rI,tVar,tC,gName,tCall,tCB,tCons,tNil,tAndV,tOrV,tNotV,tNext,tTest,tB,tNot,tAnd,tOr,tDrop,rEq,rNe,scal,tChain,tTup,tLst,tSl,tNoPart,tPart,cxOf,L2.start,zt,yZ,yC,yi,Nat.reduceAdd,Nat.reduceSub,List.replicate,List.cons_append,List.nil_append,zz,List.getElem?_cons_zero,List.getElem?_cons_succ,Option.some.injEq,exists_eq_left',exists_eq_left,exists_and_left,and_assoc,V.int.injEq,V.ty.injEq,V.str.injEq,V.bl.injEq,V.ref.injEq,List.cons.injEq,and_true,true_and,List.set_cons_zero,List.set_cons_succ]
   by_cases h1:lo<=i
   ·simpa [h1,inB] using k
   ·simpa [h1,inB] using k
  ·rw [inB_no ht h] at k
   simpa [h] using k
theorem E7:FnScope ["book", "time"] ["book", "time"] (defScope Db):=⟨rfl,rfl,rfl,by decide +kernel,rfl,by decide +kernel,by decide +kernel⟩
theorem Fb (T:Tx K mg a):FnOk P w K mg base CX0 1 a.BJ a.Ca ["book", "time"] (spByTime):=by
 refine T.BX.ok E7 (λvs H Q E h=>?_) (λcdv A outer s H vs Q E hr h=>?_)
 ·obtain ⟨b,t,_,_,_,_,rfl,_⟩:=h;rfl
 ·have nd:=E7.nd
  have hu:=hr.units
  obtain ⟨b,t,rooms,tr,tm,ps,rfl,hb,hn,q⟩:=h
  refine ⟨_,(@xD _ _ _ (@xS _ _ _ (@xN _ _ _ _ (xF (xJ rfl) (by rfl) T.b_len PySem.boot_len (@yu _ _ _ (@yw _ _ _ _ _ (xt (own:=["meeting"]) (caps:=[1]) rfl (show CompScope ["meeting"] [1] ["book", "time"] (defScope Db) _ from ⟨rfl,by decide +kernel,by decide +kernel,by decide +kernel,by decide +kernel⟩) (@pi_tup'' _ _ _ _ _ rfl (@xG _ _ _ _ _ _ _ (xK rfl) (pv 0) yt (λ_ _=>rfl))) (λ_ _ _ _=>(xA (i:=0) (show List.Nodup (["meeting", "time"]:List Str) from by decide +kernel) rfl rfl)) (λ_ _ _ _=>wX (@xP _ _ _ _ _ _ _ _ op_le (@xG _ _ _ _ _ _ _ (xK rfl) (pv 0) yt (λ_ _=>rfl)) (pv 1) (nomark _))) (λ_ _ _ _=>(pv 0))) xB rfl)))))),?_⟩
  refine (zr rfl (ixt hb.book rfl ⟨tm,rfl,⟨_,SqT.of hb.meets⟩,?_⟩))
  refine comp_tup (K:=K) (a:=tm) (xs:=ps.map λa=>V.ref a.1) (λi τ acc H5=>(∃ t0,τ=[t0,some (.int t)])/\acc.length=cnt ((ps.map (·.2)).take i) t/\acc.length<=i/\Same H H5)
   ?_ (by rw [zA];omega) ?_ ?_ ?_
  ·exact ⟨⟨_,rfl⟩,rfl,zF _,Same.refl _⟩
  ·rintro i τ acc H5 ⟨⟨t0,rfl⟩,_,le,sm⟩
   exact ⟨le,SqT.of (sm _ _ hb.meets)⟩
  ·rintro i x τ acc H5 C hx ⟨⟨t0,rfl⟩,ec,le,sm⟩ hC
   obtain ⟨r,hr,rfl⟩:=xR hx
   have hrow:=sm _ _ (hb.rows r (zB hr))
   have hm:(ps.map (·.2))[i]?=some r.2:=by rw [zJ,hr];rfl
   refine (zr rfl (ixt hrow rfl (zr rfl (zr2 rfl rfl (zr rfl (iteD (λc=>(zr rfl (hC _ _ _ ?_))) (λc=>hC _ _ _ ?_)))))))
   ·exact ⟨⟨_,rfl⟩,by rw [cnt_snoc hm,if_pos c,zK,ec];rfl,by rw [zK];exact Nat.succ_le_succ le,sm⟩
   ·exact ⟨⟨_,rfl⟩,by rw [cnt_snoc hm,if_neg c,ec];rfl,by omega,sm⟩
  ·rintro τ acc H5 ⟨⟨t0,rfl⟩,ec,le,sm⟩ l hl
   have e:(ps.map λa=>V.ref a.1).length=(ps.map (·.2)).length:=by simp
   rw [e,zU] at ec
   refine ⟨l,zr rfl ⟨.inl (SqL.of yx),?_⟩⟩
   rw [ec]
   exact q _ (sm.trans (yy hl))
theorem Hk:FnScope ["book", "told", "number", "one", "other", "when", "many"] ["book"] (defScope GX):=⟨rfl,rfl,rfl,by decide +kernel,rfl,by decide +kernel,by decide +kernel⟩
theorem Hr (T:Tx K mg a):FnOk P w K mg base CX0 1 a.C9 a.Es ["book"] (spWays):=by
 refine T.Dv.ok Hk (λvs H Q E h=>?_) (λcdv A outer s H vs Q E hr h=>?_)
 ·obtain ⟨b,_,_,_,_,rfl,_⟩:=h;rfl
 ·have nd:=Hk.nd
  have hu:=hr.units
  obtain ⟨b,rooms,tr,tm,ps,rfl,hb,gd,q⟩:=h
  refine ⟨_,(@xD _ _ _ (@xQ _ _ _ _ _ _ (xL (i:=1) nd rfl rfl (@xa _ _ _ _ wd)) (@xQ _ _ _ _ _ _ (xm PassesOwn.never rfl (pi_enumT rfl rfl T.b_enumerate (@yu _ _ _ (@yw _ _ _ _ _ (@xG _ _ _ _ _ _ _ (xK rfl) (pv 0) yt (λ_ _=>rfl)) xB rfl))) (xZ (n:=2) rfl rfl (xE (xA (i:=2) nd rfl rfl) (xE (xZ (n:=4) rfl rfl (xE (xA (i:=3) nd rfl rfl) (xE (xA (i:=4) nd rfl rfl) (xE (xA (i:=5) nd rfl rfl) (xE (xA (i:=6) nd rfl rfl) xY))))) xY))) (@xD _ _ _ (@xQ _ _ _ _ _ _ (ps_expr (pe_bm PySem.F.plainAttrs_list PySem.F.slot_list_append PySem.F.type_list_append mt_append (pv 1) (@yu _ _ _ (@yw _ _ _ _ _ (@wJ _ _ _ _ _ (@yu _ _ _ (@yw _ _ _ _ _ (pv 2) (@yw _ _ _ _ _ (pv 3) (@yw _ _ _ _ _ (pv 4) (@yw _ _ _ _ _ (pv 5) xB rfl) rfl) rfl) rfl))) xB rfl)))) (@xS _ _ _ (ps_expr (pe_bm PySem.F.plainAttrs_list PySem.F.slot_list_append PySem.F.type_list_append mt_append (pv 1) (@yu _ _ _ (@yw _ _ _ _ _ (@wJ _ _ _ _ _ (@yu _ _ _ (@yw _ _ _ _ _ (pv 2) (@yw _ _ _ _ _ (pv 4) (@yw _ _ _ _ _ (pv 3) (@yw _ _ _ _ _ (pv 5) xB rfl) rfl) rfl) rfl))) xB rfl)))))))) (@xS _ _ _ (@xN _ _ _ _ (pv 1)))))),?_⟩
  have line:=line9
  have l60:=gd.len
  refine ⟨za _,λl hl=>?_⟩
  have hb1:=hb.same (yy (o:=HO.lst []) hl)
  refine (zr rfl (ixt hb1.book rfl ⟨tm,rfl,⟨_,SqT.of hb1.meets⟩,?_⟩))
  refine for_enumT (K:=K) (a:=tm) (xs:=ps.map λa=>V.ref a.1) (λi σ H4=>(∃ v2 v3 v4 v5 v6,σ=[some (.ref b),some (.ref l),v2,v3,v4,v5,v6])/\Same H H4/\∃ ws:List (Addr×W4),H4 l=some (.lst (ws.map λa=>V.ref a.1))/\(∀ a∈ws,H4 a.1=some (.tup a.2.vs))/\ws.map (·.2)=waysN (ps.map (·.2)) i/\ws.length=2 * i)
   ⟨⟨_,_,_,_,_,rfl⟩,yy hl,[],yx,(λ_ z=>nomatch z),rfl,rfl⟩ (λi σ H4 _ h4=>SqT.of ((hb.same h4.2.1).meets)) ?_ ?_
  ·rintro i x q' σ H4 hx hq ⟨⟨v2,v3,v4,v5,v6,rfl⟩,sm,ws,h4,hr,ew,lw⟩
   obtain ⟨r,hr1,rfl⟩:=xR hx
   have hi:i < ps.length:=(zH.mp hr1).1
   have hm:(ps.map (·.2))[i]?=some r.2:=by rw [zJ,hr1];rfl
   obtain ⟨a1,a2,a3,a4,a5,_⟩:=gd.at (zB hr1)
   have sm1:=sm.trans (yy (o:=HO.tup [.int i,.ref r.1]) hq)
   have hrow:=(hb.same sm1).rows r (zB hr1)
   have h5:=(yy (o:=HO.tup [.int i,.ref r.1]) hq) _ _ h4
   refine ⟨q',zr rfl ⟨SqT.of yx,rfl,zr1 rfl (zr1 rfl (un4 hrow ⟨rfl,?_⟩))⟩⟩
   refine (zr rfl ⟨.inl ⟨rfl,_,SqL.of h5⟩,zr rfl (zr rfl (zr rfl (zr rfl ⟨by show 4<=sizeLine;omega,λt1 ht1=>⟨l,zr2 rfl rfl ⟨yy ht1 _ _ h5,by rw [zA];omega,?_⟩⟩⟩)))⟩)
   have n1:t1≠l:=(yz h5 ht1).symm
   refine (zr rfl ⟨.inl ⟨rfl,_,SqL.of yx⟩,zr rfl (zr rfl (zr rfl (zr rfl ⟨by show 4<=sizeLine;omega,λt2 ht2=>⟨l,zr2 rfl rfl ⟨yy ht2 _ _ yx,by rw [zK,zA];show ws.length + 1 < sizeLine;omega,?_⟩⟩⟩)))⟩)
   have n2:t2≠l:=λz=>by rw [z,yx] at ht2;cases ht2
   have n12:t1≠t2:=λz=>by rw [<-z,xH n1,yx] at ht2;cases ht2
   have e1:(r.2.lo.toNat:Int)=r.2.lo:=Int.toNat_of_nonneg a1
   have e2:(r.2.hi.toNat:Int)=r.2.hi:=Int.toNat_of_nonneg (by omega)
   have sm2:Same H (upd (upd (upd (upd (upd H4 q' (.tup [.int i,.ref r.1])) t1 (.tup [.int i,.int r.2.lo,.int r.2.hi,.int r.2.t])) l (.lst ((ws.map λa=>V.ref a.1)++[.ref t1]))) t2 (.tup [.int i,.int r.2.hi,.int r.2.lo,.int r.2.t])) l (.lst ((ws.map λa=>V.ref a.1)++[.ref t1]++[.ref t2]))):=
    Same.put hl ((Same.put hl (sm1.trans (yy ht1))).trans (yy ht2))
   refine ⟨⟨_,_,_,_,_,rfl⟩,sm2,ws++[(t1,⟨i,⟨r.2.lo.toNat,r.2.hi.toNat,r.2.t⟩⟩),(t2,⟨i,⟨r.2.hi.toNat,r.2.lo.toNat,r.2.t⟩⟩)],?_,λa ha=>?_,?_,?_⟩
   ·rw [yx,zC,List.append_assoc];rfl
   ·rcases zX.mp ha with h | h
    ·have:=hr a h
     have na:a.1≠l:=ne_of this h4 (by intro z;cases z)
     have b1:=yy (o:=HO.tup [.int i,.ref r.1]) hq _ _ this
     have b2:=yy (o:=HO.tup [.int i,.int r.2.lo,.int r.2.hi,.int r.2.t]) ht1 _ _ b1
     rw [xH na]
     exact yy ht2 _ _ (by rw [xH na];exact b2)
    ·simp only [zE,zI,or_false] at h
     rcases h with rfl | rfl
     ·rw [xH n1]
      refine yy ht2 _ _ ?_
      rw [xH n1,yx]
      show _=some (HO.tup [.int i,.int (r.2.lo.toNat:Int),.int (r.2.hi.toNat:Int),.int r.2.t])
      rw [e1,e2]
     ·rw [xH n2,yx]
      show _=some (HO.tup [.int i,.int (r.2.hi.toNat:Int),.int (r.2.lo.toNat:Int),.int r.2.t])
      rw [e1,e2]
   ·rw [zC,ew,waysN_succ hm];rfl
   ·rw [zK,lw];show 2 * i + 2=_;omega
  ·rintro σ H4 ⟨⟨v2,v3,v4,v5,v6,rfl⟩,sm,ws,h4,hr,ew,lw⟩
   rw [zA] at ew
   exact (zr rfl (q l ws _ hl sm h4 hr ew))
theorem CS:FnScope ["load", "want"] ["load", "want"] (defScope Cn):=⟨rfl,rfl,rfl,by decide +kernel,rfl,by decide +kernel,by decide +kernel⟩
theorem E9 (T:Tx K mg a):FnOk P w K mg base CX0 1 a.Ax a.Bb ["load", "want"] (spStraight1):=by
 refine T.AR.ok CS (λvs H Q E h=>?_) (λcdv A outer s H vs Q E hr h=>?_)
 ·obtain ⟨_,_,_,_,rfl,_⟩:=h;rfl
 ·have nd:=CS.nd
  have hu:=hr.units
  obtain ⟨a,b,l,w,rfl,ha,hb,q⟩:=h
  refine ⟨_,(@xD _ _ _ (@xS _ _ _ (@xN _ _ _ _ (@wg _ _ _ _ _ _ _ (@wD _ _ _ _ _ _ _ _ xw (@xG _ _ _ _ _ _ _ (xK rfl) (pv 0) yt (λ_ _=>rfl)) (@xG _ _ _ _ _ _ _ (xK rfl) (pv 1) yt (λ_ _=>rfl)) (nomark _)) (@pe_one _ _ _ _ _ (@wD _ _ _ _ _ _ _ _ op_le (@xG _ _ _ _ _ _ _ (xK rfl) (pv 0) yt (λ_ _=>rfl)) (@xG _ _ _ _ _ _ _ (xK rfl) (pv 1) yt (λ_ _=>rfl)) (nomark _))))))),?_⟩
  refine (zr rfl (ixt ha rfl (zr rfl (ixt hb rfl ⟨rfl,zr rfl ?_⟩))))
  by_cases c:l.w=w.w
  ·refine iteB1 (decide_eq_true (by rw [c])) (zr rfl (ixt ha rfl (zr rfl (ixt hb rfl (zr2 rfl rfl ?_)))))
   rwa [show strB l w=decide (l.t<=w.t) by unfold strB;rw [decide_eq_true c];rfl] at q
  ·refine iteB0 (decide_eq_false (λz=>c (V.int.inj z))) ?_
   rwa [show strB l w=false by unfold strB;rw [decide_eq_false c];rfl] at q
theorem Dg:FnScope ["thing", "size"] ["thing", "size"] (defScope B4):=⟨rfl,rfl,rfl,by decide +kernel,rfl,by decide +kernel,by decide +kernel⟩
theorem Fq (T:Tx K mg a):FnOk P w K mg base CX0 1 a.AK a.Bq ["thing", "size"] (spTruths):=by
 refine T.A5.ok Dg (λvs H Q E h=>?_) (λcdv A outer s H vs Q E hr h=>?_)
 ·obtain ⟨_,_,rfl,_⟩:=h;rfl
 ·have nd:=Dg.nd
  have hu:=hr.units
  obtain ⟨v,n,rfl,dt,n1000,q⟩:=h
  refine ⟨_,(@xD _ _ _ (@xS _ _ _ (@xN _ _ _ _ (@wg _ _ _ _ _ _ _ (xF (xc) (by rfl) T.b_isinstance zV (@yu _ _ _ (@yw _ _ _ _ _ (pv 0) (@yw _ _ _ _ _ (wP (v:=V.ty "list") rfl T.b_list zb rfl) xB rfl) rfl))) (@wg _ _ _ _ _ _ _ (@wD _ _ _ _ _ _ _ _ xw (xF (xJ rfl) (by rfl) T.b_len PySem.boot_len (@yu _ _ _ (@yw _ _ _ _ _ (pv 0) xB rfl))) (pv 1) (nomark _)) (@pe_one _ _ _ _ _ (xF (call_all rfl rfl) (by rfl) T.b_all yU (@yu _ _ _ (@yw _ _ _ _ _ (xt (own:=["part"]) (caps:=[]) rfl (show CompScope ["part"] [] ["thing", "size"] (defScope B4) _ from ⟨rfl,by decide +kernel,by decide +kernel,by decide +kernel,by decide +kernel⟩) (@xp _ _ _ _ _ rfl (pv 0)) (λ_ _ _ _=>(xA (i:=0) (show List.Nodup (["part"]:List Str) from by decide +kernel) rfl rfl)) (λ_ _ _ _=>wH) (λ_ _ _ _=>(xF (xc) (by rfl) T.b_isinstance zV (@yu _ _ _ (@yw _ _ _ _ _ (pv 0) (@yw _ _ _ _ _ (wP (v:=V.ty "bool") rfl T.b_bool PyProof.Rows.boot_bool rfl) xB rfl) rfl))))) xB rfl))))))))),?_⟩
  have line:=line9
  rcases dt with ⟨l,xs,rfl,kl,ex⟩ | ⟨l,xs,rfl,kl,ex⟩ | ⟨t,ht,n1,n2⟩
  ·refine (zr rfl ⟨_, "list", "list", rfl,wE kl,.inr (.inr (.inl rfl)),zr rfl (iteB1 rfl (zr rfl ⟨l,zr rfl ⟨.inl (SqL.of kl),zr rfl ⟨rfl,zr rfl ?_⟩⟩⟩))⟩)
   by_cases e:xs.length=n
   ·refine iteB1 (decide_eq_true (by rw [e])) ?_
    refine (zr rfl ⟨l,rfl,⟨_,SqL.of kl⟩,?_⟩)
    refine xz (K:=K) (a:=l) (xs:=xs) (λi τ acc H5=>(∃ t0,τ=[t0])/\acc=((xs.take i).map isBl).map V.bl/\Same H H5) ⟨⟨_,rfl⟩,rfl,Same.refl _⟩ (by omega) ?_ ?_ ?_
    ·rintro i τ acc H5 ⟨_,rfl,sm⟩
     refine ⟨?_,SqL.of (sm _ _ kl)⟩
     rw [zA,zA,zT];omega
    ·rintro i v τ acc H5 C hv ⟨⟨t0,rfl⟩,rfl,sm⟩ hC
     obtain ⟨ty,hty⟩:=(ex v (zB hv)).ty
     refine (zr rfl ⟨v,ty, "bool", rfl,wF sm hty,.inr (.inl rfl),?_⟩)
     rw [show isSub ty "bool" = isBl v from isBl_of hty]
     refine hC _ _ _ ⟨⟨_,rfl⟩,?_,sm⟩
     rw [xX hv,zC,zC];rfl
    ·rintro τ acc H5 ⟨⟨t0,rfl⟩,rfl,sm⟩ lc hlc
     refine ⟨lc,zr rfl ⟨SqL.of yx,?_⟩⟩
     have z:=q _ (sm.trans (yy (o:=HO.lst (((xs.take xs.length).map isBl).map V.bl)) hlc))
     rw [truthsV_l kl,decide_eq_true e,zQ] at z
     rw [zU,yr] at *
     exact z
   ·refine iteB0 (decide_eq_false (λz=>e (Int.ofNat.inj (V.int.inj z)))) ?_
    have z:=q _ (Same.refl _)
    rwa [truthsV_l kl,decide_eq_false e,yE] at z
  ·refine (zr rfl ⟨_, "tuple", "list", rfl,xj kl,.inr (.inr (.inl rfl)),zr rfl (iteB0 rfl ?_)⟩)
   have z:=q _ (Same.refl _)
   rwa [(xf (xj kl) (by decide) n 0).1] at z
  ·refine (zr rfl ⟨_,t, "list", rfl,ht,.inr (.inr (.inl rfl)),zr rfl (iteB0 ?_ ?_)⟩)
   ·rcases wY ht with rfl | rfl | rfl | rfl | rfl | rfl | rfl <;> first | rfl | exact absurd rfl n1
   have z:=q _ (Same.refl _)
   rwa [(xf ht n1 n 0).1] at z
theorem Dy:FnScope ["thing", "size"] ["thing", "size"] (defScope Ck):=⟨rfl,rfl,rfl,by decide +kernel,rfl,by decide +kernel,by decide +kernel⟩
theorem FJ (T:Tx K mg a):FnOk P w K mg base CX0 3 a.AW a.BB ["thing", "size"] (spMarks38):=by
 have GQ:=FI P w base T
 refine T.Bh.ok Dy (λvs H Q E h=>?_) (λcdv A outer s H vs Q E hr h=>?_)
 ·obtain ⟨_,_,rfl,_⟩:=h;rfl
 ·have nd:=Dy.nd
  have hu:=hr.units
  obtain ⟨v,n,rfl,dt,n1000,q⟩:=h
  refine ⟨_,(@xD _ _ _ (@xS _ _ _ (@xN _ _ _ _ (@wg _ _ _ _ _ _ _ (xF (xc) (by rfl) T.b_isinstance zV (@yu _ _ _ (@yw _ _ _ _ _ (pv 0) (@yw _ _ _ _ _ (wP (v:=V.ty "list") rfl T.b_list zb rfl) xB rfl) rfl))) (@wg _ _ _ _ _ _ _ (@wD _ _ _ _ _ _ _ _ xw (xF (xJ rfl) (by rfl) T.b_len PySem.boot_len (@yu _ _ _ (@yw _ _ _ _ _ (pv 0) xB rfl))) (pv 1) (nomark _)) (@pe_one _ _ _ _ _ (xF (call_all rfl rfl) (by rfl) T.b_all yU (@yu _ _ _ (@yw _ _ _ _ _ (xt (own:=["mark"]) (caps:=[]) rfl (show CompScope ["mark"] [] ["thing", "size"] (defScope Ck) _ from ⟨rfl,by decide +kernel,by decide +kernel,by decide +kernel,by decide +kernel⟩) (@xp _ _ _ _ _ rfl (pv 0)) (λ_ _ _ _=>(xA (i:=0) (show List.Nodup (["mark"]:List Str) from by decide +kernel) rfl rfl)) (λ_ _ _ _=>wH) (λ_ _ _ _=>(xC GQ (hr.mono (by decide)) rfl T.Gj T.Gs T.GA .nil pass0 (@yu _ _ _ (@yw _ _ _ _ _ (pv 0) (@yw _ _ _ _ _ yt (@yw _ _ _ _ _ yt xB rfl) rfl) rfl))))) xB rfl))))))))),?_⟩
  have line:=line9
  rcases dt with ⟨l,xs,rfl,kl,ex⟩ | ⟨l,xs,rfl,kl,ex⟩ | ⟨t,ht,n1,n2⟩
  ·refine (zr rfl ⟨_, "list", "list", rfl,wE kl,.inr (.inr (.inl rfl)),zr rfl (iteB1 rfl (zr rfl ⟨l,zr rfl ⟨.inl (SqL.of kl),zr rfl ⟨rfl,zr rfl ?_⟩⟩⟩))⟩)
   by_cases e:xs.length=n
   ·refine iteB1 (decide_eq_true (by rw [e])) ?_
    refine (zr rfl ⟨l,rfl,⟨_,SqL.of kl⟩,?_⟩)
    refine xz (K:=K) (a:=l) (xs:=xs) (λi τ acc H5=>(∃ t0,τ=[t0])/\acc=((xs.take i).map (inB 0 3)).map V.bl/\Same H H5) ⟨⟨_,rfl⟩,rfl,Same.refl _⟩ (by omega) ?_ ?_ ?_
    ·rintro i τ acc H5 ⟨_,rfl,sm⟩
     refine ⟨?_,SqL.of (sm _ _ kl)⟩
     rw [zA,zA,zT];omega
    ·rintro i v τ acc H5 C hv ⟨⟨t0,rfl⟩,rfl,sm⟩ hC
     obtain ⟨ty,hty⟩:=(ex v (zB hv)).ty
     refine (zr rfl ⟨v,ty,zr1 rfl ⟨wF sm hty,?_⟩⟩)
     refine hC _ _ _ ⟨⟨_,rfl⟩,?_,sm⟩
     rw [xX hv,zC,zC];rfl
    ·rintro τ acc H5 ⟨⟨t0,rfl⟩,rfl,sm⟩ lc hlc
     refine ⟨lc,zr rfl ⟨SqL.of yx,?_⟩⟩
     have z:=q _ (sm.trans (yy (o:=HO.lst (((xs.take xs.length).map (inB 0 3)).map V.bl)) hlc))
     rw [marksV_l kl,decide_eq_true e,zQ] at z
     rw [zU,yr] at *
     exact z
   ·refine iteB0 (decide_eq_false (λz=>e (Int.ofNat.inj (V.int.inj z)))) ?_
    have z:=q _ (Same.refl _)
    rwa [marksV_l kl,decide_eq_false e,yE] at z
  ·refine (zr rfl ⟨_, "tuple", "list", rfl,xj kl,.inr (.inr (.inl rfl)),zr rfl (iteB0 rfl ?_)⟩)
   have z:=q _ (Same.refl _)
   rwa [(xf (xj kl) (by decide) n 0).2.1] at z
  ·refine (zr rfl ⟨_,t, "list", rfl,ht,.inr (.inr (.inl rfl)),zr rfl (iteB0 ?_ ?_)⟩)
   ·rcases wY ht with rfl | rfl | rfl | rfl | rfl | rfl | rfl <;> first | rfl | exact absurd rfl n1
   have z:=q _ (Same.refl _)
   rwa [(xf ht n1 n 0).2.1] at z
theorem CP:FnScope ["book", "loads", "wants", "thing", "begun", "come", "marks"] ["book", "loads", "wants", "thing"] (defScope wm):=⟨rfl,rfl,rfl,by decide +kernel,rfl,by decide +kernel,by decide +kernel⟩
theorem EM (T:Tx K mg a):FnOk P w K mg base CX0 4 a.As a.AS ["book", "loads", "wants", "thing"] (spCutForm):=by
 have DX:=Fq P w base T
 have GR:=FJ P w base T
 refine T.AD.ok CP (λvs H Q E h=>?_) (λcdv A outer s H vs Q E hr h=>?_)
 ·obtain ⟨_,_,_,_,_,_,_,_,_,_,rfl,_⟩:=h;rfl
 ·have nd:=CP.nd
  have hu:=hr.units
  obtain ⟨b,ll,lw,v,rooms,tr,tm,ps,ls,ws,rfl,hb,hl,hw,l100,w100,r100,p100,dt,q⟩:=h
  refine ⟨_,(@xD _ _ _ (@xQ _ _ _ _ _ _ (@xW _ _ _ _ _ _ _ _ (@PW.pt _ _ _ (@pw_or _ _ _ _ _ _ _ (@xh _ _ _ _ (xV (xF (xc) (by rfl) T.b_isinstance zV (@yu _ _ _ (@yw _ _ _ _ _ (pv 3) (@yw _ _ _ _ _ (wP (v:=V.ty "tuple") rfl T.b_tuple yD rfl) xB rfl) rfl))))) (@wf _ _ _ _ (@xP _ _ _ _ _ _ _ _ op_ne (xF (xJ rfl) (by rfl) T.b_len PySem.boot_len (@yu _ _ _ (@yw _ _ _ _ _ (pv 3) xB rfl))) yt (nomark _))))) (@xD _ _ _ (@xS _ _ _ (@xN _ _ _ _ wB))) xO) (@xQ _ _ _ _ _ _ (ps_asg (pv 3) (xZ (n:=3) rfl rfl (xE (xA (i:=4) nd rfl rfl) (xE (xA (i:=5) nd rfl rfl) (xE (xA (i:=6) nd rfl rfl) xY))))) (@xQ _ _ _ _ _ _ (@xW _ _ _ _ _ _ _ _ (@PW.pt _ _ _ (@pw_or _ _ _ _ _ _ _ (@xh _ _ _ _ (xV (xC DX (hr.mono (by decide)) rfl T.DL T.DO T.DR .nil pass0 (@yu _ _ _ (@yw _ _ _ _ _ (pv 4) (@yw _ _ _ _ _ (xF (xJ rfl) (by rfl) T.b_len PySem.boot_len (@yu _ _ _ (@yw _ _ _ _ _ (pv 1) xB rfl))) xB rfl) rfl))))) (@wf _ _ _ _ (@xh _ _ _ _ (xV (xC DX (hr.mono (by decide)) rfl T.DL T.DO T.DR .nil pass0 (@yu _ _ _ (@yw _ _ _ _ _ (pv 5) (@yw _ _ _ _ _ (xF (xJ rfl) (by rfl) T.b_len PySem.boot_len (@yu _ _ _ (@yw _ _ _ _ _ (pv 2) xB rfl))) xB rfl) rfl)))))))) (@xD _ _ _ (@xS _ _ _ (@xN _ _ _ _ wB))) xO) (@xQ _ _ _ _ _ _ (@xW _ _ _ _ _ _ _ _ (@PW.pt _ _ _ (@pw_or _ _ _ _ _ _ _ (@xh _ _ _ _ (xV (xF (xc) (by rfl) T.b_isinstance zV (@yu _ _ _ (@yw _ _ _ _ _ (pv 6) (@yw _ _ _ _ _ (wP (v:=V.ty "list") rfl T.b_list zb rfl) xB rfl) rfl))))) (@wf _ _ _ _ (@xP _ _ _ _ _ _ _ _ op_ne (xF (xJ rfl) (by rfl) T.b_len PySem.boot_len (@yu _ _ _ (@yw _ _ _ _ _ (pv 6) xB rfl))) (@xM _ _ _ _ _ _ _ _ xU (xF (xJ rfl) (by rfl) T.b_len PySem.boot_len (@yu _ _ _ (@yw _ _ _ _ _ (@xG _ _ _ _ _ _ _ (xK rfl) (pv 0) yt (λ_ _=>rfl)) xB rfl))) yt) (nomark _))))) (@xD _ _ _ (@xS _ _ _ (@xN _ _ _ _ wB))) xO) (@xS _ _ _ (@xN _ _ _ _ (xF (call_all rfl rfl) (by rfl) T.b_all yU (@yu _ _ _ (@yw _ _ _ _ _ (xt (own:=["row"]) (caps:=[0]) rfl (show CompScope ["row"] [0] ["book", "loads", "wants", "thing", "begun", "come", "marks"] (defScope wm) _ from ⟨rfl,by decide +kernel,by decide +kernel,by decide +kernel,by decide +kernel⟩) (@xp _ _ _ _ _ rfl (pv 6)) (λ_ _ _ _=>(xA (i:=0) (show List.Nodup (["row", "book"]:List Str) from by decide +kernel) rfl rfl)) (λ_ _ _ _=>wH) (λ_ _ _ _=>(xC GR (hr.mono (by decide)) rfl T.Gk T.Gu T.GB .nil pass0 (@yu _ _ _ (@yw _ _ _ _ _ (pv 0) (@yw _ _ _ _ _ (xF (xJ rfl) (by rfl) T.b_len PySem.boot_len (@yu _ _ _ (@yw _ _ _ _ _ (@xG _ _ _ _ _ _ _ (xK rfl) (pv 1) yt (λ_ _=>rfl)) xB rfl))) xB rfl) rfl))))) xB rfl)))))))))),?_⟩
  have line:=line9
  have nq:∀ {H'},formV H ls.length ws.length (ps.length + 1) rooms.length v=false->Same H H'->Q (.bl false) H':=λ{H'} e s=>by have z:=q H' s;rwa [e] at z
  rcases dt with ⟨a,xs,rfl,kl,ex⟩ | ⟨a,xs,rfl,kl,ex⟩ | ⟨t,ht,n1,n2⟩
  ·refine (zr rfl ⟨_, "list", "tuple", rfl,wE kl,.inr (.inr (.inr rfl)),zr rfl (iteB1 rfl ?_)⟩)
   exact nq (no_tup (wE kl) (by decide) _ _ _ _) (Same.refl _)
  rotate_left
  ·refine (zr rfl ⟨_,t, "tuple", rfl,ht,.inr (.inr (.inr rfl)),zr rfl (iteB1 ?_ ?_)⟩)
   ·rcases wY ht with rfl | rfl | rfl | rfl | rfl | rfl | rfl <;> first | rfl | exact absurd rfl n2
   exact nq (no_tup ht n2 _ _ _ _) (Same.refl _)
  refine (zr rfl ⟨_, "tuple", "tuple", rfl,xj kl,.inr (.inr (.inr rfl)),zr rfl (iteB0 rfl (zr rfl ⟨a,zr rfl ⟨.inr (SqT.of kl),rfl,zr rfl ?_⟩⟩))⟩)
  by_cases e3:xs.length=3
  rotate_left
  ·refine iteB1 ?_ (nq (form_len kl e3 _ _ _ _) (Same.refl _))
   simp;omega
  obtain ⟨x,y,z,rfl⟩:=three38 e3
  have ef:=form_3 kl ls.length ws.length (ps.length + 1) rooms.length
  refine iteB0 rfl (zr rfl (un3 kl ?_))
  have dx:=ex x (by simp)
  have dy:=ex y (by simp)
  have dz:=ex z (by simp)
  refine (zr rfl (zr rfl ⟨ll,zr rfl ⟨.inl (SqL.of hl.l),x,ls.length,by rw [zA];rfl,dx.le,by omega,λH1 s1=>?_⟩⟩))
  by_cases c1:truthsV H ls.length x=true
  rotate_left
  ·rw [Bool.not_eq_true] at c1
   refine (zr rfl (iteB1 (by rw [c1];rfl) (nq (by rw [ef,c1];rfl) s1)))
  refine (zr rfl (iteB0 (by rw [c1];rfl) ?_))
  refine (zr rfl (zr rfl ⟨lw,zr rfl ⟨.inl (SqL.of (s1 _ _ hw.l)),y,ws.length,by rw [zA];rfl,(dy.le).same s1,by omega,λH2 s2=>?_⟩⟩))
  rw [truths_same s1 dy.le]
  have s12:=s1.trans s2
  by_cases c2:truthsV H ws.length y=true
  rotate_left
  ·rw [Bool.not_eq_true] at c2
   refine (zr rfl (iteB1 (by rw [c2];rfl) (nq (by rw [ef,c1,c2];rfl) s12)))
  refine (zr rfl (iteB0 (by rw [c2];rfl) ?_))
  rw [c1,c2,zQ,zQ] at ef
  have kz:=dz
  rcases kz with ⟨l,zs,rfl,kl3,ez⟩ | ⟨l,zs,rfl,kl3,ez⟩ | ⟨t,ht,n1,n2⟩
  rotate_left
  ·refine (zr rfl ⟨_, "tuple", "list", rfl,xj (s12 _ _ kl3),.inr (.inr (.inl rfl)),zr rfl (iteB1 rfl ?_)⟩)
   exact nq (by rw [ef,(xf (xj kl3) (by decide) _ _).2.2]) s12
  ·refine (zr rfl ⟨_,t, "list", rfl,wF s12 ht,.inr (.inr (.inl rfl)),zr rfl (iteB1 ?_ ?_)⟩)
   ·rcases wY ht with rfl | rfl | rfl | rfl | rfl | rfl | rfl <;> first | rfl | exact absurd rfl n1
   exact nq (by rw [ef,(xf ht n1 _ _).2.2]) s12
  have hb2:=hb.same s12
  refine (zr rfl ⟨_, "list", "list", rfl,wE (s12 _ _ kl3),.inr (.inr (.inl rfl)),zr rfl (iteB0 rfl (zr rfl ⟨l,zr rfl ⟨.inl (SqL.of (s12 _ _ kl3)),zr rfl (ixt hb2.book rfl ⟨tm,zr rfl ⟨.inr (SqT.of hb2.meets),zr2 rfl rfl ⟨rfl,zr rfl ?_⟩⟩⟩)⟩⟩))⟩)
  rw [rowsV_l kl3] at ef
  by_cases c3:zs.length=ps.length + 1
  rotate_left
  ·refine iteB1 ?_ (nq (by rw [ef,decide_eq_false c3];rfl) s12)
   rw [zA];simp;omega
  refine iteB0 (by rw [zA];simp;omega) ?_
  rw [decide_eq_true c3,zQ] at ef
  refine (zr rfl ⟨l,rfl,⟨_,SqL.of (s12 _ _ kl3)⟩,?_⟩)
  refine xz (K:=K) (a:=l) (xs:=zs) (λi τ acc H5=>(∃ t0,τ=[t0,some (.ref b)])/\acc=((zs.take i).map (marksV H rooms.length)).map V.bl/\Same H H5) ⟨⟨_,rfl⟩,rfl,s12⟩ (by omega) ?_ ?_ ?_
  ·rintro i τ acc H5 ⟨_,rfl,sm⟩
   refine ⟨?_,SqL.of (sm _ _ kl3)⟩
   rw [zA,zA,zT];omega
  ·rintro i v τ acc H5 C hv ⟨⟨t0,rfl⟩,rfl,sm⟩ hC
   have dv:=ez v (zB hv)
   have hb5:=hb.same sm
   refine (zr rfl (zr rfl (ixt hb5.book rfl ⟨tr,zr rfl ⟨.inr (SqT.of hb5.rooms),v,rooms.length,by rw [zA];rfl,dv.same sm,by omega,λH6 s6=>?_⟩⟩)))
   rw [marks_same sm dv]
   refine hC _ _ _ ⟨⟨_,rfl⟩,?_,sm.trans s6⟩
   rw [xX hv,zC,zC];rfl
  ·rintro τ acc H5 ⟨⟨t0,rfl⟩,rfl,sm⟩ lc hlc
   refine ⟨lc,zr rfl ⟨SqL.of yx,?_⟩⟩
   have z:=q _ (sm.trans (yy (o:=HO.lst (((zs.take zs.length).map (marksV H rooms.length)).map V.bl)) hlc))
   rw [ef] at z
   rw [zU,yr] at *
   exact z
theorem E6:FnScope ["mark"] ["mark"] (defScope D1):=⟨rfl,rfl,rfl,by decide +kernel,rfl,by decide +kernel,by decide +kernel⟩
theorem Dq (T:Tx K mg a):FnOk P w K mg base CX0 1 a.BI a.B9 ["mark"] (spOpen):=by
 refine T.BW.ok E6 (λvs H Q E h=>?_) (λcdv A outer s H vs Q E hr h=>?_)
 ·obtain ⟨_,rfl,_⟩:=h;rfl
 ·have nd:=E6.nd
  have hu:=hr.units
  obtain ⟨m,rfl,q⟩:=h
  refine ⟨_,(@xD _ _ _ (@xS _ _ _ (@xN _ _ _ _ (@wD _ _ _ _ _ _ _ _ op_ge (pv 0) yt (nomark _))))),?_⟩
  refine (zr rfl (zr2 rfl rfl ?_))
  exact q
theorem Gf:FnScope ["mark"] ["mark"] (defScope FH):=⟨rfl,rfl,rfl,by decide +kernel,rfl,by decide +kernel,by decide +kernel⟩
theorem Fa (T:Tx K mg a):FnOk P w K mg base CX0 1 a.Cm a.Dd ["mark"] (spIn):=by
 refine T.CO.ok Gf (λvs H Q E h=>?_) (λcdv A outer s H vs Q E hr h=>?_)
 ·obtain ⟨_,rfl,_⟩:=h;rfl
 ·have nd:=Gf.nd
  have hu:=hr.units
  obtain ⟨m,rfl,q⟩:=h
  refine ⟨_,(@xD _ _ _ (@xS _ _ _ (@xN _ _ _ _ (@wD _ _ _ _ _ _ _ _ (op_in_seq' rfl) (pv 0) (@wJ _ _ _ _ _ (@yu _ _ _ (@yw _ _ _ _ _ yt (@yw _ _ _ _ _ yt xB rfl) rfl))) rfl)))),?_⟩
  have line:=line9
  refine (zr rfl ⟨by show 2<=_;omega,λu hu=>⟨u,zr rfl ⟨.inr (SqT.of yx),rfl,rfl,?_⟩⟩⟩)
  rw [if_neg (by decide),inV_two36]
  exact q _ (yy hu)
theorem Cg:FnScope ["book", "loads", "begun", "marks", "walker", "since", "many", "truth"] ["book", "loads", "begun", "marks"] (defScope wS):=⟨rfl,rfl,rfl,by decide +kernel,rfl,by decide +kernel,by decide +kernel⟩
theorem DH (T:Tx K mg a):FnOk P w K mg base CX0 2 a.Ag a.Az ["book", "loads", "begun", "marks"] (spOpenL):=by
 have Ez:=Fb P w base T
 have Ct:=Dq P w base T
 refine T.Ao.ok Cg (λvs H Q E h=>?_) (λcdv A outer s H vs Q E hr h=>?_)
 ·obtain ⟨_,_,_,_,_,_,_,_,_,_,_,_,_,_,_,rfl,_⟩:=h;rfl
 ·have nd:=Cg.nd
  have hu:=hr.units
  obtain ⟨b,ll,lw,rooms,tr,tm,ps,ls,ws,lg,lt,lm,gs,ts,ms,rfl,co,ok,q⟩:=h
  refine ⟨_,(@xD _ _ _ (@xQ _ _ _ _ _ _ (xm PassesOwn.never rfl (wR rfl rfl T.b_zip (@yu _ _ _ (@yw _ _ _ _ _ (pv 1) (@yw _ _ _ _ _ (pv 2) xB rfl) rfl))) (xZ (n:=2) rfl rfl (xE (xZ (n:=3) rfl rfl (xE (xA (i:=4) nd rfl rfl) (xE (xA (i:=5) nd rfl rfl) (xE (xA (i:=6) nd rfl rfl) xY)))) (xE (xA (i:=7) nd rfl rfl) xY))) (@xD _ _ _ (@xS _ _ _ (@xW _ _ _ _ _ _ _ _ (@PW.pt _ _ _ (@wI _ _ _ _ _ _ _ (xV (pv 7)) (@wC _ _ _ _ (@xh _ _ _ _ (xV (xF (call_all rfl rfl) (by rfl) T.b_all yU (@yu _ _ _ (@yw _ _ _ _ _ (xt (own:=["row"]) (caps:=[4]) rfl (show CompScope ["row"] [4] ["book", "loads", "begun", "marks", "walker", "since", "many", "truth"] (defScope wS) _ from ⟨rfl,by decide +kernel,by decide +kernel,by decide +kernel,by decide +kernel⟩) (@xp _ _ _ _ _ rfl (@wK _ _ _ _ _ _ _ _ _ _ (wN rfl) (pv 3) (@wQ _ _ _ (xC Ez (hr.mono (by decide)) rfl T.FA T.FC T.FE .nil pass0 (@yu _ _ _ (@yw _ _ _ _ _ (pv 0) (@yw _ _ _ _ _ (pv 5) xB rfl) rfl)))) wW)) (λ_ _ _ _=>(xA (i:=0) (show List.Nodup (["row", "walker"]:List Str) from by decide +kernel) rfl rfl)) (λ_ _ _ _=>wH) (λ_ _ _ _=>(xC Ct (hr.mono (by decide)) rfl T.D7 T.Ed T.Ej .nil pass0 (@yu _ _ _ (@yw _ _ _ _ _ (@xG _ _ _ _ _ _ _ (xI rfl) (pv 0) (pv 1) (λ_ _=>rfl)) xB rfl))))) xB rfl)))))))) (@xD _ _ _ (@xS _ _ _ (@xN _ _ _ _ wB))) xO)))) (@xS _ _ _ (@xN _ _ _ _ wB)))),?_⟩
  have line:=line9
  have o1:=ok.r12
  have o2:=ok.m60
  have o3:=ok.l
  have o4:=ok.w
  have o5:=ok.lg
  have o6:=ok.lt
  have o7:=ok.lm
  refine (zr rfl (zr rfl ⟨ll,lg,rfl,⟨_,SqL.of co.l.l⟩,⟨_,SqL.of co.g⟩,?_⟩))
  refine wk (K:=K) (a:=ll) (b:=lg) (xs:=ls.map λa=>V.ref a.1) (ys:=gs.map V.bl) (by rw [zA,zA,o5]) (λi σ H6=>(∃ v4 v5 v6 v7,σ=[some (.ref b),some (.ref ll),some (.ref lg),some (.ref lm),v4,v5,v6,v7])/\openF (ps.map (·.2)) ((ls.map (·.2)).drop i) (gs.drop i) (ms.map (·.2))=openF (ps.map (·.2)) (ls.map (·.2)) gs (ms.map (·.2))/\Same H H6) ⟨⟨_,_,_,_,rfl⟩,rfl,Same.refl _⟩ ?_ ?_ ?_
  ·rintro i σ H6 _ ⟨_,_,sm⟩
   exact ⟨SqL.of (sm _ _ co.l.l),SqL.of (sm _ _ co.g)⟩
  ·rintro i x1 y1 z σ H6 hx1 hy1 hz ⟨⟨v4,v5,v6,v7,rfl⟩,eqk,sm⟩
   obtain ⟨r,hr,rfl⟩:=xR hx1
   obtain ⟨g,hg,rfl⟩:=xR hy1
   have s6:=sm.trans (yy (o:=HO.tup [V.ref r.1,V.bl g]) hz)
   rw [wl (xT hr),wl hg,openF_cons] at eqk
   have mr:=zB hr
   obtain ⟨w0,w1⟩:=ok.lw r mr
   refine ⟨z,zr rfl ⟨SqT.of yx,rfl,zr1 rfl (un3 (s6 _ _ (co.l.each r mr)) (zr2 rfl rfl ?_))⟩⟩
   generalize upd H6 z (HO.tup [V.ref r.1,V.bl g])=H7 at s6 ⊢
   have c7:=co.same s6
   cases g with
   | false=>
    refine (zr rfl (zr rfl (iteB0 rfl (iteB0 rfl ⟨⟨_,_,_,_,rfl⟩,?_,s6⟩))))
    rw [show open1 (ps.map (·.2)) (ms.map (·.2)) r.2 false=true from rfl,zQ] at eqk
    exact eqk
   | true=>
    refine (zr rfl (zr rfl (iteB1 rfl ?_)))
    refine (zr rfl (zr rfl (zr rfl (ex6 b r.2.t rooms tr tm ps ⟨rfl,c7.b,by omega,λH8 s8=>(zr rfl ?_)⟩))))
    have c8:=c7.same s8
    refine ⟨lm,zr rfl ⟨SqL.of c8.m,λp hp=>?_⟩⟩
    rw [cut_refs]
    have s9:=yy (o:=HO.lst ((ms.drop (cnt (ps.map (·.2)) r.2.t)).map λa=>V.ref a.1)) hp
    have kp:upd H8 p (HO.lst ((ms.drop (cnt (ps.map (·.2)) r.2.t)).map λa=>V.ref a.1)) p=some (.lst ((ms.drop (cnt (ps.map (·.2)) r.2.t)).map λa=>V.ref a.1)):=yx
    generalize upd H8 p (HO.lst ((ms.drop (cnt (ps.map (·.2)) r.2.t)).map λa=>V.ref a.1))=H9 at s9 kp ⊢
    have c9:=c8.same s9
    have s69:=(s6.trans s8).trans s9
    generalize hc:cnt (ps.map (·.2)) r.2.t=c at kp eqk
    refine ⟨p,rfl,⟨_,SqL.of kp⟩,?_⟩
    refine xz (K:=K) (a:=p) (xs:=(ms.drop c).map λa=>V.ref a.1) (λj τ acc H5=>(∃ t0,τ=[t0,some (.int r.2.w)])/\acc=((((ms.drop c).map (·.2)).take j).map λx=>openB (at38 x r.2.w)).map V.bl/\Same H9 H5) ⟨⟨_,rfl⟩,rfl,Same.refl _⟩ (by rw [zA,yH];omega) ?_ ?_ ?_
    ·rintro j τ acc H5 ⟨_,rfl,s5⟩
     refine ⟨?_,SqL.of (s5 _ _ kp)⟩
     rw [zA,zA,zT];omega
    ·rintro j v τ acc H5 C hv ⟨⟨t0,rfl⟩,rfl,s5⟩ hC
     obtain ⟨x,hx,rfl⟩:=xR hv
     have mx:=yO (zB hx)
     refine (zr rfl (zr rfl (ixl (s5 _ _ (c9.rows x mx)) (xu w0 (by rw [ok.rows x mx];exact w1)) (zr rfl (hC _ _ _ ⟨⟨_,rfl⟩,?_,s5⟩)))))
     rw [xX (xT hx),zC,zC];rfl
    ·rintro τ acc H5 ⟨⟨t0,rfl⟩,rfl,s5⟩ lc hlc
     have e:((ms.drop c).map λa=>V.ref a.1).length=((ms.drop c).map (·.2)).length:=by rw [zA,zA]
     refine ⟨lc,zr rfl ⟨SqL.of yx,zr rfl ?_⟩⟩
     rw [e,zU,yr]
     have s0:=s69.trans (s5.trans (yy (o:=HO.lst (((((ms.drop c).map (·.2)).map λx=>openB (at38 x r.2.w))).map V.bl)) hlc))
     have ho:open1 (ps.map (·.2)) (ms.map (·.2)) r.2 true=((ms.drop c).map (·.2)).all (id ∘ λx=>openB (at38 x r.2.w)):=by unfold open1;rw [hc,<- List.map_drop];simp
     rw [ho] at eqk
     cases e2:((ms.drop c).map (·.2)).all (id ∘ λx=>openB (at38 x r.2.w)) with
     | true=>exact iteB0 rfl ⟨⟨_,_,_,_,rfl⟩,by rw [e2,zQ] at eqk;exact eqk,s0⟩
     | false=>
      refine iteB1 rfl ?_
      have z:=q _ s0
      rw [e2] at eqk
      rw [<-eqk] at z
      exact z
  ·rintro σ H6 ⟨⟨v4,v5,v6,v7,rfl⟩,eqk,sm⟩
   have e:(ls.map λa=>V.ref a.1).length=(ls.map (·.2)).length:=by rw [zA,zA]
   rw [e,yn] at eqk
   have z:=q _ sm
   rwa [<-eqk] at z
theorem De:FnScope ["book", "marks", "stretch", "mark", "following"] ["book", "marks"] (defScope Cu):=⟨rfl,rfl,rfl,by decide +kernel,rfl,by decide +kernel,by decide +kernel⟩
theorem Fo (T:Tx K mg a):FnOk P w K mg base CX0 2 a.AI a.Bo ["book", "marks"] (spGoes):=by
 have Ct:=Dq P w base T
 have DW:=Fa P w base T
 refine T.A3.ok De (λvs H Q E h=>?_) (λcdv A outer s H vs Q E hr h=>?_)
 ·obtain ⟨_,_,_,_,_,_,_,_,_,_,_,_,_,_,_,rfl,_⟩:=h;rfl
 ·have nd:=De.nd
  have hu:=hr.units
  obtain ⟨b,ll,lw,rooms,tr,tm,ps,ls,ws,lg,lt,lm,gs,ts,ms,rfl,co,ok,q⟩:=h
  refine ⟨_,(@xD _ _ _ (@xQ _ _ _ _ _ _ (xm PassesOwn.never rfl (xq rfl T.b_range (@yu _ _ _ (@yw _ _ _ _ _ (xF (xJ rfl) (by rfl) T.b_len PySem.boot_len (@yu _ _ _ (@yw _ _ _ _ _ (@xG _ _ _ _ _ _ _ (xK rfl) (pv 0) yt (λ_ _=>rfl)) xB rfl))) xB rfl))) (xA (i:=2) nd rfl rfl) (@xD _ _ _ (@xS _ _ _ (xm PassesOwn.never rfl (wR rfl rfl T.b_zip (@yu _ _ _ (@yw _ _ _ _ _ (@xG _ _ _ _ _ _ _ (xI rfl) (pv 1) (pv 2) (λ_ _=>rfl)) (@yw _ _ _ _ _ (@xG _ _ _ _ _ _ _ (xI rfl) (pv 1) (@xM _ _ _ _ _ _ _ _ xU (pv 2) yt) (λ_ _=>rfl)) xB rfl) rfl))) (xZ (n:=2) rfl rfl (xE (xA (i:=3) nd rfl rfl) (xE (xA (i:=4) nd rfl rfl) xY))) (@xD _ _ _ (@xS _ _ _ (@xW _ _ _ _ _ _ _ _ (@PW.pt _ _ _ (@wI _ _ _ _ _ _ _ (xV (xC Ct (hr.mono (by decide)) rfl T.D7 T.Ed T.Ej .nil pass0 (@yu _ _ _ (@yw _ _ _ _ _ (pv 3) xB rfl)))) (@wC _ _ _ _ (@xh _ _ _ _ (xV (xC DW (hr.mono (by decide)) rfl T.FP T.FT T.FX .nil pass0 (@yu _ _ _ (@yw _ _ _ _ _ (pv 4) xB rfl)))))))) (@xD _ _ _ (@xS _ _ _ (@xN _ _ _ _ wB))) xO))))))) (@xS _ _ _ (@xN _ _ _ _ wB)))),?_⟩
  have line:=line9
  have o1:=ok.r12
  have o2:=ok.m60
  have o3:=ok.l
  have o4:=ok.w
  have o5:=ok.lg
  have o6:=ok.lt
  have o7:=ok.lm
  refine (zr rfl (ixt co.b.book rfl ⟨tm,zr rfl ⟨.inr (SqT.of co.b.meets),?_⟩⟩))
  rw [zA]
  refine (zr rfl ⟨by omega,by omega,?_⟩)
  refine xy (lo:=0) (n:=ps.length) (λi σ H6=>(∃ v2 v3 v4,σ=[some (.ref b),some (.ref lm),v2,v3,v4])/\((List.range ps.length).drop i).all (goesK (ms.map (·.2)))=goesF ps.length (ms.map (·.2))/\Same H H6) ⟨⟨_,_,_,rfl⟩,rfl,Same.refl _⟩ ?_ ?_
  ·rintro i σ H6 hi ⟨⟨v2,v3,v4,rfl⟩,eqk,sm⟩
   rw [all_drop (l:=List.range ps.length) (x:=i) (by rw [List.getElem?_range hi])] at eqk
   obtain ⟨r,hr⟩:∃ r,ms[i]?=some r:=⟨_,zG (by omega)⟩
   obtain ⟨r2,hr2⟩:∃ r,ms[i + 1]?=some r:=⟨_,zG (by omega)⟩
   rw [goesK_at (xT hr) (xT hr2)] at eqk
   have c6:=co.same sm
   have k1:=c6.rows r (zB hr)
   have k2:=c6.rows r2 (zB hr2)
   have l1:=ok.rows r (zB hr)
   have l2:=ok.rows r2 (zB hr2)
   refine (zr rfl (zr rfl (ixl c6.m (by rw [zu];exact xb (v:=V.ref r.1) (by rw [zJ,hr];rfl)) (zr rfl (zr rfl (zr2 rfl rfl (ixl c6.m (by rw [zu];exact xb (j:=i + 1) (v:=V.ref r2.1) (by rw [zJ,hr2];rfl)) ⟨r.1,r2.1,rfl,⟨_,SqL.of k1⟩,⟨_,SqL.of k2⟩,?_⟩)))))))
   refine wk (K:=K) (a:=r.1) (b:=r2.1) (xs:=r.2.map V.int) (ys:=r2.2.map V.int) (by rw [zA,zA,l1,l2]) (λj σ H8=>(∃ v3 v4,σ=[some (.ref b),some (.ref lm),some (.int (0 + (i:Int))),v3,v4])/\goes1 (r.2.drop j) (r2.2.drop j)=goes1 r.2 r2.2/\Same H H8) ⟨⟨_,_,rfl⟩,rfl,sm⟩ ?_ ?_ ?_
   ·rintro j σ H8 _ ⟨_,_,s8⟩
    exact ⟨SqL.of (s8 _ _ (co.rows r (zB hr))),SqL.of (s8 _ _ (co.rows r2 (zB hr2)))⟩
   ·rintro j x2 y2 u σ H8 hx2 hy2 hu ⟨⟨v3,v4,rfl⟩,eq2,s8⟩
    obtain ⟨x,hx,rfl⟩:=xR hx2
    obtain ⟨y,hy,rfl⟩:=xR hy2
    have s9:=s8.trans (yy (o:=HO.tup [V.int x,V.int y]) hu)
    rw [wl hx,wl hy,goes1_cons] at eq2
    refine (un2 yx ?_)
    generalize upd H8 u (HO.tup [V.int x,V.int y])=H9 at s9 ⊢
    have nx:(!(openB x && !innB y))=true->goes1 (r.2.drop (j + 1)) (r2.2.drop (j + 1))=goes1 r.2 r2.2:=λe=>by rw [e,zQ] at eq2;exact eq2
    refine (zr rfl ⟨x,rfl,zr rfl ?_⟩)
    cases e1:openB x with
    | false=>exact iteB0 rfl (iteB0 rfl ⟨⟨_,_,rfl⟩,nx (by rw [e1];rfl),s9⟩)
    | true=>
     refine iteB1 rfl (zr rfl ⟨y,rfl,λH5 s5=>(zr rfl ?_)⟩)
     cases e2:innB y with
     | true=>exact iteB0 rfl ⟨⟨_,_,rfl⟩,nx (by rw [e1,e2];rfl),s9.trans s5⟩
     | false=>
      refine iteB1 rfl ?_
      have z:=q _ (s9.trans s5)
      rw [e1,e2] at eq2
      rw [<-eqk,<- eq2] at z
      exact z
   ·rintro σ H8 ⟨⟨v3,v4,rfl⟩,eq2,s8⟩
    have e:(r.2.map V.int).length=r.2.length:=zA _
    rw [e,yn] at eq2
    have e1:goes1 r.2 r2.2=true:=eq2.symm
    rw [e1,zQ] at eqk
    exact ⟨⟨_,_,_,rfl⟩,eqk,s8⟩
  ·rintro σ H6 ⟨⟨v2,v3,v4,rfl⟩,eqk,sm⟩
   have e:(List.range ps.length).drop ps.length=[]:=List.drop_eq_nil_of_le (by rw [List.length_range];exact zF _)
   rw [e] at eqk
   have z:=q _ sm
   rwa [<-eqk] at z
theorem Cq:FnScope ["book", "wants", "come", "marks", "walker", "last", "many", "truth", "behind"] ["book", "wants", "come", "marks"] (defScope wc):=⟨rfl,rfl,rfl,by decide +kernel,rfl,by decide +kernel,by decide +kernel⟩
theorem D3 (T:Tx K mg a):FnOk P w K mg base CX0 2 a.Ak a.AF ["book", "wants", "come", "marks"] (spCome38):=by
 have Ez:=Fb P w base T
 have DW:=Fa P w base T
 refine T.Au.ok Cq (λvs H Q E h=>?_) (λcdv A outer s H vs Q E hr h=>?_)
 ·obtain ⟨_,_,_,_,_,_,_,_,_,_,_,_,_,_,_,rfl,_⟩:=h;rfl
 ·have nd:=Cq.nd
  have hu:=hr.units
  obtain ⟨b,ll,lw,rooms,tr,tm,ps,ls,ws,lg,lt,lm,gs,ts,ms,rfl,co,ok,q⟩:=h
  refine ⟨_,(@xD _ _ _ (@xQ _ _ _ _ _ _ (xm PassesOwn.never rfl (wR rfl rfl T.b_zip (@yu _ _ _ (@yw _ _ _ _ _ (pv 1) (@yw _ _ _ _ _ (pv 2) xB rfl) rfl))) (xZ (n:=2) rfl rfl (xE (xZ (n:=3) rfl rfl (xE (xA (i:=4) nd rfl rfl) (xE (xA (i:=5) nd rfl rfl) (xE (xA (i:=6) nd rfl rfl) xY)))) (xE (xA (i:=7) nd rfl rfl) xY))) (@xD _ _ _ (@xQ _ _ _ _ _ _ (xL (i:=8) nd rfl rfl (@wK _ _ _ _ _ _ _ _ _ _ (wN rfl) (pv 3) (@wQ _ _ _ yt) (@wQ _ _ _ (@xM _ _ _ _ _ _ _ _ xU (xC Ez (hr.mono (by decide)) rfl T.FA T.FC T.FE .nil pass0 (@yu _ _ _ (@yw _ _ _ _ _ (pv 0) (@yw _ _ _ _ _ (pv 5) xB rfl) rfl))) yt)))) (@xS _ _ _ (@xW _ _ _ _ _ _ _ _ (@PW.pt _ _ _ (@wI _ _ _ _ _ _ _ (@xh _ _ _ _ (xV (pv 7))) (@wC _ _ _ _ (xV (xF (call_any rfl rfl) (by rfl) T.b_any PyProof.Rows.boot_any (@yu _ _ _ (@yw _ _ _ _ _ (xt (own:=["row"]) (caps:=[4]) rfl (show CompScope ["row"] [4] ["book", "wants", "come", "marks", "walker", "last", "many", "truth", "behind"] (defScope wc) _ from ⟨rfl,by decide +kernel,by decide +kernel,by decide +kernel,by decide +kernel⟩) (@xp _ _ _ _ _ rfl (pv 8)) (λ_ _ _ _=>(xA (i:=0) (show List.Nodup (["row", "walker"]:List Str) from by decide +kernel) rfl rfl)) (λ_ _ _ _=>wH) (λ_ _ _ _=>(xC DW (hr.mono (by decide)) rfl T.FP T.FT T.FX .nil pass0 (@yu _ _ _ (@yw _ _ _ _ _ (@xG _ _ _ _ _ _ _ (xI rfl) (pv 0) (pv 1) (λ_ _=>rfl)) xB rfl))))) xB rfl))))))) (@xD _ _ _ (@xS _ _ _ (@xN _ _ _ _ wB))) xO))))) (@xS _ _ _ (@xN _ _ _ _ wB)))),?_⟩
  have line:=line9
  have o1:=ok.r12
  have o2:=ok.m60
  have o3:=ok.l
  have o4:=ok.w
  have o5:=ok.lg
  have o6:=ok.lt
  have o7:=ok.lm
  refine (zr rfl (zr rfl ⟨lw,lt,rfl,⟨_,SqL.of co.w.l⟩,⟨_,SqL.of co.t⟩,?_⟩))
  refine wk (K:=K) (a:=lw) (b:=lt) (xs:=ws.map λa=>V.ref a.1) (ys:=ts.map V.bl) (by rw [zA,zA,o6]) (λi σ H6=>(∃ v4 v5 v6 v7 v8,σ=[some (.ref b),some (.ref lw),some (.ref lt),some (.ref lm),v4,v5,v6,v7,v8])/\comeF (ps.map (·.2)) ((ws.map (·.2)).drop i) (ts.drop i) (ms.map (·.2))=comeF (ps.map (·.2)) (ws.map (·.2)) ts (ms.map (·.2))/\Same H H6) ⟨⟨_,_,_,_,_,rfl⟩,rfl,Same.refl _⟩ ?_ ?_ ?_
  ·rintro i σ H6 _ ⟨_,_,sm⟩
   exact ⟨SqL.of (sm _ _ co.w.l),SqL.of (sm _ _ co.t)⟩
  ·rintro i x1 y1 z σ H6 hx1 hy1 hz ⟨⟨v4,v5,v6,v7,v8,rfl⟩,eqk,sm⟩
   obtain ⟨r,hr,rfl⟩:=xR hx1
   obtain ⟨g,hg,rfl⟩:=xR hy1
   have s6:=sm.trans (yy (o:=HO.tup [V.ref r.1,V.bl g]) hz)
   rw [wl (xT hr),wl hg,comeF_cons] at eqk
   have mr:=zB hr
   obtain ⟨w0,w1⟩:=ok.ww r mr
   refine ⟨z,zr rfl ⟨SqT.of yx,rfl,zr1 rfl (un3 (s6 _ _ (co.w.each r mr)) (zr2 rfl rfl ?_))⟩⟩
   generalize upd H6 z (HO.tup [V.ref r.1,V.bl g])=H7 at s6 ⊢
   have c7:=co.same s6
   refine (zr rfl (zr rfl (zr rfl (zr rfl (ex6 b r.2.t rooms tr tm ps ⟨rfl,c7.b,by omega,λH8 s8=>(zr2 rfl rfl (zr rfl ?_))⟩)))))
   have c8:=c7.same s8
   have cl:cnt (ps.map (·.2)) r.2.t < ms.length:=by
    have:=zi (λx:M4=>decide (x.t<=r.2.t)) (ps.map (·.2))
    rw [zA] at this
    unfold cnt;omega
   refine ⟨lm,zr rfl ⟨SqL.of c8.m,λp hp=>?_⟩⟩
   rw [cut_refs1 cl]
   generalize hc:cnt (ps.map (·.2)) r.2.t=c at cl ⊢
   have s9:=yy (o:=HO.lst (((ms.drop 1).take c).map λa=>V.ref a.1)) hp
   have kp:upd H8 p (HO.lst (((ms.drop 1).take c).map λa=>V.ref a.1)) p=some (.lst (((ms.drop 1).take c).map λa=>V.ref a.1)):=yx
   generalize upd H8 p (HO.lst (((ms.drop 1).take c).map λa=>V.ref a.1))=H9 at s9 kp ⊢
   have c9:=c8.same s9
   have s69:=(s6.trans s8).trans s9
   cases g with
   | true=>
    rw [show come1 (ps.map (·.2)) (ms.map (·.2)) r.2 true=true from rfl,zQ] at eqk
    exact (zr rfl (zr rfl (iteB0 rfl (iteB0 rfl ⟨⟨_,_,_,_,_,rfl⟩,eqk,s69⟩))))
   | false=>
    refine (zr rfl (zr rfl (iteB1 rfl (zr rfl ⟨p,rfl,⟨_,SqL.of kp⟩,?_⟩))))
    refine xz (K:=K) (a:=p) (xs:=((ms.drop 1).take c).map λa=>V.ref a.1) (λj τ acc H5=>(∃ t0,τ=[t0,some (.int r.2.w)])/\acc=(((((ms.drop 1).take c).map (·.2)).take j).map λx=>innB (at38 x r.2.w)).map V.bl/\Same H9 H5) ⟨⟨_,rfl⟩,rfl,Same.refl _⟩ (by rw [zA,zT,yH];omega) ?_ ?_ ?_
    ·rintro j τ acc H5 ⟨_,rfl,s5⟩
     refine ⟨?_,SqL.of (s5 _ _ kp)⟩
     rw [zA,zA,zT];omega
    ·rintro j v τ acc H5 C hv ⟨⟨t0,rfl⟩,rfl,s5⟩ hC
     obtain ⟨x,hx,rfl⟩:=xR hv
     have mx:=yO (ye (zB hx))
     refine (zr rfl (zr rfl (ixl (s5 _ _ (c9.rows x mx)) (xu w0 (by rw [ok.rows x mx];exact w1)) (zr rfl (λH6 s6=>hC _ _ _ ⟨⟨_,rfl⟩,?_,s5.trans s6⟩)))))
     rw [xX (xT hx),zC,zC];rfl
    ·rintro τ acc H5 ⟨⟨t0,rfl⟩,rfl,s5⟩ lc hlc
     have e:(((ms.drop 1).take c).map λa=>V.ref a.1).length=(((ms.drop 1).take c).map (·.2)).length:=by rw [zA,zA]
     refine ⟨lc,zr rfl ⟨SqL.of yx,zr rfl ?_⟩⟩
     rw [e,zU,List.any_map]
     have s0:=s69.trans (s5.trans (yy (o:=HO.lst ((((((ms.drop 1).take c).map (·.2)).map λx=>innB (at38 x r.2.w))).map V.bl)) hlc))
     have ho:come1 (ps.map (·.2)) (ms.map (·.2)) r.2 false=!(((ms.drop 1).take c).map (·.2)).any (id ∘ λx=>innB (at38 x r.2.w)):=by
      unfold come1;rw [hc,List.drop_take,Nat.add_sub_cancel,<- List.map_drop,<- List.map_take];simp
     rw [ho] at eqk
     cases e2:(((ms.drop 1).take c).map (·.2)).any (id ∘ λx=>innB (at38 x r.2.w)) with
     | false=>exact iteB0 rfl ⟨⟨_,_,_,_,_,rfl⟩,by rw [e2,yX,zQ] at eqk;exact eqk,s0⟩
     | true=>
      refine iteB1 rfl ?_
      have z:=q _ s0
      rw [e2] at eqk
      rw [<-eqk] at z
      exact z
  ·rintro σ H6 ⟨⟨v4,v5,v6,v7,v8,rfl⟩,eqk,sm⟩
   have e:(ws.map λa=>V.ref a.1).length=(ws.map (·.2)).length:=by rw [zA,zA]
   rw [e,yn] at eqk
   have z:=q _ sm
   rwa [<-eqk] at z
theorem CQ:FnScope ["loads", "wants", "begun", "come", "load", "left", "want", "came"] ["loads", "wants", "begun", "come"] (defScope Cc):=⟨rfl,rfl,rfl,by decide +kernel,rfl,by decide +kernel,by decide +kernel⟩
theorem EN (T:Tx K mg a):FnOk P w K mg base CX0 2 a.At a.AT ["loads", "wants", "begun", "come"] (spOnce38):=by
 have Fz:=E9 P w base T
 refine T.AE.ok CQ (λvs H Q E h=>?_) (λcdv A outer s H vs Q E hr h=>?_)
 ·obtain ⟨_,_,_,_,_,_,_,_,_,_,_,_,_,_,_,rfl,_⟩:=h;rfl
 ·have nd:=CQ.nd
  have hu:=hr.units
  obtain ⟨b,ll,lw,rooms,tr,tm,ps,ls,ws,lg,lt,lm,gs,ts,ms,rfl,co,ok,q⟩:=h
  refine ⟨_,(@xD _ _ _ (@xQ _ _ _ _ _ _ (xm PassesOwn.never rfl (wR rfl rfl T.b_zip (@yu _ _ _ (@yw _ _ _ _ _ (pv 0) (@yw _ _ _ _ _ (pv 2) xB rfl) rfl))) (xZ (n:=2) rfl rfl (xE (xA (i:=4) nd rfl rfl) (xE (xA (i:=5) nd rfl rfl) xY))) (@xD _ _ _ (@xS _ _ _ (xm PassesOwn.never rfl (wR rfl rfl T.b_zip (@yu _ _ _ (@yw _ _ _ _ _ (pv 1) (@yw _ _ _ _ _ (pv 3) xB rfl) rfl))) (xZ (n:=2) rfl rfl (xE (xA (i:=6) nd rfl rfl) (xE (xA (i:=7) nd rfl rfl) xY))) (@xD _ _ _ (@xS _ _ _ (@xW _ _ _ _ _ _ _ _ (@PW.pt _ _ _ (@wI _ _ _ _ _ _ _ (xV (pv 5)) (@wI _ _ _ _ _ _ _ (@xh _ _ _ _ (xV (pv 7))) (@wC _ _ _ _ (xV (xC Fz (hr.mono (by decide)) rfl T.Fv T.Fw T.Fx .nil pass0 (@yu _ _ _ (@yw _ _ _ _ _ (pv 4) (@yw _ _ _ _ _ (pv 6) xB rfl) rfl)))))))) (@xD _ _ _ (@xS _ _ _ (@xN _ _ _ _ wB))) xO))))))) (@xS _ _ _ (@xN _ _ _ _ wB)))),?_⟩
  have line:=line9
  have o1:=ok.r12
  have o2:=ok.m60
  have o3:=ok.l
  have o4:=ok.w
  have o5:=ok.lg
  have o6:=ok.lt
  have o7:=ok.lm
  refine (zr rfl (zr rfl ⟨ll,lg,rfl,⟨_,SqL.of co.l.l⟩,⟨_,SqL.of co.g⟩,?_⟩))
  refine wk (K:=K) (a:=ll) (b:=lg) (xs:=ls.map λa=>V.ref a.1) (ys:=gs.map V.bl) (by rw [zA,zA,o5]) (λi σ H6=>(∃ v4 v5 v6 v7,σ=[some (.ref ll),some (.ref lw),some (.ref lg),some (.ref lt),v4,v5,v6,v7])/\onceF ((ls.map (·.2)).drop i) (ws.map (·.2)) (gs.drop i) ts=onceF (ls.map (·.2)) (ws.map (·.2)) gs ts/\Same H H6) ⟨⟨_,_,_,_,rfl⟩,rfl,Same.refl _⟩ ?_ ?_ ?_
  ·rintro i σ H6 _ ⟨_,_,sm⟩
   exact ⟨SqL.of (sm _ _ co.l.l),SqL.of (sm _ _ co.g)⟩
  ·rintro i x1 y1 z σ H6 hx1 hy1 hz ⟨⟨v4,v5,v6,v7,rfl⟩,eqk,sm⟩
   obtain ⟨r,hr,rfl⟩:=xR hx1
   obtain ⟨g,hg,rfl⟩:=xR hy1
   have s6:=sm.trans (yy (o:=HO.tup [V.ref r.1,V.bl g]) hz)
   rw [wl (xT hr),wl hg,onceF_cons] at eqk
   refine (un2 yx ?_)
   generalize upd H6 z (HO.tup [V.ref r.1,V.bl g])=H7 at s6 ⊢
   have c7:=co.same s6
   refine (zr rfl (zr rfl ⟨lw,lt,rfl,⟨_,SqL.of c7.w.l⟩,⟨_,SqL.of c7.t⟩,?_⟩))
   refine wk (K:=K) (a:=lw) (b:=lt) (xs:=ws.map λa=>V.ref a.1) (ys:=ts.map V.bl) (by rw [zA,zA,o6]) (λj σ H8=>(∃ v6 v7,σ=[some (.ref ll),some (.ref lw),some (.ref lg),some (.ref lt),some (.ref r.1),some (.bl g),v6,v7])/\once1 r.2 g ((ws.map (·.2)).drop j) (ts.drop j)=once1 r.2 g (ws.map (·.2)) ts/\Same H H8) ⟨⟨_,_,rfl⟩,rfl,s6⟩ ?_ ?_ ?_
   ·rintro j σ H8 _ ⟨_,_,s8⟩
    exact ⟨SqL.of (s8 _ _ co.w.l),SqL.of (s8 _ _ co.t)⟩
   ·rintro j x2 y2 u σ H8 hx2 hy2 hu ⟨⟨v6,v7,rfl⟩,eq2,s8⟩
    obtain ⟨w,hw,rfl⟩:=xR hx2
    obtain ⟨t,ht,rfl⟩:=xR hy2
    have s9:=s8.trans (yy (o:=HO.tup [V.ref w.1,V.bl t]) hu)
    rw [wl (xT hw),wl ht,once1_cons] at eq2
    refine (un2 yx ?_)
    generalize upd H8 u (HO.tup [V.ref w.1,V.bl t])=H9 at s9 ⊢
    have c9:=co.same s9
    have nx:(!(g && (!t && strB r.2 w.2)))=true->once1 r.2 g ((ws.map (·.2)).drop (j + 1)) (ts.drop (j + 1))=once1 r.2 g (ws.map (·.2)) ts:=λe=>by rw [e,zQ] at eq2;exact eq2
    cases g with
    | false=>exact (zr rfl (zr rfl (iteB0 rfl (iteB0 rfl ⟨⟨_,_,rfl⟩,nx rfl,s9⟩))))
    | true=>
     refine (zr rfl (zr rfl (iteB1 rfl ?_)))
     cases t with
     | true=>exact (zr rfl (zr rfl (iteB0 rfl (iteB0 rfl ⟨⟨_,_,rfl⟩,nx rfl,s9⟩))))
     | false=>
      refine (zr rfl (zr rfl (iteB1 rfl (zr rfl (zr rfl ⟨r.1,w.1,r.2,w.2,rfl,c9.l.each r (zB hr),c9.w.each w (zB hw),zr rfl ?_⟩)))))
      cases e:strB r.2 w.2 with
      | false=>exact iteB0 rfl ⟨⟨_,_,rfl⟩,nx (by rw [e];rfl),s9⟩
      | true=>
       refine iteB1 rfl ?_
       have z:=q _ s9
       rw [e] at eq2
       rw [<-eqk,<- eq2] at z
       exact z
   ·rintro σ H8 ⟨⟨v6,v7,rfl⟩,eq2,s8⟩
    have e:(ws.map λa=>V.ref a.1).length=(ws.map (·.2)).length:=by rw [zA,zA]
    rw [e,yn] at eq2
    have e1:once1 r.2 g (ws.map (·.2)) ts=true:=eq2.symm
    rw [e1,zQ] at eqk
    exact ⟨⟨_,_,_,_,rfl⟩,eqk,s8⟩
  ·rintro σ H6 ⟨⟨v4,v5,v6,v7,rfl⟩,eqk,sm⟩
   have e:(ls.map λa=>V.ref a.1).length=(ls.map (·.2)).length:=by rw [zA,zA]
   rw [e,yn] at eqk
   have z:=q _ sm
   rwa [<-eqk] at z
theorem Df:FnScope ["book", "marks"] ["book", "marks"] (defScope B3):=⟨rfl,rfl,rfl,by decide +kernel,rfl,by decide +kernel,by decide +kernel⟩
theorem Fp (T:Tx K mg a):FnOk P w K mg base CX0 1 a.AJ a.Bp ["book", "marks"] (spBagsW):=by
 refine T.A4.ok Df (λvs H Q E h=>?_) (λcdv A outer s H vs Q E hr h=>?_)
 ·obtain ⟨_,_,_,_,_,_,_,rfl,_⟩:=h;rfl
 ·have nd:=Df.nd
  have hu:=hr.units
  obtain ⟨b,lm,rooms,tr,tm,ps,ms,rfl,hb,hm,hr,m70,r12,q⟩:=h
  refine ⟨_,(@xD _ _ _ (@xS _ _ _ (@xN _ _ _ _ (xF (call_sumL rfl) (by rfl) T.b_sum yV (@yu _ _ _ (@yw _ _ _ _ _ (pe_comp2 (own:=["row", "mark", "room"]) (caps:=[0]) rfl (show CompScope ["row", "mark", "room"] [0] ["book", "marks"] (defScope B3) _ from ⟨rfl,by decide +kernel,by decide +kernel,by decide +kernel,by decide +kernel⟩) (@xp _ _ _ _ _ rfl (pv 1)) (λ_ _ _ _=>(xA (i:=0) (show List.Nodup (["row", "mark", "room", "book"]:List Str) from by decide +kernel) rfl rfl)) (λ_ _ _ _=>wH) (λ_ _ _ _=>(pv 2)) (λ_ _ _ _=>(pi_zipM rfl rfl T.b_zip (@yu _ _ _ (@yw _ _ _ _ _ (pv 0) (@yw _ _ _ _ _ (@xG _ _ _ _ _ _ _ (xK rfl) (pv 3) yt (λ_ _=>rfl)) xB rfl) rfl)))) (λ_ _ _ _=>(xZ (n:=2) rfl rfl (xE (xA (i:=1) (show List.Nodup (["row", "mark", "room", "book"]:List Str) from by decide +kernel) rfl rfl) (xE (xA (i:=2) (show List.Nodup (["row", "mark", "room", "book"]:List Str) from by decide +kernel) rfl rfl) xY)))) (λ_ _ _ _=>wX (@xP _ _ _ _ _ _ _ _ xw (pv 1) yt (nomark _)))) xB rfl)))))),?_⟩
  have line:=line9
  refine (zr rfl ⟨lm,rfl,⟨_,SqL.of hm⟩,?_⟩)
  have bl:∀ i,(bagsF rooms ((ms.map (·.2)).take i)).length<=840:=λi=>zk (bagsF_len _) (by
   have:((ms.map (·.2)).take i).length<=70:=by rw [zT,zA];omega
   exact zk (Nat.mul_le_mul this r12) (by decide))
  refine comp2_list (K:=K) (a:=lm) (xs:=ms.map λa=>V.ref a.1) (λi τ acc H5=>(∃ t0 t1 t2,τ=[t0,t1,t2,some (.ref b)])/\acc=(bagsF rooms ((ms.map (·.2)).take i)).map V.int/\Same H H5) ⟨⟨_,_,_,rfl⟩,rfl,Same.refl _⟩ ?_ ?_ ?_
  ·rintro i τ acc H5 ⟨_,rfl,sm⟩
   exact ⟨by rw [zA];have:=bl i;omega,SqL.of (sm _ _ hm)⟩
  ·rintro i v τ acc H5 D hv ⟨⟨t0,t1,t2,rfl⟩,rfl,sm⟩ hD
   obtain ⟨r,hrr,rfl⟩:=xR hv
   obtain ⟨kr,lr⟩:=hr r (zB hrr)
   have kr5:=sm _ _ kr
   have hb5:=hb.same sm
   refine (zr rfl (zr rfl (ixt hb5.book rfl ⟨r.1,tr,rfl,⟨_,SqL.of kr5⟩,⟨_,SqT.of hb5.rooms⟩,?_⟩)))
   have bi:=bl i
   refine in_zipM (K:=K) (a:=r.1) (b:=tr) (xs:=r.2.map V.int) (ys:=rooms.map V.int) (by rw [zA,zA,lr]) (λj τ acc H6=>(∃ t1 t2,τ=[some (.ref r.1),t1,t2,some (.ref b)])/\acc=(bagsF rooms ((ms.map (·.2)).take i)++(((r.2.zip rooms).take j).filter λp=>decide (p.1=1)).map (·.2)).map V.int/\Same H H6) ⟨⟨_,_,rfl⟩,by rw [List.take_zero,List.filter_nil,yZ,zz],sm⟩ ?_ ?_ ?_
   ·rintro j τ acc H6 ⟨_,rfl,s6⟩
    refine ⟨?_,SqL.of (s6 _ _ kr),SqT.of (s6 _ _ hb.rooms)⟩
    rw [zA,zK,zA]
    have z:=zi (λp:Int×Int=>decide (p.1=1)) ((r.2.zip rooms).take j)
    have z2:((r.2.zip rooms).take j).length<=12:=zk (List.length_take_le' _ _) (by rw [yG];omega)
    omega
   ·rintro j x y u τ acc H6 D2 hx hy hu ⟨⟨t1,t2,rfl⟩,rfl,s6⟩ hD2
    obtain ⟨a,ha,rfl⟩:=xR hx
    obtain ⟨c,hc,rfl⟩:=xR hy
    have s7:=s6.trans (yy (o:=HO.tup [V.int a,V.int c]) hu)
    have st:=xX (zip_at ha hc)
    refine (un2 yx (zr rfl ⟨rfl,zr rfl ?_⟩))
    by_cases e:a=1
    ·refine iteB1 (decide_eq_true (by rw [e])) (zr rfl (hD2 _ _ _ ⟨⟨_,_,rfl⟩,?_,s7⟩))
     rw [st,zZ]
     simp [e]
    ·refine iteB0 (decide_eq_false (λz=>e (V.int.inj z))) (hD2 _ _ _ ⟨⟨_,_,rfl⟩,?_,s7⟩)
     rw [st,zZ]
     simp [e]
   ·rintro τ acc H6 ⟨⟨t1,t2,rfl⟩,rfl,s6⟩
    refine hD _ _ _ ⟨⟨_,_,_,rfl⟩,?_,s6⟩
    have e:(List.map V.int r.2).length=(r.2.zip rooms).length:=by rw [zA,yG];omega
    rw [e,zU,bagsF_snoc (xT hrr)];rfl
  ·rintro τ acc H5 ⟨⟨t0,t1,t2,rfl⟩,rfl,sm⟩ lc hlc
   have e:(ms.map λa=>V.ref a.1).length=(ms.map (·.2)).length:=by rw [zA,zA]
   refine ⟨lc,zr rfl ⟨SqL.of yx,?_⟩⟩
   rw [e,zU]
   exact q _ (sm.trans (yy hlc))
theorem Cf:FnScope ["book", "marks", "worth", "number", "giver", "other", "when"] ["book", "marks"] (defScope BN):=⟨rfl,rfl,rfl,by decide +kernel,rfl,by decide +kernel,by decide +kernel⟩
theorem DF (T:Tx K mg a):FnOk P w K mg base CX0 2 a.Af a.Ay ["book", "marks"] (spMeetW):=by
 have HB:=Hr P w base T
 have Ct:=Dq P w base T
 have DW:=Fa P w base T
 refine T.An.ok Cf (λvs H Q E h=>?_) (λcdv A outer s H vs Q E hr h=>?_)
 ·obtain ⟨_,_,_,_,_,_,_,_,_,_,_,_,_,_,_,rfl,_⟩:=h;rfl
 ·have nd:=Cf.nd
  have hu:=hr.units
  obtain ⟨b,ll,lw,rooms,tr,tm,ps,ls,ws,lg,lt,lm,gs,ts,ms,rfl,co,ok,gd,q⟩:=h
  refine ⟨_,(@xD _ _ _ (@xQ _ _ _ _ _ _ (xL (i:=2) nd rfl rfl yt) (@xQ _ _ _ _ _ _ (xm PassesOwn.never rfl (@xp _ _ _ _ _ rfl (xC HB (hr.mono (by decide)) rfl T.Hv T.Hw T.Hy .nil pass0 (@yu _ _ _ (@yw _ _ _ _ _ (pv 0) xB rfl)))) (xZ (n:=4) rfl rfl (xE (xA (i:=3) nd rfl rfl) (xE (xA (i:=4) nd rfl rfl) (xE (xA (i:=5) nd rfl rfl) (xE (xA (i:=6) nd rfl rfl) xY))))) (@xD _ _ _ (@xS _ _ _ (@xW _ _ _ _ _ _ _ _ (@PW.pt _ _ _ (@wI _ _ _ _ _ _ _ (xV (xC Ct (hr.mono (by decide)) rfl T.D7 T.Ed T.Ej .nil pass0 (@yu _ _ _ (@yw _ _ _ _ _ (@xG _ _ _ _ _ _ _ (xI rfl) (@xG _ _ _ _ _ _ _ (xI rfl) (pv 1) (pv 3) (λ_ _=>rfl)) (pv 4) (λ_ _=>rfl)) xB rfl)))) (@wC _ _ _ _ (@xh _ _ _ _ (xV (xC DW (hr.mono (by decide)) rfl T.FP T.FT T.FX .nil pass0 (@yu _ _ _ (@yw _ _ _ _ _ (@xG _ _ _ _ _ _ _ (xI rfl) (@xG _ _ _ _ _ _ _ (xI rfl) (pv 1) (@xM _ _ _ _ _ _ _ _ xU (pv 3) yt) (λ_ _=>rfl)) (pv 5) (λ_ _=>rfl)) xB rfl)))))))) (@xD _ _ _ (@xS _ _ _ (ps_aug (i:=2) nd rfl rfl (@xG _ _ _ _ _ _ _ (xK rfl) (@xG _ _ _ _ _ _ _ (xK rfl) (@xG _ _ _ _ _ _ _ (xK rfl) (pv 0) yt (λ_ _=>rfl)) (pv 3) (λ_ _=>rfl)) yt (λ_ _=>rfl)) ip_add))) xO)))) (@xS _ _ _ (@xN _ _ _ _ (pv 2)))))),?_⟩
  have line:=line9
  have o1:=ok.r12
  have o2:=ok.m60
  have o3:=ok.l
  have o4:=ok.w
  have o5:=ok.lg
  have o6:=ok.lt
  have o7:=ok.lm
  refine (zr rfl (ex5 b rooms tr tm ps ⟨rfl,co.b,gd,λl W H1 hl s1 kl kw ew=>⟨l,rfl,⟨_,SqL.of kl⟩,?_⟩⟩))
  have c1:=co.same s1
  refine for_list (K:=K) (a:=l) (xs:=W.map λa=>V.ref a.1) (λi σ H6=>(∃ y v3 v4 v5 v6,σ=[some (.ref b),some (.ref lm),some (.int y),v3,v4,v5,v6]/\y=(((W.map (·.2)).take i).map (crossV (ps.map (·.2)) (ms.map (·.2)))).sum)/\Same H1 H6) ⟨⟨_,_,_,zr1 rfl rfl⟩,Same.refl _⟩ ?_ ?_ ?_
  ·rintro i σ H6 _ ⟨_,s6⟩
   exact SqL.of (s6 _ _ kl)
  ·rintro i v σ H6 hv ⟨⟨y,v3,v4,v5,v6,rfl,ey⟩,s6⟩
   obtain ⟨z,hz,rfl⟩:=xR hv
   have mz:=zB hz
   have c6:=c1.same s6
   have lk:=waysN_link (x:=z.2) (i:=ps.length) (by rw [<-ew];exact List.mem_map_of_mem mz)
   refine (un4 (s6 _ _ (kw z mz)) ?_)
   obtain ⟨m,hm,_,e2⟩:=lk
   rw [zJ] at hm
   obtain ⟨x,hx,rfl⟩:=Option.map_eq_some_iff.mp hm
   have hm:=xT hx
   obtain ⟨a1,a2,a3,_⟩:=gd.at (zB hx)
   have hn:=(zH.mp hx).1
   obtain ⟨r,hr⟩:∃ r,ms[z.2.n]?=some r:=⟨_,zG (by omega)⟩
   obtain ⟨r2,hr2⟩:∃ r,ms[z.2.n + 1]?=some r:=⟨_,zG (by omega)⟩
   have mr:=zB hr
   have mr2:=zB hr2
   have g0:z.2.w.g < rooms.length/\z.2.w.o < rooms.length:=ends38 a1 a2 a3 e2
   have cv:crossV (ps.map (·.2)) (ms.map (·.2)) z.2=if openB (at38 r.2 z.2.w.g) && !innB (at38 r2.2 z.2.w.o) then x.2.m else 0:=by
    unfold crossV;rw [getD_at (xT hr),getD_at (xT hr2),getD_at (l:=(ps.map (·.2)).map (·.m)) (x:=x.2.m) (by rw [zJ,hm];rfl)]
   have st:=xX (xT hz)
   refine (zr rfl (zr rfl (ixl c6.m (xb (v:=V.ref r.1) (by rw [zJ,hr];rfl)) (zr rfl (ixl (c6.rows r mr) (xu (yc _) (by rw [ok.rows r mr];omega)) (zr rfl (zr rfl ?_)))))))
   cases e3:openB (at38 r.2 z.2.w.g) with
   | false=>
    refine iteB0 rfl (iteB0 rfl ⟨⟨_,_,_,zr1 rfl ?_⟩,s6⟩)
    rw [st,zC,zt,yZ,yj,cv,e3,<- ey]
    simp
   | true=>
    refine iteB1 rfl (zr rfl (zr rfl (zr2 rfl rfl (ixl c6.m (xb (j:=z.2.n + 1) (v:=V.ref r2.1) (by rw [zJ,hr2];rfl)) (zr rfl (ixl (c6.rows r2 mr2) (xu (yc _) (by rw [ok.rows r2 mr2];omega)) (zr rfl (λH7 s7=>(zr rfl ?_)))))))))
    have c7:=c6.same s7
    cases e4:innB (at38 r2.2 z.2.w.o) with
    | true=>
     refine iteB0 rfl ⟨⟨_,_,_,zr1 rfl ?_⟩,s6.trans s7⟩
     rw [st,zC,zt,yZ,yj,cv,e3,e4,<- ey]
     simp
    | false=>
     refine iteB1 rfl ?_
     refine (zr rfl (zr rfl (ixt c7.b.book rfl (zr rfl (ixt c7.b.meets (xb (v:=V.ref x.1) (by rw [zJ,hx];rfl)) (ixt (c7.b.rows x (zB hx)) rfl (zr2 rfl rfl ⟨⟨_,_,_,zr1 rfl ?_⟩,s6.trans s7⟩)))))))
     rw [st,zC,zt,yZ,yj,cv,e3,e4,<- ey]
     simp
  ·rintro σ H6 ⟨⟨y,v3,v4,v5,v6,rfl,rfl⟩,s6⟩
   have e:(W.map λa=>V.ref a.1).length=(W.map (·.2)).length:=by rw [zA,zA]
   rw [e,zU,ew]
   have z:=q _ (s1.trans s6)
   unfold meetF at z
   rw [zA] at z
   exact (zr rfl z)
theorem Dx:FnScope ["book", "loads", "wants", "thing", "begun", "come", "marks", "worth"] ["book", "loads", "wants", "thing"] (defScope BZ):=⟨rfl,rfl,rfl,by decide +kernel,rfl,by decide +kernel,by decide +kernel⟩
theorem DG (T:Tx K mg a):FnOk P w K mg base CX0 5 a.AV a.BA ["book", "loads", "wants", "thing"] (spCutW):=by
 have Fl:=EM P w base T
 have EA:=DH P w base T
 have Gc:=Fo P w base T
 have E3:=D3 P w base T
 have Fm:=EN P w base T
 have Gd:=Fp P w base T
 have Ey:=DF P w base T
 refine T.Bg.ok Dx (λvs H Q E h=>?_) (λcdv A outer s H vs Q E hr h=>?_)
 ·obtain ⟨_,_,_,_,_,_,_,_,_,_,rfl,_⟩:=h;rfl
 ·have nd:=Dx.nd
  have hu:=hr.units
  obtain ⟨b,ll,lw,v,rooms,tr,tm,ps,ls,ws,rfl,hb,gd,r12,hl,hw,l100,w100,lr,wr,dt,q0,q1⟩:=h
  refine ⟨_,(@xD _ _ _ (@xQ _ _ _ _ _ _ (@xW _ _ _ _ _ _ _ _ (@xh _ _ _ _ (xV (xC Fl (hr.mono (by decide)) rfl T.Fd T.Ff T.Fh .nil pass0 (@yu _ _ _ (@yw _ _ _ _ _ (pv 0) (@yw _ _ _ _ _ (pv 1) (@yw _ _ _ _ _ (pv 2) (@yw _ _ _ _ _ (pv 3) xB rfl) rfl) rfl) rfl))))) (@xD _ _ _ (@xS _ _ _ (@xN _ _ _ _ pe_non))) xO) (@xQ _ _ _ _ _ _ (ps_asg (pv 3) (xZ (n:=3) rfl rfl (xE (xA (i:=4) nd rfl rfl) (xE (xA (i:=5) nd rfl rfl) (xE (xA (i:=6) nd rfl rfl) xY))))) (@xQ _ _ _ _ _ _ (@xW _ _ _ _ _ _ _ _ (@PW.pt _ _ _ (@pw_or _ _ _ _ _ _ _ (@xh _ _ _ _ (xV (xC EA (hr.mono (by decide)) rfl T.D8 T.Ee T.Ek .nil pass0 (@yu _ _ _ (@yw _ _ _ _ _ (pv 0) (@yw _ _ _ _ _ (pv 1) (@yw _ _ _ _ _ (pv 4) (@yw _ _ _ _ _ (pv 6) xB rfl) rfl) rfl) rfl))))) (@wf _ _ _ _ (@xh _ _ _ _ (xV (xC Gc (hr.mono (by decide)) rfl T.FQ T.FU T.FY .nil pass0 (@yu _ _ _ (@yw _ _ _ _ _ (pv 0) (@yw _ _ _ _ _ (pv 6) xB rfl) rfl)))))))) (@xD _ _ _ (@xS _ _ _ (@xN _ _ _ _ pe_non))) xO) (@xQ _ _ _ _ _ _ (@xW _ _ _ _ _ _ _ _ (@PW.pt _ _ _ (@pw_or _ _ _ _ _ _ _ (@xh _ _ _ _ (xV (xC E3 (hr.mono (by decide)) rfl T.EO T.ES T.EV .nil pass0 (@yu _ _ _ (@yw _ _ _ _ _ (pv 0) (@yw _ _ _ _ _ (pv 2) (@yw _ _ _ _ _ (pv 5) (@yw _ _ _ _ _ (pv 6) xB rfl) rfl) rfl) rfl))))) (@wf _ _ _ _ (@xh _ _ _ _ (xV (xC Fm (hr.mono (by decide)) rfl T.Fe T.Fg T.Fi .nil pass0 (@yu _ _ _ (@yw _ _ _ _ _ (pv 1) (@yw _ _ _ _ _ (pv 2) (@yw _ _ _ _ _ (pv 4) (@yw _ _ _ _ _ (pv 5) xB rfl) rfl) rfl) rfl)))))))) (@xD _ _ _ (@xS _ _ _ (@xN _ _ _ _ pe_non))) xO) (@xQ _ _ _ _ _ _ (xL (i:=7) nd rfl rfl (xF (call_sumL rfl) (by rfl) T.b_sum yV (@yu _ _ _ (@yw _ _ _ _ _ (xt (own:=["load", "truth"]) (caps:=[]) rfl (show CompScope ["load", "truth"] [] ["book", "loads", "wants", "thing", "begun", "come", "marks", "worth"] (defScope BZ) _ from ⟨rfl,by decide +kernel,by decide +kernel,by decide +kernel,by decide +kernel⟩) (wR rfl rfl T.b_zip (@yu _ _ _ (@yw _ _ _ _ _ (pv 1) (@yw _ _ _ _ _ (pv 4) xB rfl) rfl))) (λ_ _ _ _=>(xZ (n:=2) rfl rfl (xE (xA (i:=0) (show List.Nodup (["load", "truth"]:List Str) from by decide +kernel) rfl rfl) (xE (xA (i:=1) (show List.Nodup (["load", "truth"]:List Str) from by decide +kernel) rfl rfl) xY)))) (λ_ _ _ _=>wX (@xh _ _ _ _ (xV (pv 1)))) (λ_ _ _ _=>(@xG _ _ _ _ _ _ _ (xK rfl) (pv 0) yt (λ_ _=>rfl)))) xB rfl)))) (@xQ _ _ _ _ _ _ (ps_aug (i:=7) nd rfl rfl (xF (call_sumL rfl) (by rfl) T.b_sum yV (@yu _ _ _ (@yw _ _ _ _ _ (xt (own:=["want", "truth"]) (caps:=[]) rfl (show CompScope ["want", "truth"] [] ["book", "loads", "wants", "thing", "begun", "come", "marks", "worth"] (defScope BZ) _ from ⟨rfl,by decide +kernel,by decide +kernel,by decide +kernel,by decide +kernel⟩) (wR rfl rfl T.b_zip (@yu _ _ _ (@yw _ _ _ _ _ (pv 2) (@yw _ _ _ _ _ (pv 5) xB rfl) rfl))) (λ_ _ _ _=>(xZ (n:=2) rfl rfl (xE (xA (i:=0) (show List.Nodup (["want", "truth"]:List Str) from by decide +kernel) rfl rfl) (xE (xA (i:=1) (show List.Nodup (["want", "truth"]:List Str) from by decide +kernel) rfl rfl) xY)))) (λ_ _ _ _=>wX (xV (pv 1))) (λ_ _ _ _=>(@xG _ _ _ _ _ _ _ (xK rfl) (pv 0) yt (λ_ _=>rfl)))) xB rfl))) ip_add) (@xS _ _ _ (@xN _ _ _ _ (@xM _ _ _ _ _ _ _ _ xU (@xM _ _ _ _ _ _ _ _ xU (pv 7) (xC Gd (hr.mono (by decide)) rfl T.FR T.FV T.FZ .nil pass0 (@yu _ _ _ (@yw _ _ _ _ _ (pv 0) (@yw _ _ _ _ _ (pv 6) xB rfl) rfl)))) (xC Ey (hr.mono (by decide)) rfl T.D6 T.Ec T.Ei .nil pass0 (@yu _ _ _ (@yw _ _ _ _ _ (pv 0) (@yw _ _ _ _ _ (pv 6) xB rfl) rfl))))))))))))),?_⟩
  have line:=line9
  have m60:=gd.few
  rw [zA] at m60
  refine (zr rfl (zr rfl (zr rfl (zr rfl (ex10 b ll lw v rooms tr tm ps ls ws ⟨rfl,hb,hl,hw,l100,w100,by omega,by omega,dt,λH1 s1=>(zr rfl ?_)⟩)))))
  cases ef:formV H ls.length ws.length (ps.length + 1) rooms.length v with
  | false=>exact iteB1 rfl (q0 ef _ s1)
  | true=>
  obtain ⟨c,lg,lt,lm,gs,ts,ms,rfl,kc,kg,eg,kt,et,km,em,er⟩:=formV_true ef
  have co:CutOf H b ll lw rooms tr tm ps ls ws lg lt lm gs ts ms:=⟨hb,hl,hw,kg,kt,km,λa ha=>(er a ha).1⟩
  have ok:CutOk rooms.length ps.length ls ws gs ts ms:=⟨r12,m60,l100,w100,eg,et,em,λa ha=>(er a ha).2.1,lr,wr⟩
  have q:=q1 c lg lt lm gs ts ms rfl kc co ok λa ha=>(er a ha).2.2
  refine iteB0 rfl (zr rfl (un3 (s1 _ _ kc) ?_))
  have nq:holdsF (ps.map (·.2)) (ls.map (·.2)) (ws.map (·.2)) gs ts (ms.map (·.2))=false->∀ H',Same H H'->Q .non H':=λe H' s=>by have z:=q H' s;rwa [e] at z
  unfold holdsF at nq
  rw [zA] at nq
  refine (zr rfl (zr rfl (zr rfl (zr rfl (ex15 b ll lw rooms tr tm ps ls ws lg lt lm gs ts ms ⟨rfl,co.same s1,ok,λH2 s2=>?_⟩)))))
  have s12:=s1.trans s2
  cases o1:openF (ps.map (·.2)) (ls.map (·.2)) gs (ms.map (·.2)) with
  | false=>exact (zr rfl (iteB1 rfl (nq (by rw [o1];rfl) _ s12)))
  | true=>
  refine (zr rfl (iteB0 rfl (zr rfl (zr rfl (ex15 b ll lw rooms tr tm ps ls ws lg lt lm gs ts ms ⟨rfl,co.same s12,ok,λH3 s3=>?_⟩)))))
  have s13:=s12.trans s3
  cases o2:goesF ps.length (ms.map (·.2)) with
  | false=>exact (zr rfl (iteB1 rfl (nq (by rw [o1,o2];rfl) _ s13)))
  | true=>
  refine (zr rfl (iteB0 rfl (zr rfl (zr rfl (zr rfl (zr rfl (ex15 b ll lw rooms tr tm ps ls ws lg lt lm gs ts ms ⟨rfl,co.same s13,ok,λH4 s4=>?_⟩)))))))
  have s14:=s13.trans s4
  cases o3:comeF (ps.map (·.2)) (ws.map (·.2)) ts (ms.map (·.2)) with
  | false=>exact (zr rfl (iteB1 rfl (nq (by rw [o1,o2,o3];rfl) _ s14)))
  | true=>
  refine (zr rfl (iteB0 rfl (zr rfl (zr rfl (zr rfl (zr rfl (ex15 b ll lw rooms tr tm ps ls ws lg lt lm gs ts ms ⟨rfl,co.same s14,ok,λH5 s5=>?_⟩)))))))
  have s15:=s14.trans s5
  cases o4:onceF (ls.map (·.2)) (ws.map (·.2)) gs ts with
  | false=>exact (zr rfl (iteB1 rfl (nq (by rw [o1,o2,o3,o4];rfl) _ s15)))
  | true=>
  have q:∀ H',Same H H'->Q (.int (worthC rooms (ps.map (·.2)) (ls.map (·.2)) (ws.map (·.2)) gs ts (ms.map (·.2)))) H':=λH' s=>by
   have z:=q H' s
   rwa [if_pos (by unfold holdsF;rw [zA,o1,o2,o3,o4];rfl)] at z
  have c5:=co.same s15
  refine (zr rfl (iteB0 rfl (zr rfl (zr rfl ⟨ll,lg,rfl,⟨_,SqL.of c5.l.l⟩,⟨_,SqL.of c5.g⟩,?_⟩))))
  refine comp_zipL (K:=K) (a:=ll) (b:=lg) (xs:=ls.map λa=>V.ref a.1) (ys:=gs.map V.bl) (by rw [zA,zA,eg]) (λi τ acc H6=>(∃ t0 t1,τ=[t0,t1])/\acc=(((((ls.map (·.2)).zip gs).take i).filter λp=>!p.2).map (·.1.m)).map V.int/\Same H5 H6) ⟨⟨_,_,rfl⟩,rfl,Same.refl _⟩ (by rw [zA];omega) ?_ ?_ ?_
  ·rintro i τ acc H6 ⟨_,rfl,sm⟩
   refine ⟨?_,SqL.of (sm _ _ c5.l.l),SqL.of (sm _ _ c5.g)⟩
   rw [zA,zA]
   exact zk (zi _ _) (by rw [zT];omega)
  ·rintro i x y z τ acc H6 C hx hy hz ⟨⟨t0,t1,rfl⟩,rfl,sm⟩ hC
   obtain ⟨r,hr,rfl⟩:=xR hx
   obtain ⟨g,hg,rfl⟩:=xR hy
   have sm6:=sm.trans (yy (o:=HO.tup [V.ref r.1,V.bl g]) hz)
   have st:=xX (zip_at (xT hr) hg)
   refine (un2 yx (zr rfl (zr rfl ?_)))
   cases g with
   | false=>exact iteB1 rfl (zr rfl (ixt (sm6 _ _ (c5.l.each r (zB hr))) rfl (hC _ _ _ ⟨⟨_,_,rfl⟩,by rw [st,zZ,zC,zC];rfl,sm6⟩)))
   | true=>exact iteB0 rfl (hC _ _ _ ⟨⟨_,_,rfl⟩,by rw [st,zZ,zC,zC];exact (zz _).symm,sm6⟩)
  rintro τ acc H6 ⟨⟨t0,t1,rfl⟩,rfl,s6⟩ lc hlc
  have e1:(ls.map λa=>V.ref a.1).length=((ls.map (·.2)).zip gs).length:=by rw [zA,yG,zA,eg];exact (yf _).symm
  rw [e1,zU]
  refine ⟨lc,zr rfl ⟨SqL.of yx,?_⟩⟩
  have s16:=s15.trans (s6.trans (yy (o:=HO.lst ((((((ls.map (·.2)).zip gs).filter λp=>!p.2).map (·.1.m)).map V.int))) hlc))
  generalize upd H6 lc _=H7 at s16 ⊢
  have c7:=co.same s16
  refine (zr rfl (zr rfl (zr rfl ⟨lw,lt,rfl,⟨_,SqL.of c7.w.l⟩,⟨_,SqL.of c7.t⟩,?_⟩)))
  refine comp_zipL (K:=K) (a:=lw) (b:=lt) (xs:=ws.map λa=>V.ref a.1) (ys:=ts.map V.bl) (by rw [zA,zA,et]) (λi τ acc H6=>(∃ t0 t1,τ=[t0,t1])/\acc=(((((ws.map (·.2)).zip ts).take i).filter λp=>p.2).map (·.1.m)).map V.int/\Same H7 H6) ⟨⟨_,_,rfl⟩,rfl,Same.refl _⟩ (by rw [zA];omega) ?_ ?_ ?_
  ·rintro i τ acc H6 ⟨_,rfl,sm⟩
   refine ⟨?_,SqL.of (sm _ _ c7.w.l),SqL.of (sm _ _ c7.t)⟩
   rw [zA,zA]
   exact zk (zi _ _) (by rw [zT];omega)
  ·rintro i x y z τ acc H6 C hx hy hz ⟨⟨t0,t1,rfl⟩,rfl,sm⟩ hC
   obtain ⟨r,hr,rfl⟩:=xR hx
   obtain ⟨g,hg,rfl⟩:=xR hy
   have sm6:=sm.trans (yy (o:=HO.tup [V.ref r.1,V.bl g]) hz)
   have st:=xX (zip_at (xT hr) hg)
   refine (un2 yx (zr rfl (zr rfl ?_)))
   cases g with
   | true=>exact iteB1 rfl (zr rfl (ixt (sm6 _ _ (c7.w.each r (zB hr))) rfl (hC _ _ _ ⟨⟨_,_,rfl⟩,by rw [st,zZ,zC,zC];rfl,sm6⟩)))
   | false=>exact iteB0 rfl (hC _ _ _ ⟨⟨_,_,rfl⟩,by rw [st,zZ,zC,zC];exact (zz _).symm,sm6⟩)
  rintro τ acc H6 ⟨⟨t0,t1,rfl⟩,rfl,s6⟩ lc hlc
  have e2:(ws.map λa=>V.ref a.1).length=((ws.map (·.2)).zip ts).length:=by rw [zA,yG,zA,et];exact (yf _).symm
  rw [e2,zU]
  refine ⟨lc,zr rfl ⟨SqL.of yx,?_⟩⟩
  have s17:=s16.trans (s6.trans (yy (o:=HO.lst ((((((ws.map (·.2)).zip ts).filter λp=>p.2).map (·.1.m)).map V.int))) hlc))
  generalize upd H6 lc _=H8 at s17 ⊢
  have c8:=co.same s17
  refine (zr2 rfl rfl (zr rfl (zr rfl (zr rfl (ex7 b lm rooms tr tm ps ms ⟨rfl,c8.b,c8.m,λa ha=>⟨c8.rows a ha,ok.rows a ha⟩,by omega,r12,λH9 s9=>(zr2 rfl rfl ?_)⟩)))))
  have c9:=c8.same s9
  refine (zr rfl (zr rfl (ex15 b ll lw rooms tr tm ps ls ws lg lt lm gs ts ms ⟨rfl,c9,ok,gd,λH0 s0=>(zr2 rfl rfl ?_)⟩)))
  exact q _ ((s17.trans s9).trans s0)
theorem DC:FnScope ["_law_purse_here", "_law_book_here", "_law_walkers", "_law_later", "_law_walker", "_law_many", "_law_mine", "_law_at"] ["_law_purse_here", "_law_book_here", "_law_walkers", "_law_later"] (defScope Cl):=⟨rfl,rfl,rfl,by decide +kernel,rfl,by decide +kernel,by decide +kernel⟩
theorem FM (T:Tx K mg a):FnOk P w K mg base CX0 4 a.A0 a.BF ["_law_purse_here", "_law_book_here", "_law_walkers", "_law_later"] (spSack36):=by
 have Aa:=xl P w base T
 have GS:=FK P w base T
 refine T.Bl.ok DC (λvs H Q E h=>?_) (λcdv A outer s H vs Q E hr h=>?_)
 ·obtain ⟨_,_,_,_,_,_,_,_,rfl,_⟩:=h;rfl
 ·have nd:=DC.nd
  have hu:=hr.units
  obtain ⟨p,b,j,rooms,tr,tm,ps,n,rfl,hj,hb,gd,n1,n2,hp,q⟩:=h
  refine ⟨_,(@xD _ _ _ (@xQ _ _ _ _ _ _ (xL (i:=4) nd rfl rfl (xC Aa (hr.mono (by decide)) rfl T.Ab T.Ac T.Ae .nil pass0 (@yu _ _ _ (@yw _ _ _ _ _ (pv 0) (@yw _ _ _ _ _ (pv 2) xB rfl) rfl)))) (@xQ _ _ _ _ _ _ (xL (i:=5) nd rfl rfl (@xM _ _ _ _ _ _ _ _ xU yt (xC Aa (hr.mono (by decide)) rfl T.Ab T.Ac T.Ae .nil pass0 (@yu _ _ _ (@yw _ _ _ _ _ (pv 0) (@yw _ _ _ _ _ yt xB rfl) rfl))))) (@xQ _ _ _ _ _ _ (@xW _ _ _ _ _ _ _ _ (@xP _ _ _ _ _ _ _ _ xw (xC Aa (hr.mono (by decide)) rfl T.Ab T.Ac T.Ae .nil pass0 (@yu _ _ _ (@yw _ _ _ _ _ (pv 0) (@yw _ _ _ _ _ yt xB rfl) rfl))) yt (nomark _)) (@xD _ _ _ (@xS _ _ _ (xL (i:=5) nd rfl rfl (@xM _ _ _ _ _ _ _ _ xU yt (xC Aa (hr.mono (by decide)) rfl T.Ab T.Ac T.Ae .nil pass0 (@yu _ _ _ (@yw _ _ _ _ _ (pv 0) (@yw _ _ _ _ _ yt xB rfl) rfl))))))) xO) (@xQ _ _ _ _ _ _ (ps_setComp (ix:=6) nd rfl rfl (own:=["_law_meeting"]) (caps:=[4]) rfl (show CompScope ["_law_meeting"] [4] ["_law_purse_here", "_law_book_here", "_law_walkers", "_law_later", "_law_walker", "_law_many", "_law_mine", "_law_at"] (defScope Cl) _ from ⟨rfl,by decide +kernel,by decide +kernel,by decide +kernel,by decide +kernel⟩) (@pi_tup'' _ _ _ _ _ rfl (@xG _ _ _ _ _ _ _ (xK rfl) (pv 1) yt (λ_ _=>rfl))) (λ_ _ _ _=>(xA (i:=0) (show List.Nodup (["_law_meeting", "_law_walker"]:List Str) from by decide +kernel) rfl rfl)) (λ_ _ _ _=>wX (@xP _ _ _ _ _ _ _ _ (op_in_seq' rfl) (pv 1) (@wK _ _ _ _ _ _ _ _ _ _ (sl_tup' rfl) (pv 0) wW (@wQ _ _ _ yt)) rfl)) (λ_ _ _ _=>(@xG _ _ _ _ _ _ _ (xK rfl) (pv 0) yt (λ_ _=>rfl)))) (@xQ _ _ _ _ _ _ (xL (i:=7) nd rfl rfl (xC GS (hr.mono (by decide)) rfl T.Gm T.Gv T.GC .nil pass0 (@yu _ _ _ (@yw _ _ _ _ _ (pv 0) (@yw _ _ _ _ _ (pv 1) (@yw _ _ _ _ _ (pv 3) xB rfl) rfl) rfl)))) (@xQ _ _ _ _ _ _ (@xW _ _ _ _ _ _ _ _ (@PW.pt _ _ _ (@wI _ _ _ _ _ _ _ (@xP _ _ _ _ _ _ _ _ (op_neNil hu) (pv 6) (@xa _ _ _ _ wd) (nomark _)) (@wC _ _ _ _ (@xP _ _ _ _ _ _ _ _ xw (xC Aa (hr.mono (by decide)) rfl T.Ab T.Ac T.Ae .nil pass0 (@yu _ _ _ (@yw _ _ _ _ _ (pv 0) (@yw _ _ _ _ _ yt xB rfl) rfl))) yt (nomark _))))) (@xD _ _ _ (@xS _ _ _ (xL (i:=7) nd rfl rfl (@xM _ _ _ _ _ _ _ _ op_sub (@xG _ _ _ _ _ _ _ (xI rfl) (pv 6) (xC Aa (hr.mono (by decide)) rfl T.Ab T.Ac T.Ae .nil pass0 (@yu _ _ _ (@yw _ _ _ _ _ (pv 0) (@yw _ _ _ _ _ (xF (xJ rfl) (by rfl) T.b_len PySem.boot_len (@yu _ _ _ (@yw _ _ _ _ _ (pv 6) xB rfl))) xB rfl) rfl))) (λ_ _=>rfl)) (xC Aa (hr.mono (by decide)) rfl T.Ab T.Ac T.Ae .nil pass0 (@yu _ _ _ (@yw _ _ _ _ _ (pv 0) (@yw _ _ _ _ _ yt xB rfl) rfl))))))) xO) (@xS _ _ _ (@xN _ _ _ _ (@wJ _ _ _ _ _ (@yu _ _ _ (@yw _ _ _ _ _ (pv 4) (@yw _ _ _ _ _ (pv 7) (@yw _ _ _ _ _ (pv 5) xB rfl) rfl) rfl)))))))))))),?_⟩
  have line:=line9
  have e200:(2:Int) ^ 200 > 10000:=by decide
  have l60:=gd.len
  refine (zr rfl (zr rfl ⟨p,zr rfl ⟨by omega,by omega,hp,λw0 H1 w00 w01 g1=>?_⟩⟩))
  refine (zr rfl ⟨p,zr rfl ⟨by decide,by decide,g1.2,λd H2 d0 d1 g2=>(zr2 rfl rfl ?_)⟩⟩)
  have g02:=g1.trans g2
  refine (zr rfl ⟨p,zr rfl ⟨by decide,by decide,g2.2,λe H3 e0 e1 g3=>⟨rfl,zr rfl ?_⟩⟩⟩)
  have g03:=g02.trans g3
  refine iteN (fun σ H'=>∃ m,σ=[some (.ref p),some (.ref b),some (.int n),some (.int j),some (.int w0),some (.int m),none,none]/\1<=m/\m<=99/\Go p H H') ?_ (λc k=>?_) (λc=>(zr rfl ⟨by omega,by omega,g03⟩))
  rotate_left
  ·exact (zr rfl ⟨p,zr rfl ⟨by decide,by decide,g3.2,λf H4 f0 f1 g4=>(zr2 rfl rfl (k _ _ (zr rfl ⟨by omega,by omega,g03.trans g4⟩)))⟩⟩)
  rintro σ H4 ⟨m,rfl,m1,m99,g4⟩
  have hb4:=hb.tups (g4.tups hp)
  refine (zr rfl (ixt hb4.book rfl ⟨tm,rfl,⟨_,SqT.of hb4.meets⟩,?_⟩))
  refine comp_tup (K:=K) (a:=tm) (xs:=ps.map λa=>V.ref a.1) (λi τ acc H5=>∃ ts:List Int,(∃ t0,τ=[t0,some (.int w0)])/\acc=ts.map V.int/\ts.length<=i/\Same H4 H5) ⟨[],⟨_,rfl⟩,rfl,zF _,Same.refl _⟩ (by rw [zA];omega) ?_ ?_ ?_
  ·rintro i τ acc H5 ⟨ts,_,rfl,lt,sm⟩
   exact ⟨by rw [zA];exact lt,SqT.of (sm _ _ hb4.meets)⟩
  ·rintro i v τ acc H5 C hv ⟨ts,⟨t0,rfl⟩,rfl,lt,sm⟩ hC
   obtain ⟨r,hr,rfl⟩:=xR hv
   have hrow:=sm _ _ (hb4.rows r (zB hr))
   refine (zr rfl (zr rfl ⟨2,rfl,r.1,zr rfl ⟨SqT.of hrow,(by show ¬ (HT.sIx 4 0 none=0/\HT.sIx 4 4 (some 2)=4);decide),λp2 hp2=>?_⟩⟩))
   have s2:=yy (o:=HO.tup [V.int r.2.lo,V.int r.2.hi]) hp2
   refine ⟨p2,[.int r.2.lo,.int r.2.hi],rfl,.inr (SqT.of yx),rfl,rfl,zr rfl (iteB (λc=>?_) λc=>hC _ _ _ ⟨ts,⟨_,rfl⟩,rfl,by omega,sm.trans s2⟩)⟩
   exact (zr rfl (ixt (s2 _ _ hrow) rfl (hC _ _ _ ⟨ts++[r.2.t],⟨_,rfl⟩,by rw [zC];rfl,by rw [zK];show ts.length + 1<=_;omega,sm.trans s2⟩)))
  rintro τ acc H5 ⟨ts,⟨t0,rfl⟩,rfl,lt,sm⟩ lm hlm
  rw [zA] at lt
  have s5:=sm.trans (yy (o:=HO.lst (ts.map V.int)) hlm)
  have k5:upd H5 lm (HO.lst (ts.map V.int)) lm=some (.lst (ts.map V.int)):=yx
  have g5:=g4.same s5
  have nlm:lm≠p:=(g4.same sm).2.ne hlm
  generalize upd H5 lm (HO.lst (ts.map V.int))=H6 at s5 k5 g5 ⊢
  have hb6:=hb4.same s5
  refine (zr rfl (zr rfl (zr rfl (ex7 p b j rooms tr tm ps ⟨rfl,hj,hb6,gd,g5.2,λat' H7 a0 a1 g7=>?_⟩))))
  have g07:=g5.trans g7
  have k7:=g7.1 lm _ nlm k5
  refine (zr rfl ⟨za _,λl0 hl0=>⟨lm,l0,zr rfl ⟨rfl,SqL.of (yy hl0 _ _ k7),SqL.of yx,zr rfl ?_⟩⟩⟩)
  have g08:=g07.new (o:=HO.lst []) hl0
  have k8:=yy (o:=HO.lst []) hl0 _ _ k7
  generalize upd H7 l0 (HO.lst [])=H8 at g08 k8 ⊢
  refine iteA (fun σ H'=>∃ x,σ=[some (.ref p),some (.ref b),some (.int n),some (.int j),some (.int w0),some (.int m),some (.ref lm),some (.int x)]/\Go p H H') ?_ (λc k=>?_) (λc=>(zr rfl g08))
  ·rintro σ H9 ⟨x,rfl,g9⟩
   exact (zr rfl (zr rfl (zr rfl ⟨by show 3<=_;omega,λt ht=>q t ⟨w0,x,m⟩ _ (g9.new ht) yx w00 w01 m1 m99⟩)))
  refine (zr rfl ⟨p,zr rfl ⟨by decide,by decide,g08.2,λd2 H9 d20 d21 g9=>⟨rfl,zr rfl (iteN _ k (λc2 k2=>?_) (λc2=>(zr rfl (g08.trans g9))))⟩⟩⟩)
  have k9:=g9.1 lm _ nlm k8
  have lts:1<=ts.length:=by
   cases ts with
   | nil=>cases c
   | cons _ _=>simp
  refine (zr rfl (zr rfl (zr rfl ⟨lm,zr rfl ⟨.inl (SqL.of k9),p,zr rfl ⟨by rw [zA];omega,by rw [zA];omega,g9.2,λd3 H10 d30 d31 g10=>?_⟩⟩⟩)))
  rw [zA] at d31
  obtain ⟨z,rfl⟩:=zh d30
  have hz:z < ts.length:=by omega
  refine (ixl (g10.1 lm _ nlm k9) (xb (v:=V.int ts[z]) (by simp [hz])) (zr rfl ⟨p,zr rfl ⟨by decide,by decide,g10.2,λd4 H11 d40 d41 g11=>(zr2 rfl rfl (k2 _ _ (zr rfl (g08.trans (g9.trans (g10.trans g11))))))⟩⟩))
theorem Di:FnScope ["_law_script", "_law_book_here", "_law_head", "_law_first", "_law_later", "_law_many", "_law_walkers"] ["_law_script", "_law_book_here", "_law_head", "_law_first", "_law_later"] (defScope B5):=⟨rfl,rfl,rfl,by decide +kernel,rfl,by decide +kernel,by decide +kernel⟩
theorem Fs (T:Tx K mg a):FnOk P w K mg base CX0 5 a.AM a.Bs ["_law_script", "_law_book_here", "_law_head", "_law_first", "_law_later"] (spSacks36 K):=by
 have BM:=Dm P w base T
 have Aa:=xl P w base T
 have GU:=FM P w base T
 refine T.A7.ok Di (λvs H Q E h=>?_) (λcdv A outer s H vs Q E hr h=>?_)
 ·obtain ⟨_,_,_,_,_,_,_,_,_,_,_,rfl,_⟩:=h;rfl
 ·have nd:=Di.nd
  have hu:=hr.units
  obtain ⟨sa,b,hd,j,rooms,tr,tm,ps,ns,n,H0,rfl,hsa,n63,h0,sm0,n100,hj,hb,gd,r1,r12,hp,q⟩:=h
  refine ⟨_,(@xD _ _ _ (@xQ _ _ _ _ _ _ (xL (i:=5) nd rfl rfl (xC Aa (hr.mono (by decide)) rfl T.Ab T.Ac T.Ae .nil pass0 (@yu _ _ _ (@yw _ _ _ _ _ (pv 2) (@yw _ _ _ _ _ yt xB rfl) rfl)))) (@xQ _ _ _ _ _ _ (@xW _ _ _ _ _ _ _ _ (@xP _ _ _ _ _ _ _ _ xw (xC Aa (hr.mono (by decide)) rfl T.Ab T.Ac T.Ae .nil pass0 (@yu _ _ _ (@yw _ _ _ _ _ (pv 2) (@yw _ _ _ _ _ yt xB rfl) rfl))) yt (nomark _)) (@xD _ _ _ (@xS _ _ _ (xL (i:=5) nd rfl rfl yt))) xO) (@xQ _ _ _ _ _ _ (xL (i:=6) nd rfl rfl (@xG _ _ _ _ _ _ _ (xI rfl) (@xa _ _ _ _ (@yu _ _ _ (@yw _ _ _ _ _ (xF (xJ rfl) (by rfl) T.b_len PySem.boot_len (@yu _ _ _ (@yw _ _ _ _ _ (@xG _ _ _ _ _ _ _ (xK rfl) (pv 1) yt (λ_ _=>rfl)) xB rfl))) (@yw _ _ _ _ _ (xF (call_min2 rfl) (by rfl) T.b_min PyProof.Rows.boot_min (@yu _ _ _ (@yw _ _ _ _ _ yt (@yw _ _ _ _ _ (xF (xJ rfl) (by rfl) T.b_len PySem.boot_len (@yu _ _ _ (@yw _ _ _ _ _ (@xG _ _ _ _ _ _ _ (xK rfl) (pv 1) yt (λ_ _=>rfl)) xB rfl))) xB rfl) rfl))) xB rfl) rfl))) (xC Aa (hr.mono (by decide)) rfl T.Ab T.Ac T.Ae .nil pass0 (@yu _ _ _ (@yw _ _ _ _ _ (pv 2) (@yw _ _ _ _ _ yt xB rfl) rfl))) (λ_ _=>rfl))) (@xS _ _ _ (@xN _ _ _ _ (xt (own:=["_law_k"]) (caps:=[1,6,4,0,3]) rfl (show CompScope ["_law_k"] [1,6,4,0,3] ["_law_script", "_law_book_here", "_law_head", "_law_first", "_law_later", "_law_many", "_law_walkers"] (defScope B5) _ from ⟨rfl,by decide +kernel,by decide +kernel,by decide +kernel,by decide +kernel⟩) (xq rfl T.b_range (@yu _ _ _ (@yw _ _ _ _ _ (pv 5) xB rfl))) (λ_ _ _ _=>(xA (i:=0) (show List.Nodup (["_law_k", "_law_book_here", "_law_walkers", "_law_later", "_law_script", "_law_first"]:List Str) from by decide +kernel) rfl rfl)) (λ_ _ _ _=>wH) (λ_ _ _ _=>(xC GU (hr.mono (by decide)) rfl T.Gp T.Gx T.GE .nil pass0 (@yu _ _ _ (@yw _ _ _ _ _ (xC BM (hr.mono (by decide)) rfl T.B6 T.B7 T.B8 .nil pass0 (@yu _ _ _ (@yw _ _ _ _ _ (pv 4) (@yw _ _ _ _ _ (@xM _ _ _ _ _ _ _ _ xU (pv 5) (@xM _ _ _ _ _ _ _ _ op_mul yt (pv 0))) xB rfl) rfl))) (@yw _ _ _ _ _ (pv 1) (@yw _ _ _ _ _ (pv 2) (@yw _ _ _ _ _ (pv 3) xB rfl) rfl) rfl) rfl))))))))))),?_⟩
  have line:=line9
  have e200:(2:Int) ^ 200 > 10000:=by decide
  refine (zr rfl ⟨hd,zr rfl ⟨by decide,by decide,hp,λd H1 d0 d1 g1=>?_⟩⟩)
  refine (zr rfl ⟨hd,zr rfl ⟨by decide,by decide,g1.2,λe H3 e0 e1 g3=>⟨rfl,zr rfl ?_⟩⟩⟩)
  have g03:=g1.trans g3
  refine iteN (fun σ H'=>∃ m:Nat,σ=[some (.ref sa),some (.ref b),some (.ref hd),some (.int n),some (.int j),some (.int m),none]/\m<=8/\Go hd H H') ?_ (λc k=>k _ _ ⟨8,rfl,by omega,g03⟩) (λc=>by obtain ⟨m,rfl⟩:=zh d0;exact ⟨m,rfl,by omega,g03⟩)
  rintro σ H4 ⟨m,rfl,m8,g4⟩
  have hb4:=hb.tups (g4.tups hp)
  have rl:(rooms.map V.int).length=rooms.length:=zA _
  refine (zr rfl (ixt hb4.book rfl ⟨tr,zr rfl ⟨.inr (SqT.of hb4.rooms),zr rfl (ixt hb4.book rfl ⟨tr,zr rfl ⟨.inr (SqT.of hb4.rooms),zr1 rfl ⟨by show 2<=_;omega,λu hu=>(zr rfl ⟨hd,zr rfl ⟨by decide,by decide,(g4.new hu).2,λd2 H6 d20 d21 g6=>?_⟩⟩)⟩⟩⟩)⟩⟩))
  have g06:=(g4.new (o:=HO.lst [V.int (((rooms.map V.int).length:Nat):Int),V.int (if (((rooms.map V.int).length:Nat):Int) < 2 then (((rooms.map V.int).length:Nat):Int) else 2)]) hu).trans g6
  have nu:u≠hd:=g4.2.ne hu
  have ku:=g6.1 u _ nu yx
  obtain ⟨nw,hw1,hw2,hat⟩:∃ nw:Nat,1<=nw/\nw<=rooms.length/\atI [V.int (((rooms.map V.int).length:Nat):Int),V.int (if (((rooms.map V.int).length:Nat):Int) < 2 then (((rooms.map V.int).length:Nat):Int) else 2)] d2=some (V.int nw):=by
   rw [rl]
   obtain rfl | rfl:d2=0\/d2=1:=by omega
   ·exact ⟨rooms.length,r1,zF _,rfl⟩
   ·refine ⟨min rooms.length 2,by omega,by omega,?_⟩
    show some (V.int _)=some (V.int _)
    congr 2
    split <;> omega
  refine (ixl ku hat ?_)
  have hb6:=hb.tups (g06.tups hp)
  have pu6:=g06.2
  refine (zr rfl (zr rfl ⟨by omega,by omega,?_⟩))
  refine comp_range (lo:=0) (m:=m) (λi τ acc H5=>∃ ss:List (Addr×S3),(∃ t0,τ=[t0,some (.ref b),some (.int nw),some (.int j),some (.ref sa),some (.int n)])/\acc=ss.map (λa=>V.ref a.1)/\ss.length=i/\(∀ a∈ss,H5 a.1=some (.tup [.int a.2.w,.int a.2.t,.int a.2.m]))/\(∀ a∈ss,0<=a.2.w/\a.2.w < rooms.length/\1<=a.2.m/\a.2.m<=99)/\Same H6 H5) ⟨[],⟨_,rfl⟩,rfl,rfl,nofun,nofun,Same.refl _⟩ (by omega) ?_ ?_ ?_
  ·rintro i τ acc H5 ⟨ss,_,rfl,ls,_⟩
   rw [zA,ls];exact zF _
  ·rintro i τ acc H5 C hi ⟨ss,⟨t0,rfl⟩,rfl,ls,ks,bs,sm⟩ hC
   have hsa5:SqL K H5 sa (List.map V.int ns):=SqL.but hsa h0 λb u nb e=>sm _ _ (g06.1 _ _ nb (sm0 _ _ e))
   refine (zr rfl (zr rfl (zr rfl (zr2 rfl rfl ⟨.inl ⟨by decide,by decide⟩,zr2 rfl rfl ⟨sa,ns,n + 2 * i,?_,hsa5,by omega,λpz H7 hpz pu s7=>?_⟩⟩))))
   ·show [V.ref sa,V.int ((n:Int) + 2 * (0 + (i:Int)))]=_
    rw [show ((n:Int) + 2 * (0 + (i:Int)))=((n + 2 * i:Nat):Int) by omega]
   refine (zr rfl (zr rfl (zr rfl (ex8 pz b j rooms tr tm ps nw ⟨rfl,hj,(hb6.same sm).same s7,gd,hw1,by omega,pu,λt s1 H8 g8 kt w0 w1 m1 m9=>?_⟩))))
   have s8:=same_go36 hpz s7 g8.1
   refine hC _ _ _ ⟨ss++[(t,s1)],⟨_,rfl⟩,by rw [zC];rfl,by rw [zK,ls];rfl,λa ha=>?_,λa ha=>?_,sm.trans s8⟩
   ·rcases zX.mp ha with h | h
    ·exact s8 _ _ (ks a h)
    ·rw [zM.mp h];exact kt
   ·rcases zX.mp ha with h | h
    ·exact bs a h
    ·rw [zM.mp h];exact ⟨w0,by show s1.w < _;omega,m1,m9⟩
  rintro τ acc H5 ⟨ss,⟨t0,rfl⟩,rfl,ls,ks,bs,sm⟩ l hl
  have s5:=sm.trans (yy (o:=HO.lst (ss.map λa=>V.ref a.1)) hl)
  have ks5:∀ a∈ss,upd H5 l (HO.lst (ss.map λa=>V.ref a.1)) a.1=some (.tup [.int a.2.w,.int a.2.t,.int a.2.m]):=λa ha=>yy hl _ _ (ks a ha)
  have hl0:H l=none:=by
   cases z:H l with
   | none=>rfl
   | some o=>rw [sm _ _ (g06.1 _ _ ((g06.same sm).2.ne hl) z)] at hl;cases hl
  exact q l ss _ hl0 (g06.same s5) ⟨yx,ks5⟩ (by omega) bs
theorem E8:FnScope ["_law_book_here", "_law_time_here"] ["_law_book_here", "_law_time_here"] (defScope Dc):=⟨rfl,rfl,rfl,by decide +kernel,rfl,by decide +kernel,by decide +kernel⟩
theorem Fc (T:Tx K mg a):FnOk P w K mg base CX0 1 a.BK a.Cb ["_law_book_here", "_law_time_here"] (spByTime):=by
 refine T.BY.ok E8 (λvs H Q E h=>?_) (λcdv A outer s H vs Q E hr h=>?_)
 ·obtain ⟨b,t,_,_,_,_,rfl,_⟩:=h;rfl
 ·have nd:=E8.nd
  have hu:=hr.units
  obtain ⟨b,t,rooms,tr,tm,ps,rfl,hb,hn,q⟩:=h
  refine ⟨_,(@xD _ _ _ (@xS _ _ _ (@xN _ _ _ _ (xF (xJ rfl) (by rfl) T.b_len PySem.boot_len (@yu _ _ _ (@yw _ _ _ _ _ (xt (own:=["_law_meeting"]) (caps:=[1]) rfl (show CompScope ["_law_meeting"] [1] ["_law_book_here", "_law_time_here"] (defScope Dc) _ from ⟨rfl,by decide +kernel,by decide +kernel,by decide +kernel,by decide +kernel⟩) (@pi_tup'' _ _ _ _ _ rfl (@xG _ _ _ _ _ _ _ (xK rfl) (pv 0) yt (λ_ _=>rfl))) (λ_ _ _ _=>(xA (i:=0) (show List.Nodup (["_law_meeting", "_law_time_here"]:List Str) from by decide +kernel) rfl rfl)) (λ_ _ _ _=>wX (@xP _ _ _ _ _ _ _ _ op_le (@xG _ _ _ _ _ _ _ (xK rfl) (pv 0) yt (λ_ _=>rfl)) (pv 1) (nomark _))) (λ_ _ _ _=>(pv 0))) xB rfl)))))),?_⟩
  refine (zr rfl (ixt hb.book rfl ⟨tm,rfl,⟨_,SqT.of hb.meets⟩,?_⟩))
  refine comp_tup (K:=K) (a:=tm) (xs:=ps.map λa=>V.ref a.1) (λi τ acc H5=>(∃ t0,τ=[t0,some (.int t)])/\acc.length=cnt ((ps.map (·.2)).take i) t/\acc.length<=i/\Same H H5)
   ?_ (by rw [zA];omega) ?_ ?_ ?_
  ·exact ⟨⟨_,rfl⟩,rfl,zF _,Same.refl _⟩
  ·rintro i τ acc H5 ⟨⟨t0,rfl⟩,_,le,sm⟩
   exact ⟨le,SqT.of (sm _ _ hb.meets)⟩
  ·rintro i x τ acc H5 C hx ⟨⟨t0,rfl⟩,ec,le,sm⟩ hC
   obtain ⟨r,hr,rfl⟩:=xR hx
   have hrow:=sm _ _ (hb.rows r (zB hr))
   have hm:(ps.map (·.2))[i]?=some r.2:=by rw [zJ,hr];rfl
   refine (zr rfl (ixt hrow rfl (zr rfl (zr2 rfl rfl (zr rfl (iteD (λc=>(zr rfl (hC _ _ _ ?_))) (λc=>hC _ _ _ ?_)))))))
   ·exact ⟨⟨_,rfl⟩,by rw [cnt_snoc hm,if_pos c,zK,ec];rfl,by rw [zK];exact Nat.succ_le_succ le,sm⟩
   ·exact ⟨⟨_,rfl⟩,by rw [cnt_snoc hm,if_neg c,ec];rfl,by omega,sm⟩
  ·rintro τ acc H5 ⟨⟨t0,rfl⟩,ec,le,sm⟩ l hl
   have e:(ps.map λa=>V.ref a.1).length=(ps.map (·.2)).length:=by simp
   rw [e,zU] at ec
   refine ⟨l,zr rfl ⟨.inl (SqL.of yx),?_⟩⟩
   rw [ec]
   exact q _ (sm.trans (yy hl))
theorem Ch:FnScope ["_law_book_here", "_law_want", "_law_marks"] ["_law_book_here", "_law_want", "_law_marks"] (defScope wT):=⟨rfl,rfl,rfl,by decide +kernel,rfl,by decide +kernel,by decide +kernel⟩
theorem DI (T:Tx K mg a):FnOk P w K mg base CX0 2 a.Ah a.AA ["_law_book_here", "_law_want", "_law_marks"] (spBehind38):=by
 have EE:=Fc P w base T
 refine T.Ap.ok Ch (λvs H Q E h=>?_) (λcdv A outer s H vs Q E hr h=>?_)
 ·obtain ⟨_,_,_,_,_,_,_,_,_,rfl,_⟩:=h;rfl
 ·have nd:=Ch.nd
  have hu:=hr.units
  obtain ⟨b,z,lm,rooms,tr,tm,ps,wt,ms,rfl,hb,p60,hz,w0,w1,hm,hrw,lm1,q⟩:=h
  refine ⟨_,(@xD _ _ _ (@xS _ _ _ (@xN _ _ _ _ (xF (call_any rfl rfl) (by rfl) T.b_any PyProof.Rows.boot_any (@yu _ _ _ (@yw _ _ _ _ _ (xt (own:=["_law_k"]) (caps:=[2,1]) rfl (show CompScope ["_law_k"] [2,1] ["_law_book_here", "_law_want", "_law_marks"] (defScope wT) _ from ⟨rfl,by decide +kernel,by decide +kernel,by decide +kernel,by decide +kernel⟩) (pi_range2 rfl T.b_range (@yu _ _ _ (@yw _ _ _ _ _ yt (@yw _ _ _ _ _ (@xM _ _ _ _ _ _ _ _ xU yt (xC EE (hr.mono (by decide)) rfl T.FB T.FD T.FF .nil pass0 (@yu _ _ _ (@yw _ _ _ _ _ (pv 0) (@yw _ _ _ _ _ (@xG _ _ _ _ _ _ _ (xK rfl) (pv 1) yt (λ_ _=>rfl)) xB rfl) rfl)))) xB rfl) rfl))) (λ_ _ _ _=>(xA (i:=0) (show List.Nodup (["_law_k", "_law_marks", "_law_want"]:List Str) from by decide +kernel) rfl rfl)) (λ_ _ _ _=>wH) (λ_ _ _ _=>(@wD _ _ _ _ _ _ _ _ xw (@xM _ _ _ _ _ _ _ _ wj (@xG _ _ _ _ _ _ _ (xI rfl) (@xG _ _ _ _ _ _ _ (xI rfl) (pv 1) (pv 0) (λ_ _=>rfl)) (@xG _ _ _ _ _ _ _ (xK rfl) (pv 2) yt (λ_ _=>rfl)) (λ_ _=>rfl)) yt) yt (nomark _)))) xB rfl)))))),?_⟩
  have line:=line9
  refine (zr rfl (zr rfl (ixt hz rfl (ex6 b wt.t rooms tr tm ps ⟨rfl,hb,by omega,λH1 s1=>(zr2 rfl rfl ?_)⟩))))
  have cl:cnt (ps.map (·.2)) wt.t<=ps.length:=by
   have:=zi (λx:M4=>decide (x.t<=wt.t)) (ps.map (·.2))
   rwa [zA] at this
  refine (zr1 rfl ⟨⟨by decide,by decide,by omega,by omega⟩,?_⟩)
  rw [show ((1:Int) + ((cnt (ps.map (·.2)) wt.t:Nat):Int) - 1).toNat=cnt (ps.map (·.2)) wt.t by omega]
  unfold behindB at q
  generalize cnt (ps.map (·.2)) wt.t=c at cl q ⊢
  refine comp_range (lo:=1) (m:=c) (λi τ acc H5=>(∃ t0,τ=[t0,some (.ref lm),some (.ref z)])/\acc=(((((ms.map (·.2)).drop 1).take c).take i).map λr=>oddB (at38 r wt.w)).map V.bl/\Same H1 H5) ⟨⟨_,rfl⟩,rfl,Same.refl _⟩ (by omega) ?_ ?_ ?_
  ·rintro i τ acc H5 ⟨_,rfl,sm⟩
   rw [zA,zA,zT];omega
  ·rintro i τ acc H5 C hi ⟨⟨t0,rfl⟩,rfl,sm⟩ hC
   obtain ⟨r,h1⟩:∃ r,ms[1 + i]?=some r:=⟨_,zG (by omega)⟩
   obtain ⟨kr,lr⟩:=hrw r (zB h1)
   have s5:=s1.trans sm
   have e:=cut_at (l:=ms.map (·.2)) hi
   rw [xT h1] at e
   refine (zr rfl (zr rfl (ixl (s5 _ _ hm) (xb (j:=1 + i) (v:=V.ref r.1) (by rw [zJ,h1];rfl)) (zr rfl (ixt (s5 _ _ hz) rfl (ixl (s5 _ _ kr) (xu w0 (by rw [lr];exact w1)) (zr2 rfl rfl ⟨(by show (0:Int) < 2;decide),rfl,hC _ _ _ ⟨⟨_,rfl⟩,?_,sm⟩⟩)))))))
   rw [xX e,zC,zC,dec_odd];rfl
  ·rintro τ acc H5 ⟨⟨t0,rfl⟩,rfl,sm⟩ lc hlc
   refine ⟨lc,zr rfl ⟨SqL.of yx,?_⟩⟩
   have z:=q _ (s1.trans (sm.trans (yy (o:=HO.lst (((((((ms.map (·.2)).drop 1).take c).take c).map λr=>oddB (at38 r wt.w))).map V.bl)) hlc)))
   rw [List.take_take,yf,List.any_map] at *
   exact z
theorem EH:FnScope ["_law_purse_here", "_law_book_here", "_law_loads", "_law_wants", "_law_walkers", "_law_many", "_law_given", "_law_taken", "_law_marks", "_law_load", "_law_truth", "_law_k", "_law_walker", "_law_near"] ["_law_purse_here", "_law_book_here", "_law_loads", "_law_wants"] (defScope we):=⟨rfl,rfl,rfl,by decide +kernel,rfl,by decide +kernel,by decide +kernel⟩
theorem Gi (T:Tx K mg a):FnOk P w K mg base CX0 3 a.Be a.BV ["_law_purse_here", "_law_book_here", "_law_loads", "_law_wants"] (spCut38):=by
 have Aa:=xl P w base T
 have EE:=Fc P w base T
 have EB:=DI P w base T
 refine T.By.ok EH (λvs H Q E h=>?_) (λcdv A outer s H vs Q E hr h=>?_)
 ·obtain ⟨_,_,_,_,_,_,_,_,_,_,rfl,_⟩:=h;rfl
 ·have nd:=EH.nd
  have hu:=hr.units
  obtain ⟨p,b,ll,lw,rooms,tr,tm,ps,ls,ws,rfl,hb,gd,hl,hw,l100,w100,lr,wr,r12,hp,q⟩:=h
  refine ⟨_,(@xD _ _ _ (@xQ _ _ _ _ _ _ (xL (i:=4) nd rfl rfl (xF (xJ rfl) (by rfl) T.b_len PySem.boot_len (@yu _ _ _ (@yw _ _ _ _ _ (@xG _ _ _ _ _ _ _ (xK rfl) (pv 1) yt (λ_ _=>rfl)) xB rfl)))) (@xQ _ _ _ _ _ _ (xL (i:=5) nd rfl rfl (xF (xJ rfl) (by rfl) T.b_len PySem.boot_len (@yu _ _ _ (@yw _ _ _ _ _ (@xG _ _ _ _ _ _ _ (xK rfl) (pv 1) yt (λ_ _=>rfl)) xB rfl)))) (@xQ _ _ _ _ _ _ (ps_setComp (ix:=6) nd rfl rfl (own:=["_law_load"]) (caps:=[0]) rfl (show CompScope ["_law_load"] [0] ["_law_purse_here", "_law_book_here", "_law_loads", "_law_wants", "_law_walkers", "_law_many", "_law_given", "_law_taken", "_law_marks", "_law_load", "_law_truth", "_law_k", "_law_walker", "_law_near"] (defScope we) _ from ⟨rfl,by decide +kernel,by decide +kernel,by decide +kernel,by decide +kernel⟩) (@xp _ _ _ _ _ rfl (pv 2)) (λ_ _ _ _=>(xA (i:=0) (show List.Nodup (["_law_load", "_law_purse_here"]:List Str) from by decide +kernel) rfl rfl)) (λ_ _ _ _=>wH) (λ_ _ _ _=>(@wD _ _ _ _ _ _ _ _ xw (xC Aa (hr.mono (by decide)) rfl T.Ab T.Ac T.Ae .nil pass0 (@yu _ _ _ (@yw _ _ _ _ _ (pv 1) (@yw _ _ _ _ _ yt xB rfl) rfl))) yt (nomark _)))) (@xQ _ _ _ _ _ _ (ps_setComp (ix:=7) nd rfl rfl (own:=["_law_want"]) (caps:=[0]) rfl (show CompScope ["_law_want"] [0] ["_law_purse_here", "_law_book_here", "_law_loads", "_law_wants", "_law_walkers", "_law_many", "_law_given", "_law_taken", "_law_marks", "_law_load", "_law_truth", "_law_k", "_law_walker", "_law_near"] (defScope we) _ from ⟨rfl,by decide +kernel,by decide +kernel,by decide +kernel,by decide +kernel⟩) (@xp _ _ _ _ _ rfl (pv 3)) (λ_ _ _ _=>(xA (i:=0) (show List.Nodup (["_law_want", "_law_purse_here"]:List Str) from by decide +kernel) rfl rfl)) (λ_ _ _ _=>wH) (λ_ _ _ _=>(@wD _ _ _ _ _ _ _ _ xw (xC Aa (hr.mono (by decide)) rfl T.Ab T.Ac T.Ae .nil pass0 (@yu _ _ _ (@yw _ _ _ _ _ (pv 1) (@yw _ _ _ _ _ yt xB rfl) rfl))) yt (nomark _)))) (@xQ _ _ _ _ _ _ (ps_setComp (ix:=8) nd rfl rfl (own:=["_law_k"]) (caps:=[0,4]) rfl (show CompScope ["_law_k"] [0,4] ["_law_purse_here", "_law_book_here", "_law_loads", "_law_wants", "_law_walkers", "_law_many", "_law_given", "_law_taken", "_law_marks", "_law_load", "_law_truth", "_law_k", "_law_walker", "_law_near"] (defScope we) _ from ⟨rfl,by decide +kernel,by decide +kernel,by decide +kernel,by decide +kernel⟩) (xq rfl T.b_range (@yu _ _ _ (@yw _ _ _ _ _ (@xM _ _ _ _ _ _ _ _ xU (pv 5) yt) xB rfl))) (λ_ _ _ _=>(xA (i:=0) (show List.Nodup (["_law_k", "_law_purse_here", "_law_walkers"]:List Str) from by decide +kernel) rfl rfl)) (λ_ _ _ _=>wH) (λ_ _ _ _=>(xt (own:=["_law_walker"]) (caps:=[1]) rfl (show CompScope ["_law_walker"] [1] ["_law_k", "_law_purse_here", "_law_walkers"] (relabel _ _) _ from CompScope.inn rfl (by decide +kernel) (by decide +kernel) (by decide +kernel) (by decide +kernel)) (xq rfl T.b_range (@yu _ _ _ (@yw _ _ _ _ _ (pv 2) xB rfl))) (λ_ _ _ _=>(xA (i:=0) (show List.Nodup (["_law_walker", "_law_purse_here"]:List Str) from by decide +kernel) rfl rfl)) (λ_ _ _ _=>wH) (λ_ _ _ _=>(@xG _ _ _ _ _ _ _ (xI rfl) (@xa _ _ _ _ (@yu _ _ _ (@yw _ _ _ _ _ yt (@yw _ _ _ _ _ yt (@yw _ _ _ _ _ yt (@yw _ _ _ _ _ yt (@yw _ _ _ _ _ yt xB rfl) rfl) rfl) rfl) rfl))) (xC Aa (hr.mono (by decide)) rfl T.Ab T.Ac T.Ae .nil pass0 (@yu _ _ _ (@yw _ _ _ _ _ (pv 1) (@yw _ _ _ _ _ yt xB rfl) rfl))) (λ_ _=>rfl)))))) (@xQ _ _ _ _ _ _ (xm PassesOwn.never rfl (wR rfl rfl T.b_zip (@yu _ _ _ (@yw _ _ _ _ _ (pv 2) (@yw _ _ _ _ _ (pv 6) xB rfl) rfl))) (xZ (n:=2) rfl rfl (xE (xA (i:=9) nd rfl rfl) (xE (xA (i:=10) nd rfl rfl) xY))) (@xD _ _ _ (@xS _ _ _ (xm PassesOwn.never rfl (pi_range2 rfl T.b_range (@yu _ _ _ (@yw _ _ _ _ _ (xC EE (hr.mono (by decide)) rfl T.FB T.FD T.FF .nil pass0 (@yu _ _ _ (@yw _ _ _ _ _ (pv 1) (@yw _ _ _ _ _ (@xG _ _ _ _ _ _ _ (xK rfl) (pv 9) yt (λ_ _=>rfl)) xB rfl) rfl))) (@yw _ _ _ _ _ (@xM _ _ _ _ _ _ _ _ xU (pv 5) yt) xB rfl) rfl))) (xA (i:=11) nd rfl rfl) (@xD _ _ _ (@xS _ _ _ (@xW _ _ _ _ _ _ _ _ (@PW.pt _ _ _ (@wI _ _ _ _ _ _ _ (xV (pv 10)) (@wC _ _ _ _ (@xP _ _ _ _ _ _ _ _ op_lt (@xG _ _ _ _ _ _ _ (xI rfl) (@xG _ _ _ _ _ _ _ (xI rfl) (pv 8) (pv 11) (λ_ _=>rfl)) (@xG _ _ _ _ _ _ _ (xK rfl) (pv 9) yt (λ_ _=>rfl)) (λ_ _=>rfl)) yt (nomark _))))) (@xD _ _ _ (@xS _ _ _ (ps_asg (@xM _ _ _ _ _ _ _ _ xU (@xG _ _ _ _ _ _ _ (xI rfl) (@xG _ _ _ _ _ _ _ (xI rfl) (pv 8) (pv 11) (λ_ _=>rfl)) (@xG _ _ _ _ _ _ _ (xK rfl) (pv 9) yt (λ_ _=>rfl)) (λ_ _=>rfl)) yt) (pg_sub (@xG _ _ _ _ _ _ _ (xI rfl) (pv 8) (pv 11) (λ_ _=>rfl)) (@xG _ _ _ _ _ _ _ (xK rfl) (pv 9) yt (λ_ _=>rfl)) set_list)))) xO))))))) (@xQ _ _ _ _ _ _ (xm PassesOwn.never rfl (xq rfl T.b_range (@yu _ _ _ (@yw _ _ _ _ _ (pv 5) xB rfl))) (xA (i:=11) nd rfl rfl) (@xD _ _ _ (@xS _ _ _ (xm PassesOwn.never rfl (xq rfl T.b_range (@yu _ _ _ (@yw _ _ _ _ _ (pv 4) xB rfl))) (xA (i:=12) nd rfl rfl) (@xD _ _ _ (@xS _ _ _ (@xW _ _ _ _ _ _ _ _ (@PW.pt _ _ _ (@wI _ _ _ _ _ _ _ (@xP _ _ _ _ _ _ _ _ op_ge (@xG _ _ _ _ _ _ _ (xI rfl) (@xG _ _ _ _ _ _ _ (xI rfl) (pv 8) (pv 11) (λ_ _=>rfl)) (pv 12) (λ_ _=>rfl)) yt (nomark _)) (@wC _ _ _ _ (@xP _ _ _ _ _ _ _ _ xw (@xM _ _ _ _ _ _ _ _ wj (@xG _ _ _ _ _ _ _ (xI rfl) (@xG _ _ _ _ _ _ _ (xI rfl) (pv 8) (@xM _ _ _ _ _ _ _ _ xU (pv 11) yt) (λ_ _=>rfl)) (pv 12) (λ_ _=>rfl)) yt) yt (nomark _))))) (@xD _ _ _ (@xS _ _ _ (ps_asg (@xM _ _ _ _ _ _ _ _ xU (@xG _ _ _ _ _ _ _ (xI rfl) (@xG _ _ _ _ _ _ _ (xI rfl) (pv 8) (@xM _ _ _ _ _ _ _ _ xU (pv 11) yt) (λ_ _=>rfl)) (pv 12) (λ_ _=>rfl)) yt) (pg_sub (@xG _ _ _ _ _ _ _ (xI rfl) (pv 8) (@xM _ _ _ _ _ _ _ _ xU (pv 11) yt) (λ_ _=>rfl)) (pv 12) set_list)))) xO))))))) (@xQ _ _ _ _ _ _ (xm PassesOwn.never rfl (xq rfl T.b_range (@yu _ _ _ (@yw _ _ _ _ _ (xF (xJ rfl) (by rfl) T.b_len PySem.boot_len (@yu _ _ _ (@yw _ _ _ _ _ (pv 3) xB rfl))) xB rfl))) (xA (i:=11) nd rfl rfl) (@xD _ _ _ (@xQ _ _ _ _ _ _ (ps_setComp (ix:=13) nd rfl rfl (own:=["_law_load", "_law_truth"]) (caps:=[3,11]) rfl (show CompScope ["_law_load", "_law_truth"] [3,11] ["_law_purse_here", "_law_book_here", "_law_loads", "_law_wants", "_law_walkers", "_law_many", "_law_given", "_law_taken", "_law_marks", "_law_load", "_law_truth", "_law_k", "_law_walker", "_law_near"] (defScope we) _ from ⟨rfl,by decide +kernel,by decide +kernel,by decide +kernel,by decide +kernel⟩) (wR rfl rfl T.b_zip (@yu _ _ _ (@yw _ _ _ _ _ (pv 2) (@yw _ _ _ _ _ (pv 6) xB rfl) rfl))) (λ_ _ _ _=>(xZ (n:=2) rfl rfl (xE (xA (i:=0) (show List.Nodup (["_law_load", "_law_truth", "_law_wants", "_law_k"]:List Str) from by decide +kernel) rfl rfl) (xE (xA (i:=1) (show List.Nodup (["_law_load", "_law_truth", "_law_wants", "_law_k"]:List Str) from by decide +kernel) rfl rfl) xY)))) (λ_ _ _ _=>wX (@PW.pt _ _ _ (@wI _ _ _ _ _ _ _ (xV (pv 1)) (@wI _ _ _ _ _ _ _ (@xP _ _ _ _ _ _ _ _ xw (@xG _ _ _ _ _ _ _ (xK rfl) (pv 0) yt (λ_ _=>rfl)) (@xG _ _ _ _ _ _ _ (xK rfl) (@xG _ _ _ _ _ _ _ (xI rfl) (pv 2) (pv 3) (λ_ _=>rfl)) yt (λ_ _=>rfl)) (nomark _)) (@wC _ _ _ _ (@xP _ _ _ _ _ _ _ _ op_le (@xG _ _ _ _ _ _ _ (xK rfl) (pv 0) yt (λ_ _=>rfl)) (@xG _ _ _ _ _ _ _ (xK rfl) (@xG _ _ _ _ _ _ _ (xI rfl) (pv 2) (pv 3) (λ_ _=>rfl)) yt (λ_ _=>rfl)) (nomark _))))))) (λ_ _ _ _=>(pv 0))) (@xS _ _ _ (@xW _ _ _ _ _ _ _ _ (@PW.pt _ _ _ (@pw_or _ _ _ _ _ _ _ (@xP _ _ _ _ _ _ _ _ (op_neNil hu) (pv 13) (@xa _ _ _ _ wd) (nomark _)) (@wf _ _ _ _ (xV (xC EB (hr.mono (by decide)) rfl T.D9 T.Ef T.El .nil pass0 (@yu _ _ _ (@yw _ _ _ _ _ (pv 1) (@yw _ _ _ _ _ (@xG _ _ _ _ _ _ _ (xI rfl) (pv 3) (pv 11) (λ_ _=>rfl)) (@yw _ _ _ _ _ (pv 8) xB rfl) rfl) rfl))))))) (@xD _ _ _ (@xS _ _ _ (ps_asg wB (pg_sub (pv 7) (pv 11) set_list)))) xO))))) (@xS _ _ _ (@xN _ _ _ _ (@wJ _ _ _ _ _ (@yu _ _ _ (@yw _ _ _ _ _ (pv 6) (@yw _ _ _ _ _ (pv 7) (@yw _ _ _ _ _ (pv 8) xB rfl) rfl) rfl)))))))))))))),?_⟩
  have line:=line9
  have m60:=gd.few
  rw [zA] at m60
  have bl:∀ d:Int,∃ bb,(decide (V.int d=V.int 1):Bool)=bb:=λd=>⟨_,rfl⟩
  refine (zr rfl (ixt hb.book rfl ⟨tr,zr rfl ⟨.inr (SqT.of hb.rooms),?_⟩⟩))
  refine (zr rfl (ixt hb.book rfl ⟨tm,zr rfl ⟨.inr (SqT.of hb.meets),?_⟩⟩))
  refine (zr rfl ⟨ll,rfl,⟨_,SqL.of hl.l⟩,?_⟩)
  refine xz (K:=K) (a:=ll) (xs:=ls.map λa=>V.ref a.1) (λi τ acc H5=>(∃ t0,τ=[t0,some (.ref p)])/\(∃ gs:List Bool,gs.length=i/\acc=gs.map V.bl)/\Go p H H5) ⟨⟨_,rfl⟩,⟨[],rfl,rfl⟩,Go.refl hp⟩ (by rw [zA];omega) ?_ ?_ ?_
  ·rintro i τ acc H5 ⟨_,⟨gs,e,rfl⟩,go⟩
   exact ⟨by rw [zA];omega,SqL.of (hl.go38 go hp).l⟩
  ·rintro i v τ acc H5 C hv ⟨⟨t0,rfl⟩,⟨gs,e,rfl⟩,go⟩ hC
   exact (zr rfl ⟨p,zr rfl ⟨by decide,by decide,go.2,λd H6 d0 d1 g6=>⟨rfl,hC _ _ _ ⟨⟨_,rfl⟩,⟨gs++[decide (V.int d=V.int 1)],by rw [zK,e];rfl,by rw [zC];rfl⟩,go.trans g6⟩⟩⟩⟩)
  rintro τ acc H5 ⟨⟨t0,rfl⟩,⟨gs,eg,rfl⟩,g5⟩ lg hlg
  rw [zA] at eg
  have npg:=g5.2.ne hlg
  have g6:=g5.new (o:=HO.lst (gs.map V.bl)) hlg
  have kg:upd H5 lg (HO.lst (gs.map V.bl)) lg=some (.lst (gs.map V.bl)):=yx
  generalize upd H5 lg (HO.lst (gs.map V.bl))=H6 at g6 kg ⊢
  refine (zr rfl ⟨lw,rfl,⟨_,SqL.of (hw.go38 g6 hp).l⟩,?_⟩)
  refine xz (K:=K) (a:=lw) (xs:=ws.map λa=>V.ref a.1) (λi τ acc H5=>(∃ t0,τ=[t0,some (.ref p)])/\(∃ gs:List Bool,gs.length=i/\acc=gs.map V.bl)/\Go p H6 H5) ⟨⟨_,rfl⟩,⟨[],rfl,rfl⟩,Go.refl g6.2⟩ (by rw [zA];omega) ?_ ?_ ?_
  ·rintro i τ acc H5 ⟨_,⟨gs,e,rfl⟩,go⟩
   exact ⟨by rw [zA];omega,SqL.of (hw.go38 (g6.trans go) hp).l⟩
  ·rintro i v τ acc H5 C hv ⟨⟨t0,rfl⟩,⟨gs,e,rfl⟩,go⟩ hC
   exact (zr rfl ⟨p,zr rfl ⟨by decide,by decide,go.2,λd H6 d0 d1 g6=>⟨rfl,hC _ _ _ ⟨⟨_,rfl⟩,⟨gs++[decide (V.int d=V.int 1)],by rw [zK,e];rfl,by rw [zC];rfl⟩,go.trans g6⟩⟩⟩⟩)
  rintro τ acc H7 ⟨⟨t0,rfl⟩,⟨ts,et,rfl⟩,g7⟩ lt hlt
  rw [zA] at et
  have npt:=g7.2.ne hlt
  have ngt:lt≠lg:=(yz (g7.1 _ _ npg kg) hlt).symm
  have flt:H lt=none:=(g6.trans g7).free hlt npt
  have g8:=g7.new (o:=HO.lst (ts.map V.bl)) hlt
  have kt:upd H7 lt (HO.lst (ts.map V.bl)) lt=some (.lst (ts.map V.bl)):=yx
  generalize upd H7 lt (HO.lst (ts.map V.bl))=H8 at g8 kt ⊢
  have g08:=g6.trans g8
  have kg8:=g8.1 _ _ npg kg
  rw [zA,zA]
  refine (zr rfl (zr2 rfl rfl (zr rfl ⟨by omega,by omega,?_⟩)))
  refine comp_range (lo:=0) (m:=ps.length + 1) (λi τ acc H5=>(∃ t0,τ=[t0,some (.ref p),some (.int rooms.length)])/\∃ as rs,acc=as.map V.ref/\RC p H8 as i rooms.length rs H5) ⟨⟨_,rfl⟩,[],[],rfl,RC.init g8.2⟩ (by omega) ?_ ?_ ?_
  ·rintro i τ acc H5 ⟨_,as,rs,rfl,c⟩
   rw [zA,c.al];exact zF _
  ·rintro i τ acc H5 C hi ⟨⟨t0,rfl⟩,as,rs,rfl,c⟩ hC
   refine (zr rfl (zr rfl ⟨by omega,by omega,?_⟩))
   refine comp_range (lo:=0) (m:=rooms.length) (λj τ acc H6=>(∃ t0,τ=[t0,some (.ref p)])/\∃ r:List Int,acc=r.map V.int/\r.length=j/\(∀ m∈r,(0:Int)<=m/\m<=3)/\Go p H5 H6) ⟨⟨_,rfl⟩,[],rfl,rfl,nofun,Go.refl c.go.2⟩ (by omega) ?_ ?_ ?_
   ·rintro j τ acc H6 ⟨_,r,rfl,e,_⟩
    rw [zA,e];exact zF _
   ·rintro j τ acc H6 D hj ⟨⟨t1,rfl⟩,r,rfl,e,hr,g⟩ hD
    have fin:∀ (v:Int) H',0<=v->v<=3->Go p H6 H'->D [some (V.int (0 + (j:Int))),some (.ref p)] (List.map V.int r++[V.int v]) H':=λv H' v0 v3 g'=>hD _ _ _ ⟨⟨_,rfl⟩,r++[v],by rw [zC];rfl,by rw [zK,e];rfl,λm hm=>(zX.mp hm).elim (hr m) λhm=>by cases zM.mp hm;exact ⟨v0,v3⟩,g.trans g'⟩
    refine ⟨by show 5<=sizeLine;omega,λl hl=>?_⟩
    refine (zr rfl ⟨p,zr rfl ⟨by decide,by decide,g.2.new hl,λd H7 d0 d1 g7=>?_⟩⟩)
    have nl:=g.2.ne hl
    have kl:=g7.1 _ _ nl yx
    have gz:=(Go.refl g.2).new (o:=HO.lst [V.int 0,V.int 0,V.int 1,V.int 2,V.int 3]) hl |>.trans g7
    obtain rfl | rfl | rfl | rfl | rfl:d=0\/d=1\/d=2\/d=3\/d=4:=by omega
    ·exact (ixl kl rfl (fin 0 _ (by decide) (by decide) gz))
    ·exact (ixl kl rfl (fin 0 _ (by decide) (by decide) gz))
    ·exact (ixl kl rfl (fin 1 _ (by decide) (by decide) gz))
    ·exact (ixl kl rfl (fin 2 _ (by decide) (by decide) gz))
    ·exact (ixl kl rfl (fin 3 _ (by decide) (by decide) gz))
   ·rintro τ acc H6 ⟨⟨t1,rfl⟩,r,rfl,e,hr,g⟩ lc hlc
    refine hC _ _ _ ⟨⟨_,rfl⟩,as++[lc],rs++[r],by rw [zC];rfl,c.new g hlc e hr⟩
  rintro τ acc H9 ⟨⟨t0,rfl⟩,as,rs,rfl,c⟩ lm hlm
  have mc:=c.mc g08 npg kg8 npt kt flt ngt hlm
  generalize upd H9 lm (HO.lst (as.map V.ref))=H10 at mc ⊢
  have hls:∀ {H':Hp},Go p H H'->SacksAt H' ll ls:=λg=>hl.go38 g hp
  have hbs:∀ {H':Hp},Go p H H'->BookAt H' b rooms tr tm ps:=λg=>hb.tups (g.tups hp)
  refine (zr rfl (zr rfl ⟨ll,lg,rfl,⟨_,SqL.of (hls mc.go).l⟩,⟨_,SqL.of mc.g⟩,?_⟩))
  refine wk (K:=K) (a:=ll) (b:=lg) (xs:=ls.map λa=>V.ref a.1) (ys:=gs.map V.bl) (by rw [zA,zA,eg]) (λi σ H6=>(∃ v9 v10 v11 v12 v13,σ=[some (.ref p),some (.ref b),some (.ref ll),some (.ref lw),some (.int rooms.length),some (.int ps.length),some (.ref lg),some (.ref lt),some (.ref lm),v9,v10,v11,v12,v13])/\∃ rs,MC p H lg lt lm as (ps.length + 1) rooms.length gs ts rs H6/\Opn38 (ps.map (·.2)) (ls.map (·.2)) gs rs (ps.length + 1) i) ⟨⟨_,_,_,_,_,rfl⟩,rs,mc,λj hj=>absurd hj (z0 _)⟩ ?_ ?_ ?_
  ·rintro i σ H6 _ ⟨_,rs,mc,_⟩
   exact ⟨SqL.of (hls mc.go).l,SqL.of mc.g⟩
  ·rintro i x1 y1 z σ H6 hx1 hy1 hz ⟨⟨v9,v10,v11,v12,v13,rfl⟩,rs,mc,op⟩
   obtain ⟨r,hr,rfl⟩:=xR hx1
   obtain ⟨g,hg',rfl⟩:=xR hy1
   have mc7:=mc.same (yy (o:=HO.tup [V.ref r.1,V.bl g]) hz)
   have mr:=zB hr
   obtain ⟨w0,w1⟩:=lr r mr
   refine (un2 yx ?_)
   generalize upd H6 z (HO.tup [V.ref r.1,V.bl g])=H7 at mc7 ⊢
   have kr:=(hls mc7.go).each r mr
   refine (zr rfl (zr rfl (ixt kr rfl (ex6 b r.2.t rooms tr tm ps ⟨rfl,hbs mc7.go,by omega,λH8 s8=>?_⟩))))
   have mc8:=mc7.same s8
   have cl:cnt (ps.map (·.2)) r.2.t<=ps.length:=by
    have:=zi (λx:M4=>decide (x.t<=r.2.t)) (ps.map (·.2))
    rwa [zA] at this
   refine (zr rfl (zr2 rfl rfl (zr1 rfl ⟨⟨by omega,by omega,by omega,by omega⟩,?_⟩)))
   rw [show ((ps.length:Int) + 1 - ((cnt (ps.map (·.2)) r.2.t:Nat):Int)).toNat=ps.length + 1 - cnt (ps.map (·.2)) r.2.t by omega]
   generalize hc:cnt (ps.map (·.2)) r.2.t=c at cl ⊢
   refine xy (lo:=c) (n:=ps.length + 1 - c) (λj σ H6=>(∃ v11 v12 v13,σ=[some (.ref p),some (.ref b),some (.ref ll),some (.ref lw),some (.int rooms.length),some (.int ps.length),some (.ref lg),some (.ref lt),some (.ref lm),some (.ref r.1),some (.bl g),v11,v12,v13])/\∃ rs',MC p H lg lt lm as (ps.length + 1) rooms.length gs ts rs' H6/\Up38 rs rs'/\∀ k,g=true->c<=k->k < c + j->2<=mk38 rs' k r.2.w.toNat) ⟨⟨_,_,_,rfl⟩,rs,mc8,λ_ _ h=>h,λk _ h1 h2=>by omega⟩ ?_ ?_
   ·rintro j σ H9 hj ⟨⟨v11,v12,v13,rfl⟩,rs',mc9,up,h2⟩
    obtain ⟨a,ha,ka⟩:=mc9.row (k:=c + j) (by omega)
    have la:=(mc9.d.row (k:=c + j) (by omega)).1
    have kr:=(hls mc9.go).each r mr
    have am:atI ((rs'.getD (c + j) []).map V.int) r.2.w=some (.int (mk38 rs' (c + j) r.2.w.toNat)):=xu w0 (by rw [la];exact w1)
    have aa:atI (as.map V.ref) ((c:Int) + (j:Int))=some (V.ref a):=xb (j:=c + j) (by rw [zJ,ha];rfl)
    have nx:(g=true->2<=mk38 rs' (c + j) r.2.w.toNat)->∀ k,g=true->c<=k->k < c + (j + 1)->2<=mk38 rs' k r.2.w.toNat:=λh k g1 h3 h4=>by
     by_cases e:k=c + j
     ·rw [e];exact h g1
     ·exact h2 k g1 h3 (by omega)
    cases g with
    | false=>exact (zr rfl (zr rfl (iteB0 rfl (iteB0 rfl ⟨⟨_,_,_,rfl⟩,rs',mc9,up,nx nofun⟩))))
    | true=>
    refine (zr rfl (zr rfl (iteB1 rfl (zr rfl (zr rfl (ixl mc9.m aa (zr rfl (ixt kr rfl (ixl ka am (zr2 rfl rfl (zr rfl (iteD (λh3=>?_) λh3=>⟨⟨_,_,_,rfl⟩,rs',mc9,up,nx λ_=>by omega⟩))))))))))))
    refine (zr rfl (zr rfl (ixl mc9.m aa (zr rfl (ixt kr rfl (ixl ka am (zr2 rfl rfl ?_)))))))
    have wn:r.2.w.toNat < rooms.length:=by omega
    refine (zr rfl (zr rfl (ixl mc9.m aa (zr rfl (ixt kr rfl ⟨a,_,_,r.2.w.toNat,rfl,rfl,ka,ixNI w0 (by rw [zA,la];exact w1),?_⟩)))))
    have m3:=mc9.d.mk3 (k:=c + j) (by omega) wn
    have us:=up_set38 (v:=mk38 rs' (c + j) r.2.w.toNat + 2) mc9.d (k:=c + j) (by omega) wn (by omega)
    refine ⟨⟨_,_,_,rfl⟩,setM rs' (c + j) r.2.w.toNat (mk38 rs' (c + j) r.2.w.toNat + 2),mc9.set ha (by omega) (by omega) But.set (by rw [yx,List.map_set]),up.trans us,λk g1 h5 h6=>?_⟩
    by_cases e:k=c + j
    ·rw [e,mk_set38 mc9.d (by omega) wn,if_pos ⟨rfl,rfl⟩];omega
    ·exact us _ _ (h2 k g1 h5 (by omega))
   ·rintro σ H9 ⟨⟨v11,v12,v13,rfl⟩,rs',mc9,up,h2⟩
    refine ⟨⟨_,_,_,_,_,rfl⟩,rs',mc9,λj hj l hl hg k h3 h4=>?_⟩
    by_cases e:j=i
    ·subst e
     rw [xT hr] at hl;cases hl
     rw [hg'] at hg;cases hg
     exact h2 k rfl (by rw [<-hc];exact h3) (by omega)
    ·exact up _ _ (op j (by omega) l hl hg k h3 h4)
  rintro σ H6 ⟨⟨v9,v10,v11,v12,v13,rfl⟩,rs1,mc1,op⟩
  clear mc c
  rw [show (ls.map λa=>V.ref a.1).length=(ls.map (·.2)).length by rw [zA,zA]] at op
  refine (zr rfl (zr rfl ⟨by omega,by omega,?_⟩))
  refine xy (lo:=0) (n:=ps.length) (λi σ H6=>(∃ v9 v10 v11 v12 v13,σ=[some (.ref p),some (.ref b),some (.ref ll),some (.ref lw),some (.int rooms.length),some (.int ps.length),some (.ref lg),some (.ref lt),some (.ref lm),v9,v10,v11,v12,v13])/\∃ rs,MC p H lg lt lm as (ps.length + 1) rooms.length gs ts rs H6/\Opn38 (ps.map (·.2)) (ls.map (·.2)) gs rs (ps.length + 1) (ls.map (·.2)).length/\Gs38 rs rooms.length i) ⟨⟨_,_,_,_,_,rfl⟩,rs1,mc1,op,nofun⟩ ?_ ?_
  ·rintro i σ H6 hi ⟨⟨v9,v10,v11,v12,v13,rfl⟩,rs,mc,op,gs0⟩
   refine (zr rfl (zr rfl ⟨by omega,by omega,?_⟩))
   refine xy (lo:=0) (n:=rooms.length) (λj σ H6=>(∃ v12,σ=[some (.ref p),some (.ref b),some (.ref ll),some (.ref lw),some (.int rooms.length),some (.int ps.length),some (.ref lg),some (.ref lt),some (.ref lm),v9,v10,some (.int (0 + (i:Int))),v12,v13])/\∃ rs,MC p H lg lt lm as (ps.length + 1) rooms.length gs ts rs H6/\Opn38 (ps.map (·.2)) (ls.map (·.2)) gs rs (ps.length + 1) (ls.map (·.2)).length/\Gs38 rs rooms.length i/\Gw38 rs i j) ⟨⟨_,rfl⟩,rs,mc,op,gs0,nofun⟩ ?_ ?_
   ·rintro j σ H7 hj ⟨⟨v12,rfl⟩,rs,mc,op,gs0,gw⟩
    obtain ⟨a,ha,ka⟩:=mc.row (k:=i) (by omega)
    obtain ⟨a2,ha2,ka2⟩:=mc.row (k:=i + 1) (by omega)
    have la:=(mc.d.row (k:=i) (by omega)).1
    have la2:=(mc.d.row (k:=i + 1) (by omega)).1
    have aa:atI (as.map V.ref) (0 + (i:Int))=some (V.ref a):=by rw [zu];exact xb (by rw [zJ,ha];rfl)
    have aa2:atI (as.map V.ref) (0 + (i:Int) + 1)=some (V.ref a2):=by rw [zu];exact xb (j:=i + 1) (by rw [zJ,ha2];rfl)
    have am:atI ((rs.getD i []).map V.int) (0 + (j:Int))=some (.int (mk38 rs i j)):=by rw [zu];exact xu (yc _) (by rw [la];omega)
    have am2:atI ((rs.getD (i + 1) []).map V.int) (0 + (j:Int))=some (.int (mk38 rs (i + 1) j)):=by rw [zu];exact xu (yc _) (by rw [la2];omega)
    have keep:(2<=mk38 rs i j->mk38 rs (i + 1) j % 2=1)->Gw38 rs i (j + 1):=λh w hw h2=>by
     by_cases e:w=j
     ·rw [e] at h2 ⊢;exact h h2
     ·exact gw w (by omega) h2
    refine (zr rfl (zr rfl (ixl mc.m aa (zr rfl (ixl ka am (zr2 rfl rfl (zr rfl ?_)))))))
    by_cases h1:2<=mk38 rs i j
    rotate_left
    ·exact iteB0 (decide_eq_false h1) (iteB0 rfl ⟨⟨_,rfl⟩,rs,mc,op,gs0,keep λh=>absurd h h1⟩)
    refine iteB1 (decide_eq_true h1) (zr rfl (zr rfl (zr2 rfl rfl (ixl mc.m aa2 (zr rfl (ixl ka2 am2 (zr2 rfl rfl ⟨(by show (0:Int) < 2;decide),rfl,zr rfl ?_⟩)))))))
    by_cases h2:mk38 rs (i + 1) j % 2=0
    rotate_left
    ·exact iteB0 (decide_eq_false λz=>h2 (V.int.inj z)) ⟨⟨_,rfl⟩,rs,mc,op,gs0,keep λ_=>by omega⟩
    obtain ⟨y1,y2,y3,y4,y5⟩:=goes_step38 mc.d (by omega) (by omega) gs0 gw h2
    refine iteB1 (decide_eq_true (congrArg V.int h2)) (zr rfl (zr rfl (zr2 rfl rfl (ixl mc.m aa2 (zr rfl (ixl ka2 am2 (zr2 rfl rfl ?_)))))))
    refine (zr rfl (zr rfl (zr2 rfl rfl (ixl mc.m aa2 (zr rfl ⟨a2,_,_,j,rfl,rfl,ka2,by rw [zu];exact ixN_nat (by rw [zA,la2];exact hj),?_⟩)))))
    exact ⟨⟨_,rfl⟩,_,mc.set ha2 y4 y5 But.set (by rw [yx,List.map_set]),op.up y3,y1,y2⟩
   ·rintro σ H7 ⟨⟨v12,rfl⟩,rs,mc,op,gs0,gw⟩
    refine ⟨⟨_,_,_,_,_,rfl⟩,rs,mc,op,λk hk w hw h=>?_⟩
    by_cases e:k=i
    ·rw [e] at h ⊢;exact gw w hw h
    ·exact gs0 k (by omega) w hw h
  rintro σ H7 ⟨⟨v9,v10,v11,v12,v13,rfl⟩,rs,mc,op,gs0⟩
  clear mc1
  obtain ⟨zf,zs,zm,zw0⟩:=mc.zip
  have lws:(ws.map λa=>V.ref a.1).length=ws.length:=zA _
  have hws:∀ {H':Hp},Go p H H'->SacksAt H' lw ws:=λg=>hw.go38 g hp
  refine (zr rfl ⟨lw,zr rfl ⟨.inl (SqL.of (hws mc.go).l),zr rfl ⟨by omega,by omega,?_⟩⟩⟩)
  rw [lws]
  refine xy (lo:=0) (n:=ws.length) (λi σ H6=>(∃ v9 v10 v11 v12 v13,σ=[some (.ref p),some (.ref b),some (.ref ll),some (.ref lw),some (.int rooms.length),some (.int ps.length),some (.ref lg),some (.ref lt),some (.ref lm),v9,v10,v11,v12,v13])/\∃ ts,ts.length=ws.length/\MC p H lg lt lm as (ps.length + 1) rooms.length gs ts rs H6/\Td38 (ps.map (·.2)) (ls.map (·.2)) (ws.map (·.2)) gs ts rs i) ⟨⟨_,_,_,_,_,rfl⟩,ts,et,mc,λj hj=>absurd hj (z0 _)⟩ ?_ ?_
  ·rintro i σ H8 hi ⟨⟨v9,v10,v11,v12,v13,rfl⟩,ts,et,mc,td⟩
   obtain ⟨wt,hwt⟩:∃ r,ws[i]?=some r:=⟨_,zG hi⟩
   have mw:=zB hwt
   obtain ⟨w0,w1⟩:=wr wt mw
   have aw:atI (ws.map λa=>V.ref a.1) (0 + (i:Int))=some (V.ref wt.1):=by rw [zu];exact xb (by rw [zJ,hwt];rfl)
   have hl8:=hls mc.go
   have hw8:=hws mc.go
   have kw:=hw8.each wt mw
   refine (zr rfl (zr rfl ⟨ll,lg,rfl,⟨_,SqL.of hl8.l⟩,⟨_,SqL.of mc.g⟩,?_⟩))
   refine comp_zipL (K:=K) (a:=ll) (b:=lg) (xs:=ls.map λa=>V.ref a.1) (ys:=gs.map V.bl) (by rw [zA,zA,eg]) (λj τ acc H6=>(∃ t0 t1,τ=[t0,t1,some (.ref lw),some (.int (0 + (i:Int)))])/\acc=(((ls.zip gs).take j).filter λq=>q.2 && strB q.1.2 wt.2).map (λq=>V.ref q.1.1)/\Same H8 H6) ⟨⟨_,_,rfl⟩,rfl,Same.refl _⟩ (by rw [zA];omega) ?_ ?_ ?_
   ·rintro j τ acc H6 ⟨_,rfl,sm⟩
    refine ⟨?_,SqL.of (sm _ _ hl8.l),SqL.of (sm _ _ mc.g)⟩
    rw [zA]
    exact zk (zi _ _) (by rw [zT];omega)
   ·rintro j x y z τ acc H6 C hx hy hz ⟨⟨t0,t1,rfl⟩,rfl,sm⟩ hC
    obtain ⟨r,hr,rfl⟩:=xR hx
    obtain ⟨g,hg,rfl⟩:=xR hy
    have s6:=sm.trans (yy (o:=HO.tup [V.ref r.1,V.bl g]) hz)
    have st:=xX (zip_at hr hg)
    have kr:=s6 _ _ (hl8.each r (zB hr))
    have out:(g && strB r.2 wt.2)=false->C [some (V.ref r.1),some (V.bl g),some (.ref lw),some (.int (0 + (i:Int)))] ((((ls.zip gs).take j).filter λq=>q.2 && strB q.1.2 wt.2).map (λq=>V.ref q.1.1)) (upd H6 z (HO.tup [V.ref r.1,V.bl g])):=λe=>hC _ _ _ ⟨⟨_,_,rfl⟩,by rw [st,zZ,zC,yP (by rw [e];decide)];exact (zz _).symm,s6⟩
    refine (un2 yx (zr rfl (zr rfl ?_)))
    cases g with
    | false=>exact iteB0 rfl (iteB0 rfl (out rfl))
    | true=>
    refine iteB1 rfl (zr rfl (ixt kr rfl (zr rfl (zr rfl (ixl (s6 _ _ hw8.l) aw (ixt (s6 _ _ kw) rfl ⟨rfl,zr rfl ?_⟩))))))
    by_cases e1:r.2.w=wt.2.w
    rotate_left
    ·exact iteB0 (decide_eq_false λz=>e1 (V.int.inj z)) (iteB0 rfl (out (by unfold strB;rw [decide_eq_false e1];rfl)))
    refine iteB1 (decide_eq_true (by rw [e1])) (zr rfl (ixt kr rfl (zr rfl (zr rfl (ixl (s6 _ _ hw8.l) aw (ixt (s6 _ _ kw) rfl (zr2 rfl rfl (zr rfl ?_))))))))
    by_cases e2:r.2.t<=wt.2.t
    rotate_left
    ·exact iteB0 (decide_eq_false e2) (out (by unfold strB;rw [decide_eq_false e2,yM];rfl))
    refine iteB1 (decide_eq_true e2) (zr rfl (hC _ _ _ ⟨⟨_,_,rfl⟩,?_,s6⟩))
    rw [st,zZ,zC,yQ (by unfold strB;rw [decide_eq_true e1,decide_eq_true e2];rfl)];rfl
   rintro τ acc H9 ⟨⟨t0,t1,rfl⟩,rfl,sm⟩ lc hlc
   rw [show (ls.map λa=>V.ref a.1).length=(ls.zip gs).length by rw [zA,yG,eg];exact (yf _).symm,zU] at *
   have s9:=sm.trans (yy (o:=HO.lst (((ls.zip gs).filter λq=>q.2 && strB q.1.2 wt.2).map λq=>V.ref q.1.1)) hlc)
   have kc:upd H9 lc (HO.lst (((ls.zip gs).filter λq=>q.2 && strB q.1.2 wt.2).map λq=>V.ref q.1.1)) lc=some (.lst (((ls.zip gs).filter λq=>q.2 && strB q.1.2 wt.2).map λq=>V.ref q.1.1)):=yx
   generalize upd H9 lc _=H10 at s9 kc ⊢
   refine (zr rfl ⟨za _,λl0 hl0=>⟨lc,l0,zr rfl ⟨rfl,SqL.of (yy hl0 _ _ kc),SqL.of yx,zr rfl ?_⟩⟩⟩)
   have s11:=s9.trans (yy (o:=HO.lst []) hl0)
   generalize upd H10 l0 (HO.lst [])=H11 at s11 ⊢
   have mc11:=mc.same s11
   cases e5:(((ls.zip gs).filter λq=>q.2 && strB q.1.2 wt.2).map λq=>V.ref q.1.1).isEmpty with
   | false=>
    refine iteB1 (by rw [yX]) (iteB1 rfl (zr rfl (zr rfl ⟨lt,_,_,i,rfl,rfl,mc11.t,by rw [zu];exact ixN_nat (by rw [zA,et];exact hi),?_⟩)))
    exact ⟨⟨_,_,_,_,_,rfl⟩,ts.set i true,by rw [yo,et],mc11.put But.set (by rw [yx,List.map_set]),td_put38 td⟩
   | true=>
    obtain ⟨_,zs,zm,zw⟩:=mc11.zip
    refine iteB0 (by rw [yg]) (zr rfl (zr rfl (zr rfl (ixl ((hws mc11.go).l) aw (zr rfl (ex9 b wt.1 lm rooms tr tm ps wt.2 (as.zip rs) ⟨rfl,hbs mc11.go,m60,(hws mc11.go).each wt mw,w0,w1,zm,λx hx=>⟨(zw x hx).1,(zw x hx).2.1⟩,by rw [yG,mc11.al,mc11.d.len];exact yf _,λH12 s12=>(zr rfl ?_)⟩))))))
    have mc12:=mc11.same s12
    rw [zs]
    cases e6:behindB (ps.map (·.2)) rs wt.2 with
    | true=>
     refine iteB1 rfl (zr rfl (zr rfl ⟨lt,_,_,i,rfl,rfl,mc12.t,by rw [zu];exact ixN_nat (by rw [zA,et];exact hi),?_⟩))
     exact ⟨⟨_,_,_,_,_,rfl⟩,ts.set i true,by rw [yo,et],mc12.put But.set (by rw [yx,List.map_set]),td_put38 td⟩
    | false=>
     refine iteB0 rfl ⟨⟨_,_,_,_,_,rfl⟩,ts,et,mc12,td_keep38 td (xT hwt) e6 (near_nil38 (List.map_eq_nil_iff.mp (List.isEmpty_iff.mp e5)))⟩
  rintro σ H8 ⟨⟨v9,v10,v11,v12,v13,rfl⟩,ts,et,mc,td⟩
  obtain ⟨_,zs,zm,zw⟩:=mc.zip
  refine (zr rfl (zr rfl (zr rfl ⟨by show 3<=sizeLine;omega,λc hc=>?_⟩)))
  have sn:=yy (o:=HO.tup [V.ref lg,V.ref lt,V.ref lm]) hc
  have mc':=mc.same sn
  obtain ⟨_,zs,zm,zw⟩:=mc'.zip
  refine q c lg lt lm gs ts (as.zip rs) _ mc'.go yx ⟨hbs mc'.go,hls mc'.go,hws mc'.go,mc'.g,mc'.t,zm,λx hx=>(zw x hx).1⟩ ⟨r12,m60,l100,w100,eg,et,by rw [yG,mc'.al,mc'.d.len];exact yf _,λx hx=>(zw x hx).2.1,lr,wr⟩ (λx hx=>(zw x hx).2.2) ?_
  rw [zs]
  exact holds_true38 (nr:=rooms.length) (by rw [zA,eg]) (by rw [zA,et]) (by rw [zA];exact mc'.d) (by rw [zA];exact op) (by rw [zA];exact gs0) (by rw [zA];exact td)
theorem Cs:FnScope ["_law_book_here", "_law_loads", "_law_wants", "_law_cut_here", "_law_told", "_law_sacks_here", "_law_row_here"] ["_law_book_here", "_law_loads", "_law_wants", "_law_cut_here"] (defScope wO):=⟨rfl,rfl,rfl,by decide +kernel,rfl,by decide +kernel,by decide +kernel⟩
theorem D5 (T:Tx K mg a):FnOk P w K mg base CX0 2 a.Am a.AH ["_law_book_here", "_law_loads", "_law_wants", "_law_cut_here"] (spCutForm):=by
 have BL:=Co P w base T
 refine T.Aw.ok Cs (λvs H Q E h=>?_) (λcdv A outer s H vs Q E hr h=>?_)
 ·obtain ⟨_,_,_,_,_,_,_,_,_,_,rfl,_⟩:=h;rfl
 ·have nd:=Cs.nd
  have hu:=hr.units
  obtain ⟨b,ll,lw,v,rooms,tr,tm,ps,ls,ws,rfl,hb,hl,hw,l100,w100,r100,p100,dt,q⟩:=h
  refine ⟨_,(@xD _ _ _ (@xQ _ _ _ _ _ _ (@xW _ _ _ _ _ _ _ _ (@PW.pt _ _ _ (@pw_or _ _ _ _ _ _ _ (@xh _ _ _ _ (xV (xF (xc) (by rfl) T.b_isinstance zV (@yu _ _ _ (@yw _ _ _ _ _ (pv 3) (@yw _ _ _ _ _ (wP (v:=V.ty "tuple") rfl T.b_tuple yD rfl) xB rfl) rfl))))) (@wf _ _ _ _ (@xP _ _ _ _ _ _ _ _ op_ne (xF (xJ rfl) (by rfl) T.b_len PySem.boot_len (@yu _ _ _ (@yw _ _ _ _ _ (pv 3) xB rfl))) yt (nomark _))))) (@xD _ _ _ (@xS _ _ _ (@xN _ _ _ _ wB))) xO) (@xQ _ _ _ _ _ _ (xm PassesOwn.never rfl (@xp _ _ _ _ _ rfl (@xa _ _ _ _ (@yu _ _ _ (@yw _ _ _ _ _ (@wJ _ _ _ _ _ (@yu _ _ _ (@yw _ _ _ _ _ (@xG _ _ _ _ _ _ _ (xK rfl) (pv 3) yt (λ_ _=>rfl)) (@yw _ _ _ _ _ (pv 1) xB rfl) rfl))) (@yw _ _ _ _ _ (@wJ _ _ _ _ _ (@yu _ _ _ (@yw _ _ _ _ _ (@xG _ _ _ _ _ _ _ (xK rfl) (pv 3) yt (λ_ _=>rfl)) (@yw _ _ _ _ _ (pv 2) xB rfl) rfl))) xB rfl) rfl)))) (xZ (n:=2) rfl rfl (xE (xA (i:=4) nd rfl rfl) (xE (xA (i:=5) nd rfl rfl) xY))) (@xD _ _ _ (@xQ _ _ _ _ _ _ (@xW _ _ _ _ _ _ _ _ (@PW.pt _ _ _ (@pw_or _ _ _ _ _ _ _ (@xh _ _ _ _ (xV (xF (xc) (by rfl) T.b_isinstance zV (@yu _ _ _ (@yw _ _ _ _ _ (pv 4) (@yw _ _ _ _ _ (wP (v:=V.ty "list") rfl T.b_list zb rfl) xB rfl) rfl))))) (@wf _ _ _ _ (@xP _ _ _ _ _ _ _ _ op_ne (xF (xJ rfl) (by rfl) T.b_len PySem.boot_len (@yu _ _ _ (@yw _ _ _ _ _ (pv 4) xB rfl))) (xF (xJ rfl) (by rfl) T.b_len PySem.boot_len (@yu _ _ _ (@yw _ _ _ _ _ (pv 5) xB rfl))) (nomark _))))) (@xD _ _ _ (@xS _ _ _ (@xN _ _ _ _ wB))) xO) (@xS _ _ _ (@xW _ _ _ _ _ _ _ _ (@xh _ _ _ _ (xV (xF (call_all rfl rfl) (by rfl) T.b_all yU (@yu _ _ _ (@yw _ _ _ _ _ (xt (own:=["_law_one"]) (caps:=[]) rfl (show CompScope ["_law_one"] [] ["_law_book_here", "_law_loads", "_law_wants", "_law_cut_here", "_law_told", "_law_sacks_here", "_law_row_here"] (defScope wO) _ from ⟨rfl,by decide +kernel,by decide +kernel,by decide +kernel,by decide +kernel⟩) (@xp _ _ _ _ _ rfl (pv 4)) (λ_ _ _ _=>(xA (i:=0) (show List.Nodup (["_law_one"]:List Str) from by decide +kernel) rfl rfl)) (λ_ _ _ _=>wH) (λ_ _ _ _=>(xF (xc) (by rfl) T.b_isinstance zV (@yu _ _ _ (@yw _ _ _ _ _ (pv 0) (@yw _ _ _ _ _ (wP (v:=V.ty "bool") rfl T.b_bool PyProof.Rows.boot_bool rfl) xB rfl) rfl))))) xB rfl))))) (@xD _ _ _ (@xS _ _ _ (@xN _ _ _ _ wB))) xO))))) (@xQ _ _ _ _ _ _ (@xW _ _ _ _ _ _ _ _ (@PW.pt _ _ _ (@pw_or _ _ _ _ _ _ _ (@xh _ _ _ _ (xV (xF (xc) (by rfl) T.b_isinstance zV (@yu _ _ _ (@yw _ _ _ _ _ (@xG _ _ _ _ _ _ _ (xK rfl) (pv 3) yt (λ_ _=>rfl)) (@yw _ _ _ _ _ (wP (v:=V.ty "list") rfl T.b_list zb rfl) xB rfl) rfl))))) (@wf _ _ _ _ (@xP _ _ _ _ _ _ _ _ op_ne (xF (xJ rfl) (by rfl) T.b_len PySem.boot_len (@yu _ _ _ (@yw _ _ _ _ _ (@xG _ _ _ _ _ _ _ (xK rfl) (pv 3) yt (λ_ _=>rfl)) xB rfl))) (@xM _ _ _ _ _ _ _ _ xU (xF (xJ rfl) (by rfl) T.b_len PySem.boot_len (@yu _ _ _ (@yw _ _ _ _ _ (@xG _ _ _ _ _ _ _ (xK rfl) (pv 0) yt (λ_ _=>rfl)) xB rfl))) yt) (nomark _))))) (@xD _ _ _ (@xS _ _ _ (@xN _ _ _ _ wB))) xO) (@xQ _ _ _ _ _ _ (xm PassesOwn.never rfl (@xp _ _ _ _ _ rfl (@xG _ _ _ _ _ _ _ (xK rfl) (pv 3) yt (λ_ _=>rfl))) (xA (i:=6) nd rfl rfl) (@xD _ _ _ (@xQ _ _ _ _ _ _ (@xW _ _ _ _ _ _ _ _ (@PW.pt _ _ _ (@pw_or _ _ _ _ _ _ _ (@xh _ _ _ _ (xV (xF (xc) (by rfl) T.b_isinstance zV (@yu _ _ _ (@yw _ _ _ _ _ (pv 6) (@yw _ _ _ _ _ (wP (v:=V.ty "list") rfl T.b_list zb rfl) xB rfl) rfl))))) (@wf _ _ _ _ (@xP _ _ _ _ _ _ _ _ op_ne (xF (xJ rfl) (by rfl) T.b_len PySem.boot_len (@yu _ _ _ (@yw _ _ _ _ _ (pv 6) xB rfl))) (xF (xJ rfl) (by rfl) T.b_len PySem.boot_len (@yu _ _ _ (@yw _ _ _ _ _ (@xG _ _ _ _ _ _ _ (xK rfl) (pv 0) yt (λ_ _=>rfl)) xB rfl))) (nomark _))))) (@xD _ _ _ (@xS _ _ _ (@xN _ _ _ _ wB))) xO) (@xS _ _ _ (@xW _ _ _ _ _ _ _ _ (@xh _ _ _ _ (xV (xF (call_all rfl rfl) (by rfl) T.b_all yU (@yu _ _ _ (@yw _ _ _ _ _ (xt (own:=["_law_mark"]) (caps:=[]) rfl (show CompScope ["_law_mark"] [] ["_law_book_here", "_law_loads", "_law_wants", "_law_cut_here", "_law_told", "_law_sacks_here", "_law_row_here"] (defScope wO) _ from ⟨rfl,by decide +kernel,by decide +kernel,by decide +kernel,by decide +kernel⟩) (@xp _ _ _ _ _ rfl (pv 6)) (λ_ _ _ _=>(xA (i:=0) (show List.Nodup (["_law_mark"]:List Str) from by decide +kernel) rfl rfl)) (λ_ _ _ _=>wH) (λ_ _ _ _=>(@wg _ _ _ _ _ _ _ (xC BL (hr.mono (by decide)) rfl T.CB T.CC T.CD .nil pass0 (@yu _ _ _ (@yw _ _ _ _ _ (pv 0) xB rfl))) (@pe_one _ _ _ _ _ (pe_chain op_le op_le yt (pv 0) yt))))) xB rfl))))) (@xD _ _ _ (@xS _ _ _ (@xN _ _ _ _ wB))) xO))))) (@xS _ _ _ (@xN _ _ _ _ wB))))))),?_⟩
  have line:=line9
  have nq:∀ {H'},formV H ls.length ws.length (ps.length + 1) rooms.length v=false->Same H H'->Q (.bl false) H':=λ{H'} e s=>by have z:=q H' s;rwa [e] at z
  rcases dt with ⟨a,xs,rfl,kl,ex⟩ | ⟨a,xs,rfl,kl,ex⟩ | ⟨t,ht,n1,n2⟩
  ·refine (zr rfl ⟨_, "list", "tuple", rfl,wE kl,.inr (.inr (.inr rfl)),zr rfl (iteB1 rfl ?_)⟩)
   exact nq (no_tup (wE kl) (by decide) _ _ _ _) (Same.refl _)
  rotate_left
  ·refine (zr rfl ⟨_,t, "tuple", rfl,ht,.inr (.inr (.inr rfl)),zr rfl (iteB1 ?_ ?_)⟩)
   ·rcases wY ht with rfl | rfl | rfl | rfl | rfl | rfl | rfl <;> first | rfl | exact absurd rfl n2
   exact nq (no_tup ht n2 _ _ _ _) (Same.refl _)
  refine (zr rfl ⟨_, "tuple", "tuple", rfl,xj kl,.inr (.inr (.inr rfl)),zr rfl (iteB0 rfl (zr rfl ⟨a,zr rfl ⟨.inr (SqT.of kl),rfl,zr rfl ?_⟩⟩))⟩)
  by_cases e3:xs.length=3
  rotate_left
  ·refine iteB1 ?_ (nq (form_len kl e3 _ _ _ _) (Same.refl _))
   simp;omega
  obtain ⟨x,y,z,rfl⟩:=three38 e3
  have ef:=form_3 kl ls.length ws.length (ps.length + 1) rooms.length
  have dx:=ex x (by simp)
  have dy:=ex y (by simp)
  have dz:=ex z (by simp)
  refine iteB0 rfl (zr rfl (ixt kl rfl (zr rfl ⟨by show 2<=sizeLine;omega,λt1 h1=>?_⟩)))
  have s1:=yy (o:=HO.tup [x,V.ref ll]) h1
  refine (zr rfl (ixt (s1 _ _ kl) rfl (zr rfl ⟨by show 2<=sizeLine;omega,λt2 h2=>⟨by show 2<=sizeLine;omega,λlz hlz=>?_⟩⟩)))
  have s2:=s1.trans (yy (o:=HO.tup [y,V.ref lw]) h2)
  have s3:=s2.trans (yy (o:=HO.lst [V.ref t1,V.ref t2]) hlz)
  have k2:upd (upd (upd H t1 (HO.tup [x,V.ref ll])) t2 (HO.tup [y,V.ref lw])) lz (HO.lst [V.ref t1,V.ref t2]) t2=some (.tup [y,V.ref lw]):=yy hlz _ _ yx
  have k1:upd (upd (upd H t1 (HO.tup [x,V.ref ll])) t2 (HO.tup [y,V.ref lw])) lz (HO.lst [V.ref t1,V.ref t2]) t1=some (.tup [x,V.ref ll]):=yy hlz _ _ (yy h2 _ _ yx)
  have kz:upd (upd (upd H t1 (HO.tup [x,V.ref ll])) t2 (HO.tup [y,V.ref lw])) lz (HO.lst [V.ref t1,V.ref t2]) lz=some (.lst [V.ref t1,V.ref t2]):=yx
  generalize upd (upd (upd H t1 (HO.tup [x,V.ref ll])) t2 (HO.tup [y,V.ref lw])) lz (HO.lst [V.ref t1,V.ref t2])=H3 at s3 k1 k2 kz ⊢
  refine ⟨lz,rfl,⟨_,SqL.of kz⟩,?_⟩
  refine for_list (K:=K) (a:=lz) (xs:=[.ref t1,.ref t2]) (λi σ H6=>(∃ v4 v5 v6,σ=[some (.ref b),some (.ref ll),some (.ref lw),some (.ref a),v4,v5,v6])/\(1<=i->truthsV H ls.length x=true)/\(2<=i->truthsV H ws.length y=true)/\Same H3 H6) ⟨⟨_,_,_,rfl⟩,λh=>absurd h (by decide),λh=>absurd h (by decide),Same.refl _⟩ ?_ ?_ ?_
  ·rintro i σ H6 _ ⟨_,_,_,sm⟩
   exact SqL.of (sm _ _ kz)
  ·rintro i v σ H6 hv ⟨⟨v4,v5,v6,rfl⟩,i1,i2,sm⟩
   have s6:=s3.trans sm
   obtain ⟨tt,u,la,ss,rfl,kt,du,hla,l100',bad,good⟩:∃ tt u la ss,v=.ref tt/\H6 tt=some (.tup [u,.ref la])/\DT H 2 u/\SacksAt H la ss/\ss.length<=100/\(truthsV H ss.length u=false->formV H ls.length ws.length (ps.length + 1) rooms.length (.ref a)=false)/\(truthsV H ss.length u=true->(1<=i + 1->truthsV H ls.length x=true)/\(2<=i + 1->truthsV H ws.length y=true)):=by
    match i,hv with
    | 0,hv=>cases hv;exact ⟨t1,x,ll,ls,rfl,sm _ _ k1,dx,hl,l100,λe=>by rw [ef,e];rfl,λe=>⟨λ_=>e,λh=>absurd h (by decide)⟩⟩
    | 1,hv=>cases hv;exact ⟨t2,y,lw,ws,rfl,sm _ _ k2,dy,hw,w100,λe=>by rw [ef,e,yM];rfl,λe=>⟨λ_=>i1 (by decide),λ_=>e⟩⟩
    | n + 2,hv=>cases hv
   refine (un2 kt ?_)
   rcases du with ⟨l,zs,rfl,kl3,ez⟩ | ⟨l,zs,rfl,kl3,ez⟩ | ⟨t,ht,n1,n2⟩
   rotate_left
   ·refine (zr rfl ⟨_, "tuple", "list", rfl,xj (s6 _ _ kl3),.inr (.inr (.inl rfl)),zr rfl (iteB1 rfl ?_)⟩)
    exact nq (bad (xf (xj kl3) (by decide) _ 0).1) s6
   ·refine (zr rfl ⟨_,t, "list", rfl,wF s6 ht,.inr (.inr (.inl rfl)),zr rfl (iteB1 ?_ ?_)⟩)
    ·rcases wY ht with rfl | rfl | rfl | rfl | rfl | rfl | rfl <;> first | rfl | exact absurd rfl n1
    exact nq (bad (xf ht n1 _ 0).1) s6
   have tv:=truthsV_l (n:=ss.length) kl3
   refine (zr rfl ⟨_, "list", "list", rfl,wE (s6 _ _ kl3),.inr (.inr (.inl rfl)),zr rfl (iteB0 rfl (zr rfl ⟨l,zr rfl ⟨.inl (SqL.of (s6 _ _ kl3)),zr rfl ⟨la,zr rfl ⟨.inl (SqL.of (s6 _ _ hla.l)),rfl,zr rfl ?_⟩⟩⟩⟩))⟩)
   by_cases e:zs.length=ss.length
   rotate_left
   ·refine iteB1 ?_ (nq (bad (by rw [tv,decide_eq_false e];rfl)) s6)
    rw [zA];simp;omega
   refine iteB0 (by rw [zA];simp;omega) ?_
   rw [decide_eq_true e,zQ] at tv
   refine (zr rfl ⟨l,rfl,⟨_,SqL.of (s6 _ _ kl3)⟩,?_⟩)
   refine xz (K:=K) (a:=l) (xs:=zs) (λi τ acc H5=>(∃ t0,τ=[t0])/\acc=((zs.take i).map isBl).map V.bl/\Same H6 H5) ⟨⟨_,rfl⟩,rfl,Same.refl _⟩ (by omega) ?_ ?_ ?_
   ·rintro i τ acc H5 ⟨_,rfl,s5⟩
    refine ⟨?_,SqL.of (s5 _ _ (s6 _ _ kl3))⟩
    rw [zA,zA,zT];omega
   ·rintro i v τ acc H5 C hv ⟨⟨t0,rfl⟩,rfl,s5⟩ hC
    obtain ⟨ty,hty⟩:=(ez v (zB hv)).ty
    refine (zr rfl ⟨v,ty, "bool", rfl,wF (s6.trans s5) hty,.inr (.inl rfl),?_⟩)
    rw [show isSub ty "bool" = isBl v from isBl_of hty]
    refine hC _ _ _ ⟨⟨_,rfl⟩,?_,s5⟩
    rw [xX hv,zC,zC];rfl
   ·rintro τ acc H5 ⟨⟨t0,rfl⟩,rfl,s5⟩ lc hlc
    have s5':=s5.trans (yy (o:=HO.lst (((zs.take zs.length).map isBl).map V.bl)) hlc)
    refine ⟨lc,zr rfl ⟨SqL.of yx,zr rfl ?_⟩⟩
    rw [zU,yr] at *
    cases e5:zs.all (id ∘ isBl) with
    | false=>exact iteB1 rfl (nq (bad (by rw [tv];exact e5)) (s6.trans s5'))
    | true=>
     obtain ⟨j1,j2⟩:=good (by rw [tv];exact e5)
     exact iteB0 rfl ⟨⟨_,_,_,rfl⟩,j1,j2,sm.trans s5'⟩
  rintro σ H6 ⟨⟨v4,v5,v6,rfl⟩,i1,i2,sm⟩
  have s12:=s3.trans sm
  have c1:truthsV H ls.length x=true:=i1 (yp 1)
  have c2:truthsV H ws.length y=true:=i2 (zF 2)
  rw [c1,c2,zQ,zQ] at ef
  rcases dz with ⟨l,zs,rfl,kl3,ez⟩ | ⟨l,zs,rfl,kl3,ez⟩ | ⟨t,ht,n1,n2⟩
  rotate_left
  ·refine (zr rfl (ixt (s12 _ _ kl) rfl ⟨_, "tuple", "list", rfl,xj (s12 _ _ kl3),.inr (.inr (.inl rfl)),zr rfl (iteB1 rfl ?_)⟩))
   exact nq (by rw [ef,(xf (xj kl3) (by decide) _ _).2.2]) s12
  ·refine (zr rfl (ixt (s12 _ _ kl) rfl ⟨_,t, "list", rfl,wF s12 ht,.inr (.inr (.inl rfl)),zr rfl (iteB1 ?_ ?_)⟩))
   ·rcases wY ht with rfl | rfl | rfl | rfl | rfl | rfl | rfl <;> first | rfl | exact absurd rfl n1
   exact nq (by rw [ef,(xf ht n1 _ _).2.2]) s12
  have hb2:=hb.same s12
  refine (zr rfl (ixt (s12 _ _ kl) rfl ⟨_, "list", "list", rfl,wE (s12 _ _ kl3),.inr (.inr (.inl rfl)),zr rfl (iteB0 rfl (zr rfl (ixt (s12 _ _ kl) rfl ⟨l,zr rfl ⟨.inl (SqL.of (s12 _ _ kl3)),zr rfl (ixt hb2.book rfl ⟨tm,zr rfl ⟨.inr (SqT.of hb2.meets),zr2 rfl rfl ⟨rfl,zr rfl ?_⟩⟩⟩)⟩⟩)))⟩))
  rw [rowsV_l kl3] at ef
  by_cases c3:zs.length=ps.length + 1
  rotate_left
  ·refine iteB1 ?_ (nq (by rw [ef,decide_eq_false c3];rfl) s12)
   rw [zA];simp;omega
  refine iteB0 (by rw [zA];simp;omega) ?_
  rw [decide_eq_true c3,zQ] at ef
  refine (zr rfl (ixt (s12 _ _ kl) rfl ⟨l,rfl,⟨_,SqL.of (s12 _ _ kl3)⟩,?_⟩))
  refine for_list (K:=K) (a:=l) (xs:=zs) (λi σ H7=>(∃ v4 v5 v6,σ=[some (.ref b),some (.ref ll),some (.ref lw),some (.ref a),v4,v5,v6])/\(zs.take i).all (marksV H rooms.length)=true/\Same H6 H7) ⟨⟨_,_,_,rfl⟩,rfl,Same.refl _⟩ ?_ ?_ ?_
  ·rintro i σ H7 _ ⟨_,_,s7⟩
   exact SqL.of (s7 _ _ (s12 _ _ kl3))
  ·rintro i v σ H7 hv ⟨⟨v4,v5,v6,rfl⟩,al,s7⟩
   have s17:=s12.trans s7
   have mv:=zB hv
   have bad:marksV H rooms.length v=false->formV H ls.length ws.length (ps.length + 1) rooms.length (.ref a)=false:=λe=>by
    rw [ef]
    exact Bool.eq_false_iff.mpr λz=>by have:=zg.mp z v mv;rw [e] at this;cases this
   have good:marksV H rooms.length v=true->(zs.take (i + 1)).all (marksV H rooms.length)=true:=λe=>by rw [xX hv,List.all_append,al,zQ,yR,e];rfl
   rcases ez v mv with ⟨l2,us,rfl,k2',eu⟩ | ⟨l2,us,rfl,k2',eu⟩ | ⟨t,ht,n1,n2⟩
   rotate_left
   ·refine (zr rfl ⟨_, "tuple", "list", rfl,xj (s17 _ _ k2'),.inr (.inr (.inl rfl)),zr rfl (iteB1 rfl ?_)⟩)
    exact nq (bad (xf (xj k2') (by decide) _ 0).2.1) s17
   ·refine (zr rfl ⟨_,t, "list", rfl,wF s17 ht,.inr (.inr (.inl rfl)),zr rfl (iteB1 ?_ ?_)⟩)
    ·rcases wY ht with rfl | rfl | rfl | rfl | rfl | rfl | rfl <;> first | rfl | exact absurd rfl n1
    exact nq (bad (xf ht n1 _ 0).2.1) s17
   have tv:=marksV_l (n:=rooms.length) k2'
   have hb7:=hb.same s17
   refine (zr rfl ⟨_, "list", "list", rfl,wE (s17 _ _ k2'),.inr (.inr (.inl rfl)),zr rfl (iteB0 rfl (zr rfl ⟨l2,zr rfl ⟨.inl (SqL.of (s17 _ _ k2')),zr rfl (ixt hb7.book rfl ⟨tr,zr rfl ⟨.inr (SqT.of hb7.rooms),rfl,zr rfl ?_⟩⟩)⟩⟩))⟩)
   by_cases e:us.length=rooms.length
   rotate_left
   ·refine iteB1 ?_ (nq (bad (by rw [tv,decide_eq_false e];rfl)) s17)
    rw [zA];simp;omega
   refine iteB0 (by rw [zA];simp;omega) ?_
   rw [decide_eq_true e,zQ] at tv
   refine (zr rfl ⟨l2,rfl,⟨_,SqL.of (s17 _ _ k2')⟩,?_⟩)
   refine xz (K:=K) (a:=l2) (xs:=us) (λi τ acc H5=>(∃ t0,τ=[t0])/\acc=((us.take i).map (inB 0 3)).map V.bl/\Same H7 H5) ⟨⟨_,rfl⟩,rfl,Same.refl _⟩ (by omega) ?_ ?_ ?_
   ·rintro i τ acc H5 ⟨_,rfl,s5⟩
    refine ⟨?_,SqL.of (s5 _ _ (s17 _ _ k2'))⟩
    rw [zA,zA,zT];omega
   ·rintro i v τ acc H5 C hv ⟨⟨t0,rfl⟩,rfl,s5⟩ hC
    obtain ⟨ty,hty⟩:=eu v (zB hv)
    have fin:∀ bb,bb=inB 0 3 v->C [some v] (((us.take i).map (inB 0 3)).map V.bl++[V.bl bb]) H5:=λbb e=>hC _ _ _ ⟨⟨_,rfl⟩,by rw [xX hv,zC,zC,e];rfl,s5⟩
    refine (zr rfl ⟨v,ty,rfl,wF (s17.trans s5) hty,zr rfl ?_⟩)
    by_cases ei:ty = "int"
    ·subst ei
     obtain ⟨m,rfl⟩:=tyS_int hty
     refine iteB1 rfl (zr rfl (zr2 rfl rfl (zr rfl ?_)))
     by_cases h1:(0:Int)<=m
     ·refine iteB1 (decide_eq_true h1) (zr2 rfl rfl (fin _ ?_))
      show decide (m<=3)=(decide ((0:Int)<=m) && decide (m<=3))
      rw [decide_eq_true h1,zQ]
     ·refine iteB0 (decide_eq_false h1) (fin _ ?_)
      show false=(decide ((0:Int)<=m) && decide (m<=3))
      rw [decide_eq_false h1,yE]
    ·exact iteB0 (by simpa using ei) (fin _ (by rw [inB_no hty ei]))
   ·rintro τ acc H5 ⟨⟨t0,rfl⟩,rfl,s5⟩ lc hlc
    have s5':=s5.trans (yy (o:=HO.lst (((us.take us.length).map (inB 0 3)).map V.bl)) hlc)
    refine ⟨lc,zr rfl ⟨SqL.of yx,zr rfl ?_⟩⟩
    rw [zU,yr] at *
    cases e5:us.all (id ∘ inB 0 3) with
    | false=>exact iteB1 rfl (nq (bad (by rw [tv];exact e5)) (s17.trans s5'))
    | true=>exact iteB0 rfl ⟨⟨_,_,_,rfl⟩,good (by rw [tv];exact e5),s7.trans s5'⟩
  rintro σ H7 ⟨_,al,s7⟩
  have z:=q _ (s12.trans s7)
  rw [zU] at al
  rw [ef,al] at z
  exact z
theorem Cj:FnScope ["_law_book_here", "_law_loads", "_law_wants", "_law_cut_here", "_law_given", "_law_taken", "_law_marks", "_law_many", "_law_walker", "_law_k", "_law_load", "_law_truth", "_law_from", "_law_shut", "_law_want", "_law_in", "_law_begins", "_law_near"] ["_law_book_here", "_law_loads", "_law_wants", "_law_cut_here"] (defScope wL):=⟨rfl,rfl,rfl,by decide +kernel,rfl,by decide +kernel,by decide +kernel⟩
theorem DK (T:Tx K mg a):FnOk P w K mg base CX0 1 a.Aj a.AC ["_law_book_here", "_law_loads", "_law_wants", "_law_cut_here"] (spHolds38):=by
 refine T.Ar.ok Cj (λvs H Q E h=>?_) (λcdv A outer s H vs Q E hr h=>?_)
 ·obtain ⟨_,_,_,_,_,_,_,_,_,_,_,_,_,_,_,_,rfl,_⟩:=h;rfl
 ·have nd:=Cj.nd
  have hu:=hr.units
  obtain ⟨b,ll,lw,rooms,tr,tm,ps,ls,ws,c,lg,lt,lm,gs,ts,ms,rfl,kc,co,ok,gd,hm,q⟩:=h
  refine ⟨_,(@xD _ _ _ (@xQ _ _ _ _ _ _ (ps_asg (pv 3) (xZ (n:=3) rfl rfl (xE (xA (i:=4) nd rfl rfl) (xE (xA (i:=5) nd rfl rfl) (xE (xA (i:=6) nd rfl rfl) xY))))) (@xQ _ _ _ _ _ _ (xL (i:=7) nd rfl rfl (xF (xJ rfl) (by rfl) T.b_len PySem.boot_len (@yu _ _ _ (@yw _ _ _ _ _ (@xG _ _ _ _ _ _ _ (xK rfl) (pv 0) yt (λ_ _=>rfl)) xB rfl)))) (@xQ _ _ _ _ _ _ (xm PassesOwn.never rfl (xq rfl T.b_range (@yu _ _ _ (@yw _ _ _ _ _ (xF (xJ rfl) (by rfl) T.b_len PySem.boot_len (@yu _ _ _ (@yw _ _ _ _ _ (@xG _ _ _ _ _ _ _ (xK rfl) (pv 0) yt (λ_ _=>rfl)) xB rfl))) xB rfl))) (xA (i:=8) nd rfl rfl) (@xD _ _ _ (@xS _ _ _ (xm PassesOwn.never rfl (xq rfl T.b_range (@yu _ _ _ (@yw _ _ _ _ _ (pv 7) xB rfl))) (xA (i:=9) nd rfl rfl) (@xD _ _ _ (@xS _ _ _ (@xW _ _ _ _ _ _ _ _ (@PW.pt _ _ _ (@wI _ _ _ _ _ _ _ (@xP _ _ _ _ _ _ _ _ op_ge (@xG _ _ _ _ _ _ _ (xI rfl) (@xG _ _ _ _ _ _ _ (xI rfl) (pv 6) (pv 9) (λ_ _=>rfl)) (pv 8) (λ_ _=>rfl)) yt (nomark _)) (@wC _ _ _ _ (@xP _ _ _ _ _ _ _ _ xw (@xM _ _ _ _ _ _ _ _ wj (@xG _ _ _ _ _ _ _ (xI rfl) (@xG _ _ _ _ _ _ _ (xI rfl) (pv 6) (@xM _ _ _ _ _ _ _ _ xU (pv 9) yt) (λ_ _=>rfl)) (pv 8) (λ_ _=>rfl)) yt) yt (nomark _))))) (@xD _ _ _ (@xS _ _ _ (@xN _ _ _ _ wB))) xO))))))) (@xQ _ _ _ _ _ _ (xm PassesOwn.never rfl (wR rfl rfl T.b_zip (@yu _ _ _ (@yw _ _ _ _ _ (pv 1) (@yw _ _ _ _ _ (pv 4) xB rfl) rfl))) (xZ (n:=2) rfl rfl (xE (xA (i:=10) nd rfl rfl) (xE (xA (i:=11) nd rfl rfl) xY))) (@xD _ _ _ (@xQ _ _ _ _ _ _ (xL (i:=12) nd rfl rfl (xF (xJ rfl) (by rfl) T.b_len PySem.boot_len (@yu _ _ _ (@yw _ _ _ _ _ (xt (own:=["_law_meeting"]) (caps:=[10]) rfl (show CompScope ["_law_meeting"] [10] ["_law_book_here", "_law_loads", "_law_wants", "_law_cut_here", "_law_given", "_law_taken", "_law_marks", "_law_many", "_law_walker", "_law_k", "_law_load", "_law_truth", "_law_from", "_law_shut", "_law_want", "_law_in", "_law_begins", "_law_near"] (defScope wL) _ from ⟨rfl,by decide +kernel,by decide +kernel,by decide +kernel,by decide +kernel⟩) (@pi_tup'' _ _ _ _ _ rfl (@xG _ _ _ _ _ _ _ (xK rfl) (pv 0) yt (λ_ _=>rfl))) (λ_ _ _ _=>(xA (i:=0) (show List.Nodup (["_law_meeting", "_law_load"]:List Str) from by decide +kernel) rfl rfl)) (λ_ _ _ _=>wX (@xP _ _ _ _ _ _ _ _ op_le (@xG _ _ _ _ _ _ _ (xK rfl) (pv 0) yt (λ_ _=>rfl)) (@xG _ _ _ _ _ _ _ (xK rfl) (pv 1) yt (λ_ _=>rfl)) (nomark _))) (λ_ _ _ _=>(pv 0))) xB rfl)))) (@xQ _ _ _ _ _ _ (ps_setComp (ix:=13) nd rfl rfl (own:=["_law_row_here"]) (caps:=[10]) rfl (show CompScope ["_law_row_here"] [10] ["_law_book_here", "_law_loads", "_law_wants", "_law_cut_here", "_law_given", "_law_taken", "_law_marks", "_law_many", "_law_walker", "_law_k", "_law_load", "_law_truth", "_law_from", "_law_shut", "_law_want", "_law_in", "_law_begins", "_law_near"] (defScope wL) _ from ⟨rfl,by decide +kernel,by decide +kernel,by decide +kernel,by decide +kernel⟩) (@xp _ _ _ _ _ rfl (@wK _ _ _ _ _ _ _ _ _ _ (wN rfl) (pv 6) (@wQ _ _ _ (pv 12)) wW)) (λ_ _ _ _=>(xA (i:=0) (show List.Nodup (["_law_row_here", "_law_load"]:List Str) from by decide +kernel) rfl rfl)) (λ_ _ _ _=>wX (@xP _ _ _ _ _ _ _ _ op_lt (@xG _ _ _ _ _ _ _ (xI rfl) (pv 0) (@xG _ _ _ _ _ _ _ (xK rfl) (pv 1) yt (λ_ _=>rfl)) (λ_ _=>rfl)) yt (nomark _))) (λ_ _ _ _=>(pv 0))) (@xS _ _ _ (@xW _ _ _ _ _ _ _ _ (@PW.pt _ _ _ (@wI _ _ _ _ _ _ _ (xV (pv 11)) (@wC _ _ _ _ (@xP _ _ _ _ _ _ _ _ (op_neNil hu) (pv 13) (@xa _ _ _ _ wd) (nomark _))))) (@xD _ _ _ (@xS _ _ _ (@xN _ _ _ _ wB))) xO)))))) (@xQ _ _ _ _ _ _ (xm PassesOwn.never rfl (wR rfl rfl T.b_zip (@yu _ _ _ (@yw _ _ _ _ _ (pv 2) (@yw _ _ _ _ _ (pv 5) xB rfl) rfl))) (xZ (n:=2) rfl rfl (xE (xA (i:=14) nd rfl rfl) (xE (xA (i:=11) nd rfl rfl) xY))) (@xD _ _ _ (@xQ _ _ _ _ _ _ (xm PassesOwn.never rfl (xq rfl T.b_range (@yu _ _ _ (@yw _ _ _ _ _ (pv 7) xB rfl))) (xA (i:=9) nd rfl rfl) (@xD _ _ _ (@xQ _ _ _ _ _ _ (xL (i:=15) nd rfl rfl (@wg _ _ _ _ _ _ _ (@wD _ _ _ _ _ _ _ _ xw (@xM _ _ _ _ _ _ _ _ wj (@xG _ _ _ _ _ _ _ (xI rfl) (@xG _ _ _ _ _ _ _ (xI rfl) (pv 6) (@xM _ _ _ _ _ _ _ _ xU (pv 9) yt) (λ_ _=>rfl)) (@xG _ _ _ _ _ _ _ (xK rfl) (pv 14) yt (λ_ _=>rfl)) (λ_ _=>rfl)) yt) yt (nomark _)) (@pe_one _ _ _ _ _ (@wD _ _ _ _ _ _ _ _ op_le (@xG _ _ _ _ _ _ _ (xK rfl) (@xG _ _ _ _ _ _ _ (xK rfl) (@xG _ _ _ _ _ _ _ (xK rfl) (pv 0) yt (λ_ _=>rfl)) (pv 9) (λ_ _=>rfl)) yt (λ_ _=>rfl)) (@xG _ _ _ _ _ _ _ (xK rfl) (pv 14) yt (λ_ _=>rfl)) (nomark _))))) (@xS _ _ _ (@xW _ _ _ _ _ _ _ _ (@PW.pt _ _ _ (@wI _ _ _ _ _ _ _ (xV (pv 15)) (@wC _ _ _ _ (@xh _ _ _ _ (xV (pv 11)))))) (@xD _ _ _ (@xS _ _ _ (@xN _ _ _ _ wB))) xO))))) (@xS _ _ _ (xm PassesOwn.never rfl (wR rfl rfl T.b_zip (@yu _ _ _ (@yw _ _ _ _ _ (pv 1) (@yw _ _ _ _ _ (pv 4) xB rfl) rfl))) (xZ (n:=2) rfl rfl (xE (xA (i:=10) nd rfl rfl) (xE (xA (i:=16) nd rfl rfl) xY))) (@xD _ _ _ (@xQ _ _ _ _ _ _ (xL (i:=17) nd rfl rfl (@wg _ _ _ _ _ _ _ (@wD _ _ _ _ _ _ _ _ xw (@xG _ _ _ _ _ _ _ (xK rfl) (pv 10) yt (λ_ _=>rfl)) (@xG _ _ _ _ _ _ _ (xK rfl) (pv 14) yt (λ_ _=>rfl)) (nomark _)) (@pe_one _ _ _ _ _ (@wD _ _ _ _ _ _ _ _ op_le (@xG _ _ _ _ _ _ _ (xK rfl) (pv 10) yt (λ_ _=>rfl)) (@xG _ _ _ _ _ _ _ (xK rfl) (pv 14) yt (λ_ _=>rfl)) (nomark _))))) (@xS _ _ _ (@xW _ _ _ _ _ _ _ _ (@PW.pt _ _ _ (@wI _ _ _ _ _ _ _ (xV (pv 16)) (@wI _ _ _ _ _ _ _ (xV (pv 17)) (@wC _ _ _ _ (@xh _ _ _ _ (xV (pv 11))))))) (@xD _ _ _ (@xS _ _ _ (@xN _ _ _ _ wB))) xO))))))))) (@xS _ _ _ (@xN _ _ _ _ wB)))))))),?_⟩
  have line:=line9
  have m60:=gd.few
  rw [zA] at m60
  have d:Dim38 ((ps.map (·.2)).length + 1) rooms.length (ms.map (·.2)):=by rw [zA];exact ok.dim hm
  have o1:=ok.r12
  have o3:=ok.l
  have o4:=ok.w
  have o5:=ok.lg
  have o6:=ok.lt
  have o7:=ok.lm
  have bad:(holdsF (ps.map (·.2)) (ls.map (·.2)) (ws.map (·.2)) gs ts (ms.map (·.2))=true->False)->∀ {H'},Same H H'->Q (.bl false) H':=λf H' s=>by have z:=q H' s;rwa [Bool.eq_false_iff.mpr f] at z
  have inv:=λh=>holds_inv38 (ms:=ps.map (·.2)) (ls:=ls.map (·.2)) (ws:=ws.map (·.2)) (gs:=gs) (ts:=ts) d h
  have pl:(ps.map (·.2)).length=ps.length:=zA _
  have ll':(ls.map (·.2)).length=ls.length:=zA _
  have wl':(ws.map (·.2)).length=ws.length:=zA _
  rw [pl,ll',wl'] at inv
  have row:∀ {k:Nat},k < ps.length + 1->∃ r,ms[k]?=some r/\r.2.length=rooms.length/\∀ j:Nat,at38 r.2 j=mk38 (ms.map (·.2)) k j:=λ{k} hk=>by
   obtain ⟨r,hr⟩:∃ r,ms[k]?=some r:=⟨_,zG (by omega)⟩
   exact ⟨r,hr,ok.rows r (zB hr),λj=>wM (xT hr) j⟩
  refine (zr rfl (un3 kc ?_))
  refine (zr rfl (ixt co.b.book rfl ⟨tm,zr rfl ⟨.inr (SqT.of co.b.meets),?_⟩⟩))
  refine (zr rfl (ixt co.b.book rfl ⟨tr,zr rfl ⟨.inr (SqT.of co.b.rooms),?_⟩⟩))
  rw [zA,zA]
  refine (zr rfl ⟨by omega,by omega,?_⟩)
  refine xy (lo:=0) (n:=rooms.length) (λi σ H6=>(∃ v8 v9 v10 v11 v12 v13 v14 v15 v16 v17,σ=[some (.ref b),some (.ref ll),some (.ref lw),some (.ref c),some (.ref lg),some (.ref lt),some (.ref lm),some (.int ps.length),v8,v9,v10,v11,v12,v13,v14,v15,v16,v17])/\(∀ w < i,∀ k < ps.length,2<=mk38 (ms.map (·.2)) k w->mk38 (ms.map (·.2)) (k + 1) w % 2=1)/\Same H H6) ⟨⟨_,_,_,_,_,_,_,_,_,_,rfl⟩,nofun,Same.refl _⟩ ?_ ?_
  ·rintro i σ H6 hi ⟨⟨v8,v9,v10,v11,v12,v13,v14,v15,v16,v17,rfl⟩,al,sm⟩
   refine (zr rfl (zr rfl ⟨by omega,by omega,?_⟩))
   refine xy (lo:=0) (n:=ps.length) (λk σ H7=>(∃ v9,σ=[some (.ref b),some (.ref ll),some (.ref lw),some (.ref c),some (.ref lg),some (.ref lt),some (.ref lm),some (.int ps.length),some (.int (0 + (i:Int))),v9,v10,v11,v12,v13,v14,v15,v16,v17])/\(∀ k' < k,2<=mk38 (ms.map (·.2)) k' i->mk38 (ms.map (·.2)) (k' + 1) i % 2=1)/\Same H H7) ⟨⟨_,rfl⟩,nofun,sm⟩ ?_ ?_
   ·rintro k σ H7 hk ⟨⟨v9,rfl⟩,ak,s7⟩
    obtain ⟨r,hr,lr,er⟩:=row (k:=k) (by omega)
    obtain ⟨r2,hr2,lr2,er2⟩:=row (k:=k + 1) (by omega)
    have c7:=co.same s7
    have aa:atI (ms.map λa=>V.ref a.1) (0 + (k:Int))=some (V.ref r.1):=by rw [zu];exact xb (by rw [zJ,hr];rfl)
    have aa2:atI (ms.map λa=>V.ref a.1) (0 + (k:Int) + 1)=some (V.ref r2.1):=by rw [zu];exact xb (j:=k + 1) (by rw [zJ,hr2];rfl)
    have am:atI (r.2.map V.int) (0 + (i:Int))=some (.int (mk38 (ms.map (·.2)) k i)):=by rw [zu,<- er];exact xu (yc _) (by rw [lr];omega)
    have am2:atI (r2.2.map V.int) (0 + (i:Int))=some (.int (mk38 (ms.map (·.2)) (k + 1) i)):=by rw [zu,<- er2];exact xu (yc _) (by rw [lr2];omega)
    have keep:(2<=mk38 (ms.map (·.2)) k i->mk38 (ms.map (·.2)) (k + 1) i % 2=1)->∀ k' < k + 1,2<=mk38 (ms.map (·.2)) k' i->mk38 (ms.map (·.2)) (k' + 1) i % 2=1:=λh k' hk' h2=>by
     by_cases e:k'=k
     ·rw [e] at h2 ⊢;exact h h2
     ·exact ak k' (by omega) h2
    refine (zr rfl (zr rfl (ixl c7.m aa (zr rfl (ixl (c7.rows r (zB hr)) am (zr2 rfl rfl (zr rfl ?_)))))))
    by_cases h1:2<=mk38 (ms.map (·.2)) k i
    rotate_left
    ·exact iteB0 (decide_eq_false h1) (iteB0 rfl ⟨⟨_,rfl⟩,keep λh=>absurd h h1,s7⟩)
    refine iteB1 (decide_eq_true h1) (zr rfl (zr rfl (zr2 rfl rfl (ixl c7.m aa2 (zr rfl (ixl (c7.rows r2 (zB hr2)) am2 (zr2 rfl rfl ⟨(by show (0:Int) < 2;decide),rfl,zr rfl ?_⟩)))))))
    by_cases h2:mk38 (ms.map (·.2)) (k + 1) i % 2=0
    rotate_left
    ·exact iteB0 (decide_eq_false λz=>h2 (V.int.inj z)) ⟨⟨_,rfl⟩,keep λ_=>by omega,s7⟩
    refine iteB1 (decide_eq_true (congrArg V.int h2)) (bad (λh=>?_) s7)
    have:=(inv h).2.1 k hk i hi h1
    omega
   ·rintro σ H7 ⟨⟨v9,rfl⟩,ak,s7⟩
    refine ⟨⟨_,_,_,_,_,_,_,_,_,_,rfl⟩,λw hw k hk h=>?_,s7⟩
    by_cases e:w=i
    ·rw [e] at h ⊢;exact ak k hk h
    ·exact al w (by omega) k hk h
  rintro σ H6 ⟨⟨v8,v9,v10,v11,v12,v13,v14,v15,v16,v17,rfl⟩,al,sm⟩
  have hgo:Gs38 (ms.map (·.2)) rooms.length ps.length:=λk hk w hw h=>al w hw k hk h
  have co6:=co.same sm
  refine (zr rfl (zr rfl ⟨ll,lg,rfl,⟨_,SqL.of co6.l.l⟩,⟨_,SqL.of co6.g⟩,?_⟩))
  refine wk (K:=K) (a:=ll) (b:=lg) (xs:=ls.map λa=>V.ref a.1) (ys:=gs.map V.bl) (by rw [zA,zA,o5]) (λi σ H6=>(∃ v8 v9 v10 v11 v12 v13 v14 v15 v16 v17,σ=[some (.ref b),some (.ref ll),some (.ref lw),some (.ref c),some (.ref lg),some (.ref lt),some (.ref lm),some (.int ps.length),v8,v9,v10,v11,v12,v13,v14,v15,v16,v17])/\Opn38 (ps.map (·.2)) (ls.map (·.2)) gs (ms.map (·.2)) (ps.length + 1) i/\Same H H6) ⟨⟨_,_,_,_,_,_,_,_,_,_,rfl⟩,λj hj=>absurd hj (z0 _),sm⟩ ?_ ?_ ?_
  ·rintro i σ H6 _ ⟨_,_,sm⟩
   exact ⟨SqL.of (sm _ _ co.l.l),SqL.of (sm _ _ co.g)⟩
  ·rintro i x1 y1 z σ H6 hx1 hy1 hz ⟨⟨v8,v9,v10,v11,v12,v13,v14,v15,v16,v17,rfl⟩,op,sm⟩
   obtain ⟨r,hr,rfl⟩:=xR hx1
   obtain ⟨g,hg',rfl⟩:=xR hy1
   have s7:=sm.trans (yy (o:=HO.tup [V.ref r.1,V.bl g]) hz)
   have mr:=zB hr
   obtain ⟨w0,w1⟩:=ok.lw r mr
   refine (un2 yx ?_)
   generalize upd H6 z (HO.tup [V.ref r.1,V.bl g])=H7 at s7 ⊢
   have c7:=co.same s7
   refine (zr rfl (ixt c7.b.book rfl ⟨tm,rfl,⟨_,SqT.of c7.b.meets⟩,?_⟩))
   refine comp_tup (K:=K) (a:=tm) (xs:=ps.map λa=>V.ref a.1) (λi τ acc H5=>(∃ t0,τ=[t0,some (.ref r.1)])/\acc.length=cnt ((ps.map (·.2)).take i) r.2.t/\acc.length<=i/\Same H7 H5) ⟨⟨_,rfl⟩,rfl,zF _,Same.refl _⟩ (by rw [zA];omega) ?_ ?_ ?_
   ·rintro i τ acc H5 ⟨⟨t0,rfl⟩,_,le,s5⟩
    exact ⟨le,SqT.of (s5 _ _ c7.b.meets)⟩
   ·rintro i x τ acc H5 C hx ⟨⟨t0,rfl⟩,ec,le,s5⟩ hC
    obtain ⟨m,hm,rfl⟩:=xR hx
    have hrow:=s5 _ _ (c7.b.rows m (zB hm))
    refine (zr rfl (ixt hrow rfl (zr rfl (ixt (s5 _ _ (c7.l.each r mr)) rfl (zr2 rfl rfl (zr rfl (iteD (λc=>(zr rfl (hC _ _ _ ?_))) (λc=>hC _ _ _ ?_))))))))
    ·exact ⟨⟨_,rfl⟩,by rw [cnt_snoc (xT hm),if_pos c,zK,ec];rfl,by rw [zK];exact Nat.succ_le_succ le,s5⟩
    ·exact ⟨⟨_,rfl⟩,by rw [cnt_snoc (xT hm),if_neg c,ec];rfl,by omega,s5⟩
   rintro τ acc H5 ⟨⟨t0,rfl⟩,ec,le,s5⟩ l hl
   rw [show (ps.map λa=>V.ref a.1).length=(ps.map (·.2)).length by rw [zA,zA],zU] at ec
   refine ⟨l,zr rfl ⟨.inl (SqL.of yx),?_⟩⟩
   rw [ec]
   have s9:=s7.trans (s5.trans (yy (o:=HO.lst acc) hl))
   generalize upd H5 l (HO.lst acc)=H9 at s9 ⊢
   have c9:=co.same s9
   generalize hc:cnt (ps.map (·.2)) r.2.t=c0
   refine (zr rfl (zr rfl (zr rfl ⟨lm,zr rfl ⟨SqL.of c9.m,λq1 hq1=>?_⟩⟩)))
   rw [cut_refs]
   have s10:=s9.trans (yy (o:=HO.lst ((ms.drop c0).map λa=>V.ref a.1)) hq1)
   have kq:upd H9 q1 (HO.lst ((ms.drop c0).map λa=>V.ref a.1)) q1=some (.lst ((ms.drop c0).map λa=>V.ref a.1)):=yx
   generalize upd H9 q1 (HO.lst ((ms.drop c0).map λa=>V.ref a.1))=H10 at s10 kq ⊢
   have c10:=co.same s10
   refine ⟨q1,rfl,⟨_,SqL.of kq⟩,?_⟩
   refine xz (K:=K) (a:=q1) (xs:=(ms.drop c0).map λa=>V.ref a.1) (λj τ acc H5=>(∃ t0,τ=[t0,some (.ref r.1)])/\acc=(((ms.drop c0).take j).filter λx=>!openB (at38 x.2 r.2.w)).map (λx=>V.ref x.1)/\Same H10 H5) ⟨⟨_,rfl⟩,rfl,Same.refl _⟩ (by rw [zA,yH];omega) ?_ ?_ ?_
   ·rintro j τ acc H5 ⟨_,rfl,s5⟩
    refine ⟨?_,SqL.of (s5 _ _ kq)⟩
    rw [zA]
    exact zk (zi _ _) (by rw [zT];omega)
   ·rintro j x τ acc H5 C hx ⟨⟨t0,rfl⟩,rfl,s5⟩ hC
    obtain ⟨y,hy,rfl⟩:=xR hx
    have mx:=yO (zB hy)
    have st:=xX hy
    refine (zr rfl (zr rfl (ixt (s5 _ _ (c10.l.each r mr)) rfl (ixl (s5 _ _ (c10.rows y mx)) (xu w0 (by rw [ok.rows y mx];exact w1)) (zr2 rfl rfl (zr rfl (iteD (λh=>(zr rfl (hC _ _ _ ⟨⟨_,rfl⟩,?_,s5⟩))) λh=>hC _ _ _ ⟨⟨_,rfl⟩,?_,s5⟩)))))))
    ·rw [st,zZ,zC,yQ (by unfold openB;rw [decide_eq_false (by omega)];rfl)];rfl
    ·rw [st,zZ,zC,yP (by unfold openB;rw [decide_eq_true (by omega)];decide)];exact (zz _).symm
   rintro τ acc H5 ⟨⟨t0,rfl⟩,rfl,s5⟩ lc hlc
   rw [zA,zU]
   have s11:=s10.trans (s5.trans (yy (o:=HO.lst (((ms.drop c0).filter λx=>!openB (at38 x.2 r.2.w)).map λx=>V.ref x.1)) hlc))
   have kc':upd H5 lc (HO.lst (((ms.drop c0).filter λx=>!openB (at38 x.2 r.2.w)).map λx=>V.ref x.1)) lc=some (.lst (((ms.drop c0).filter λx=>!openB (at38 x.2 r.2.w)).map λx=>V.ref x.1)):=yx
   generalize upd H5 lc _=H11 at s11 kc' ⊢
   have step:(g=true->∀ k,c0<=k->k < ps.length + 1->2<=mk38 (ms.map (·.2)) k r.2.w.toNat)->Opn38 (ps.map (·.2)) (ls.map (·.2)) gs (ms.map (·.2)) (ps.length + 1) (i + 1):=λh j hj l hl hg k h1 h2=>by
    by_cases e:j=i
    ·subst e
     rw [xT hr] at hl;cases hl
     rw [hg'] at hg;cases hg
     exact h rfl k (by rw [<-hc];exact h1) h2
    ·exact op j (by omega) l hl hg k h1 h2
   have emk:∀ {k:Nat}{x:Addr×List Int},ms[k]?=some x->at38 x.2 r.2.w=mk38 (ms.map (·.2)) k r.2.w.toNat:=λhx=>wM (xT hx) _
   cases g with
   | false=>exact (zr rfl (zr rfl (iteB0 rfl (iteB0 rfl ⟨⟨_,_,_,_,_,_,_,_,_,_,rfl⟩,step nofun,s11⟩))))
   | true=>
   refine (zr rfl (zr rfl (iteB1 rfl (zr rfl ⟨za _,λl0 hl0=>⟨lc,l0,zr rfl ⟨rfl,SqL.of (yy hl0 _ _ kc'),SqL.of yx,zr rfl ?_⟩⟩⟩))))
   have s12:=s11.trans (yy (o:=HO.lst []) hl0)
   generalize upd H11 l0 (HO.lst [])=H12 at s12 ⊢
   cases e5:(((ms.drop c0).filter λx=>!openB (at38 x.2 r.2.w)).map λx=>V.ref x.1).isEmpty with
   | true=>
    refine iteB0 (by rw [yg]) ⟨⟨_,_,_,_,_,_,_,_,_,_,rfl⟩,step λ_ k h1 h2=>?_,s12⟩
    have e6:=List.filter_eq_nil_iff.mp (List.map_eq_nil_iff.mp (List.isEmpty_iff.mp e5))
    obtain ⟨x,hx,_,_⟩:=row h2
    have z:=e6 x (zB (i:=k - c0) (by rw [yN,show c0 + (k - c0)=k by omega];exact hx))
    rw [Bool.not_eq_true,Bool.not_eq_false',emk hx] at z
    exact of_decide_eq_true z
   | false=>
    refine iteB1 (by rw [yX]) (bad (λh=>?_) s12)
    have ne:((ms.drop c0).filter λx=>!openB (at38 x.2 r.2.w))≠[]:=λe=>by rw [e] at e5;cases e5
    obtain ⟨x,hx⟩:=List.exists_mem_of_ne_nil _ ne
    obtain ⟨hx,ho⟩:=List.mem_filter.mp hx
    obtain ⟨k,hk⟩:=zn hx
    rw [yN] at hk
    have z:=(inv h).1 i (by have:=(zH.mp hr).1;omega) r.2 (xT hr) hg' (c0 + k) (by rw [hc];omega) (by have:=(zH.mp hk).1;omega)
    rw [<-emk hk] at z
    unfold openB at ho
    rw [decide_eq_true z] at ho;cases ho
  rintro σ H7 ⟨⟨v8,v9,v10,v11,v12,v13,v14,v15,v16,v17,rfl⟩,op,sm7⟩
  rw [zA] at op
  have ord:(ps.map (·.2)).Pairwise λa b=>a.t<=b.t:=gd.order.imp λh=>by rcases h with h | h <;> omega
  have co7:=co.same sm7
  refine (zr rfl (zr rfl ⟨lw,lt,rfl,⟨_,SqL.of co7.w.l⟩,⟨_,SqL.of co7.t⟩,?_⟩))
  refine wk (K:=K) (a:=lw) (b:=lt) (xs:=ws.map λa=>V.ref a.1) (ys:=ts.map V.bl) (by rw [zA,zA,o6]) (λi σ H6=>(∃ v8 v9 v10 v11 v12 v13 v14 v15 v16 v17,σ=[some (.ref b),some (.ref ll),some (.ref lw),some (.ref c),some (.ref lg),some (.ref lt),some (.ref lm),some (.int ps.length),v8,v9,v10,v11,v12,v13,v14,v15,v16,v17])/\Td38 (ps.map (·.2)) (ls.map (·.2)) (ws.map (·.2)) gs ts (ms.map (·.2)) i/\Same H H6) ⟨⟨_,_,_,_,_,_,_,_,_,_,rfl⟩,λj hj=>absurd hj (z0 _),sm7⟩ ?_ ?_ ?_
  ·rintro i σ H6 _ ⟨_,_,sm⟩
   exact ⟨SqL.of (sm _ _ co.w.l),SqL.of (sm _ _ co.t)⟩
  ·rintro i x1 y1 z σ H6 hx1 hy1 hz ⟨⟨v8,v9,v10,v11,v12,v13,v14,v15,v16,v17,rfl⟩,td,sm⟩
   obtain ⟨r,hr,rfl⟩:=xR hx1
   obtain ⟨g,hg',rfl⟩:=xR hy1
   have s7:=sm.trans (yy (o:=HO.tup [V.ref r.1,V.bl g]) hz)
   have mr:=zB hr
   have li:=(zH.mp hr).1
   obtain ⟨w0,w1⟩:=ok.ww r mr
   refine (un2 yx ?_)
   generalize upd H6 z (HO.tup [V.ref r.1,V.bl g])=H7 at s7 ⊢
   refine (zr rfl (zr rfl ⟨by omega,by omega,?_⟩))
   refine xy (lo:=0) (n:=ps.length) (λk σ H7=>(∃ v9 v15,σ=[some (.ref b),some (.ref ll),some (.ref lw),some (.ref c),some (.ref lg),some (.ref lt),some (.ref lm),some (.int ps.length),v8,v9,v10,some (.bl g),v12,v13,some (.ref r.1),v15,v16,v17])/\(∀ k' < k,g=false->∀ m,(ps.map (·.2))[k']?=some m->m.t<=r.2.t->mk38 (ms.map (·.2)) (k' + 1) r.2.w.toNat % 2=1->False)/\Same H H7) ⟨⟨_,_,rfl⟩,nofun,s7⟩ ?_ ?_
   ·rintro k σ H8 hk ⟨⟨v9,v15,rfl⟩,ak,s8⟩
    obtain ⟨r2,hr2,lr2,er2⟩:=row (k:=k + 1) (by omega)
    obtain ⟨m,hm'⟩:∃ m,ps[k]?=some m:=⟨_,zG hk⟩
    have c8:=co.same s8
    have kr:=c8.w.each r mr
    have aa2:atI (ms.map λa=>V.ref a.1) (0 + (k:Int) + 1)=some (V.ref r2.1):=by rw [zu];exact xb (j:=k + 1) (by rw [zJ,hr2];rfl)
    have ap:atI (ps.map λa=>V.ref a.1) (0 + (k:Int))=some (V.ref m.1):=by rw [zu];exact xb (by rw [zJ,hm'];rfl)
    have am2:atI (r2.2.map V.int) r.2.w=some (.int (mk38 (ms.map (·.2)) (k + 1) r.2.w.toNat)):=by
     have:=wM (xT hr2) r.2.w.toNat
     rw [<-this];exact xu w0 (by rw [lr2];exact w1)
    have keep:(g=false->m.2.t<=r.2.t->mk38 (ms.map (·.2)) (k + 1) r.2.w.toNat % 2=1->False)->∀ k' < k + 1,g=false->∀ m,(ps.map (·.2))[k']?=some m->m.t<=r.2.t->mk38 (ms.map (·.2)) (k' + 1) r.2.w.toNat % 2=1->False:=λh k' hk' gf m' hm2 h1 h2=>by
     by_cases e:k'=k
     ·subst e
      rw [xT hm'] at hm2;cases hm2
      exact h gf h1 h2
     ·exact ak k' (by omega) gf m' hm2 h1 h2
    refine (zr rfl (zr rfl (zr2 rfl rfl (ixl c8.m aa2 (zr rfl (ixt kr rfl (ixl (c8.rows r2 (zB hr2)) am2 (zr2 rfl rfl ⟨(by show (0:Int) < 2;decide),rfl,zr rfl ?_⟩))))))))
    by_cases h1:mk38 (ms.map (·.2)) (k + 1) r.2.w.toNat % 2=1
    rotate_left
    ·refine iteB0 (decide_eq_false λz=>h1 (V.int.inj z)) (zr rfl (zr rfl (iteB0 rfl (iteB0 rfl ⟨⟨_,_,rfl⟩,keep λ_ _ h=>h1 h,s8⟩))))
    refine iteB1 (decide_eq_true (congrArg V.int h1)) (zr rfl (ixt c8.b.book rfl (zr rfl (ixt c8.b.meets ap (ixt (c8.b.rows m (zB hm')) rfl (zr rfl (ixt kr rfl (zr2 rfl rfl (zr rfl (zr rfl ?_))))))))))
    by_cases h2:m.2.t<=r.2.t
    rotate_left
    ·exact iteB0 (decide_eq_false h2) (iteB0 rfl ⟨⟨_,_,rfl⟩,keep λ_ h=>absurd h h2,s8⟩)
    refine iteB1 (decide_eq_true h2) (zr rfl (zr rfl ?_))
    cases g with
    | true=>exact iteB0 rfl ⟨⟨_,_,rfl⟩,keep nofun,s8⟩
    | false=>
     refine iteB1 rfl (bad (λh=>?_) s8)
     have z:=((inv h).2.2 i li r.2 (xT hr) hg').1
     have y:=behind_at38.mpr ⟨k,(cnt_lt ord (xT hm')).mpr h2,by rw [zA];omega,h1⟩
     rw [z] at y;cases y
   rintro σ H8 ⟨⟨v9,v15,rfl⟩,ak,s8⟩
   have c8:=co.same s8
   have hbe:g=false->behindB (ps.map (·.2)) (ms.map (·.2)) r.2=false:=λgf=>by
    refine Bool.eq_false_iff.mpr λe=>?_
    obtain ⟨k,h1,h2,h3⟩:=behind_at38.mp e
    rw [zA] at h2
    obtain ⟨m,hm'⟩:∃ m,ps[k]?=some m:=⟨_,zG (by omega)⟩
    exact ak k (by omega) gf m.2 (xT hm') ((cnt_lt ord (xT hm')).mp h1) h3
   refine (zr rfl (zr rfl ⟨ll,lg,rfl,⟨_,SqL.of c8.l.l⟩,⟨_,SqL.of c8.g⟩,?_⟩))
   refine wk (K:=K) (a:=ll) (b:=lg) (xs:=ls.map λa=>V.ref a.1) (ys:=gs.map V.bl) (by rw [zA,zA,o5]) (λj σ H6=>(∃ v10 v16 v17,σ=[some (.ref b),some (.ref ll),some (.ref lw),some (.ref c),some (.ref lg),some (.ref lt),some (.ref lm),some (.int ps.length),v8,v9,v10,some (.bl g),v12,v13,some (.ref r.1),v15,v16,v17])/\(∀ m < j,g=false->∀ l:S3,(ls.map (·.2))[m]?=some l->gs[m]?=some true->strB l r.2=false)/\Same H H6) ⟨⟨_,_,_,rfl⟩,nofun,s8⟩ ?_ ?_ ?_
   ·rintro i σ H6 _ ⟨_,_,sm⟩
    exact ⟨SqL.of (sm _ _ co.l.l),SqL.of (sm _ _ co.g)⟩
   ·rintro j x1 y1 z σ H6 hx1 hy1 hz ⟨⟨v10,v16,v17,rfl⟩,as,sm⟩
    obtain ⟨l,hl,rfl⟩:=xR hx1
    obtain ⟨f,hf,rfl⟩:=xR hy1
    have s9:=sm.trans (yy (o:=HO.tup [V.ref l.1,V.bl f]) hz)
    refine (un2 yx ?_)
    generalize upd H6 z (HO.tup [V.ref l.1,V.bl f])=H9 at s9 ⊢
    have c9:=co.same s9
    have kl:=c9.l.each l (zB hl)
    have kr:=c9.w.each r mr
    have keep:(g=false->f=true->strB l.2 r.2=false)->∀ m < j + 1,g=false->∀ l:S3,(ls.map (·.2))[m]?=some l->gs[m]?=some true->strB l r.2=false:=λh m hm gf l' hl' hg'=>by
     by_cases e:m=j
     ·subst e
      rw [xT hl] at hl';cases hl'
      rw [hf] at hg';cases hg'
      exact h gf rfl
     ·exact as m (by omega) gf l' hl' hg'
    refine (zr rfl (ixt kl rfl (zr rfl (ixt kr rfl ⟨rfl,zr rfl ?_⟩))))
    by_cases e1:l.2.w=r.2.w
    rotate_left
    ·refine iteB0 (decide_eq_false λz=>e1 (V.int.inj z)) (zr rfl (zr rfl ?_))
     have nx:=keep λ_ _=>by unfold strB;rw [decide_eq_false e1];rfl
     cases f with
     | false=>exact iteB0 rfl (iteB0 rfl ⟨⟨_,_,_,rfl⟩,nx,s9⟩)
     | true=>exact iteB1 rfl (zr rfl (zr rfl (iteB0 rfl (iteB0 rfl ⟨⟨_,_,_,rfl⟩,nx,s9⟩))))
    refine iteB1 (decide_eq_true (congrArg V.int e1)) (zr rfl (ixt kl rfl (zr rfl (ixt kr rfl (zr2 rfl rfl (zr rfl (zr rfl ?_)))))))
    cases f with
    | false=>exact iteB0 rfl (iteB0 rfl ⟨⟨_,_,_,rfl⟩,keep nofun,s9⟩)
    | true=>
    refine iteB1 rfl (zr rfl (zr rfl ?_))
    by_cases e2:l.2.t<=r.2.t
    rotate_left
    ·exact iteB0 (decide_eq_false e2) (iteB0 rfl ⟨⟨_,_,_,rfl⟩,keep λ_ _=>by unfold strB;rw [decide_eq_false e2,yM],s9⟩)
    refine iteB1 (decide_eq_true e2) (zr rfl (zr rfl ?_))
    cases g with
    | true=>exact iteB0 rfl ⟨⟨_,_,_,rfl⟩,keep nofun,s9⟩
    | false=>
     refine iteB1 rfl (bad (λh=>?_) s9)
     have z:=((inv h).2.2 i li r.2 (xT hr) hg').2 j l.2 (xT hl) hf
     unfold strB at z
     rw [decide_eq_true e1,decide_eq_true e2] at z;cases z
   rintro σ H9 ⟨⟨v10,v16,v17,rfl⟩,as,sm9⟩
   refine ⟨⟨_,_,_,_,_,_,_,_,_,_,rfl⟩,λj hj w hw ht=>?_,sm9⟩
   by_cases e:j=i
   ·subst e
    rw [xT hr] at hw;cases hw
    rw [hg'] at ht;cases ht
    refine ⟨hbe rfl,λm l hl hg=>as m ?_ rfl l hl hg⟩
    have:=(zH.mp hl).1
    rw [zA] at this ⊢;exact this
   ·exact td j (by omega) w hw ht
  rintro σ H8 ⟨_,td,s8⟩
  rw [zA] at td
  have z:=q _ s8
  rw [holds_true38 (nr:=rooms.length) (by rw [zA,o5]) (by rw [zA,o6]) d (by rw [pl,ll'];exact op) (by rw [pl];exact hgo) (by rw [wl'];exact td)] at z
  exact z
theorem Ci:FnScope ["_law_book_here", "_law_loads", "_law_wants", "_law_cut_here", "_law_given", "_law_taken", "_law_marks", "_law_total", "_law_row_here", "_law_k", "_law_one", "_law_other", "_law_when", "_law_many", "_law_here", "_law_there", "_law_over"] ["_law_book_here", "_law_loads", "_law_wants", "_law_cut_here"] (defScope xx):=⟨rfl,rfl,rfl,by decide +kernel,rfl,by decide +kernel,by decide +kernel⟩
theorem DJ (T:Tx K mg a):FnOk P w K mg base CX0 3 a.Ai a.AB ["_law_book_here", "_law_loads", "_law_wants", "_law_cut_here"] (spCutW):=by
 have E5:=D5 P w base T
 have ED:=DK P w base T
 refine T.Aq.ok Ci (λvs H Q E h=>?_) (λcdv A outer s H vs Q E hr h=>?_)
 ·obtain ⟨_,_,_,_,_,_,_,_,_,_,rfl,_⟩:=h;rfl
 ·have nd:=Ci.nd
  have hu:=hr.units
  obtain ⟨b,ll,lw,v,rooms,tr,tm,ps,ls,ws,rfl,hb,gd,r12,hl,hw,l100,w100,lr,wr,dt,q0,q1⟩:=h
  refine ⟨_,(@xD _ _ _ (@xQ _ _ _ _ _ _ (@xW _ _ _ _ _ _ _ _ (@xh _ _ _ _ (xV (xC E5 (hr.mono (by decide)) rfl T.ER T.EU T.EX .nil pass0 (@yu _ _ _ (@yw _ _ _ _ _ (pv 0) (@yw _ _ _ _ _ (pv 1) (@yw _ _ _ _ _ (pv 2) (@yw _ _ _ _ _ (pv 3) xB rfl) rfl) rfl) rfl))))) (@xD _ _ _ (@xS _ _ _ (@xN _ _ _ _ pe_non))) xO) (@xQ _ _ _ _ _ _ (@xW _ _ _ _ _ _ _ _ (@xh _ _ _ _ (xV (xC ED (hr.mono (by decide)) rfl T.Eb T.Eh T.En .nil pass0 (@yu _ _ _ (@yw _ _ _ _ _ (pv 0) (@yw _ _ _ _ _ (pv 1) (@yw _ _ _ _ _ (pv 2) (@yw _ _ _ _ _ (pv 3) xB rfl) rfl) rfl) rfl))))) (@xD _ _ _ (@xS _ _ _ (@xN _ _ _ _ pe_non))) xO) (@xQ _ _ _ _ _ _ (ps_asg (pv 3) (xZ (n:=3) rfl rfl (xE (xA (i:=4) nd rfl rfl) (xE (xA (i:=5) nd rfl rfl) (xE (xA (i:=6) nd rfl rfl) xY))))) (@xQ _ _ _ _ _ _ (xL (i:=7) nd rfl rfl (xF (call_sumL rfl) (by rfl) T.b_sum yV (@yu _ _ _ (@yw _ _ _ _ _ (xt (own:=["_law_load", "_law_truth"]) (caps:=[]) rfl (show CompScope ["_law_load", "_law_truth"] [] ["_law_book_here", "_law_loads", "_law_wants", "_law_cut_here", "_law_given", "_law_taken", "_law_marks", "_law_total", "_law_row_here", "_law_k", "_law_one", "_law_other", "_law_when", "_law_many", "_law_here", "_law_there", "_law_over"] (defScope xx) _ from ⟨rfl,by decide +kernel,by decide +kernel,by decide +kernel,by decide +kernel⟩) (wR rfl rfl T.b_zip (@yu _ _ _ (@yw _ _ _ _ _ (pv 1) (@yw _ _ _ _ _ (pv 4) xB rfl) rfl))) (λ_ _ _ _=>(xZ (n:=2) rfl rfl (xE (xA (i:=0) (show List.Nodup (["_law_load", "_law_truth"]:List Str) from by decide +kernel) rfl rfl) (xE (xA (i:=1) (show List.Nodup (["_law_load", "_law_truth"]:List Str) from by decide +kernel) rfl rfl) xY)))) (λ_ _ _ _=>wX (@xh _ _ _ _ (xV (pv 1)))) (λ_ _ _ _=>(@xG _ _ _ _ _ _ _ (xK rfl) (pv 0) yt (λ_ _=>rfl)))) xB rfl)))) (@xQ _ _ _ _ _ _ (xL (i:=7) nd rfl rfl (@xM _ _ _ _ _ _ _ _ xU (pv 7) (xF (call_sumL rfl) (by rfl) T.b_sum yV (@yu _ _ _ (@yw _ _ _ _ _ (xt (own:=["_law_want", "_law_truth"]) (caps:=[]) rfl (show CompScope ["_law_want", "_law_truth"] [] ["_law_book_here", "_law_loads", "_law_wants", "_law_cut_here", "_law_given", "_law_taken", "_law_marks", "_law_total", "_law_row_here", "_law_k", "_law_one", "_law_other", "_law_when", "_law_many", "_law_here", "_law_there", "_law_over"] (defScope xx) _ from ⟨rfl,by decide +kernel,by decide +kernel,by decide +kernel,by decide +kernel⟩) (wR rfl rfl T.b_zip (@yu _ _ _ (@yw _ _ _ _ _ (pv 2) (@yw _ _ _ _ _ (pv 5) xB rfl) rfl))) (λ_ _ _ _=>(xZ (n:=2) rfl rfl (xE (xA (i:=0) (show List.Nodup (["_law_want", "_law_truth"]:List Str) from by decide +kernel) rfl rfl) (xE (xA (i:=1) (show List.Nodup (["_law_want", "_law_truth"]:List Str) from by decide +kernel) rfl rfl) xY)))) (λ_ _ _ _=>wX (xV (pv 1))) (λ_ _ _ _=>(@xG _ _ _ _ _ _ _ (xK rfl) (pv 0) yt (λ_ _=>rfl)))) xB rfl))))) (@xQ _ _ _ _ _ _ (xm PassesOwn.never rfl (@xp _ _ _ _ _ rfl (pv 6)) (xA (i:=8) nd rfl rfl) (@xD _ _ _ (@xS _ _ _ (xL (i:=7) nd rfl rfl (@xM _ _ _ _ _ _ _ _ xU (pv 7) (xF (call_sumL rfl) (by rfl) T.b_sum yV (@yu _ _ _ (@yw _ _ _ _ _ (xt (own:=["_law_room", "_law_mark"]) (caps:=[]) rfl (show CompScope ["_law_room", "_law_mark"] [] ["_law_book_here", "_law_loads", "_law_wants", "_law_cut_here", "_law_given", "_law_taken", "_law_marks", "_law_total", "_law_row_here", "_law_k", "_law_one", "_law_other", "_law_when", "_law_many", "_law_here", "_law_there", "_law_over"] (defScope xx) _ from ⟨rfl,by decide +kernel,by decide +kernel,by decide +kernel,by decide +kernel⟩) (pi_zipN rfl rfl T.b_zip (@yu _ _ _ (@yw _ _ _ _ _ (@xG _ _ _ _ _ _ _ (xK rfl) (pv 0) yt (λ_ _=>rfl)) (@yw _ _ _ _ _ (pv 8) xB rfl) rfl))) (λ_ _ _ _=>(xZ (n:=2) rfl rfl (xE (xA (i:=0) (show List.Nodup (["_law_room", "_law_mark"]:List Str) from by decide +kernel) rfl rfl) (xE (xA (i:=1) (show List.Nodup (["_law_room", "_law_mark"]:List Str) from by decide +kernel) rfl rfl) xY)))) (λ_ _ _ _=>wX (@xP _ _ _ _ _ _ _ _ xw (pv 1) yt (nomark _))) (λ_ _ _ _=>(pv 0))) xB rfl)))))))) (@xQ _ _ _ _ _ _ (xm PassesOwn.never rfl (xq rfl T.b_range (@yu _ _ _ (@yw _ _ _ _ _ (xF (xJ rfl) (by rfl) T.b_len PySem.boot_len (@yu _ _ _ (@yw _ _ _ _ _ (@xG _ _ _ _ _ _ _ (xK rfl) (pv 0) yt (λ_ _=>rfl)) xB rfl))) xB rfl))) (xA (i:=9) nd rfl rfl) (@xD _ _ _ (@xQ _ _ _ _ _ _ (ps_asg (@xG _ _ _ _ _ _ _ (xK rfl) (@xG _ _ _ _ _ _ _ (xK rfl) (pv 0) yt (λ_ _=>rfl)) (pv 9) (λ_ _=>rfl)) (xZ (n:=4) rfl rfl (xE (xA (i:=10) nd rfl rfl) (xE (xA (i:=11) nd rfl rfl) (xE (xA (i:=12) nd rfl rfl) (xE (xA (i:=13) nd rfl rfl) xY)))))) (@xQ _ _ _ _ _ _ (xL (i:=14) nd rfl rfl (@xG _ _ _ _ _ _ _ (xI rfl) (pv 6) (pv 9) (λ_ _=>rfl))) (@xQ _ _ _ _ _ _ (xL (i:=15) nd rfl rfl (@xG _ _ _ _ _ _ _ (xI rfl) (pv 6) (@xM _ _ _ _ _ _ _ _ xU (pv 9) yt) (λ_ _=>rfl))) (@xQ _ _ _ _ _ _ (xL (i:=16) nd rfl rfl (@wg _ _ _ _ _ _ _ (@wD _ _ _ _ _ _ _ _ op_ge (@xG _ _ _ _ _ _ _ (xI rfl) (pv 14) (pv 10) (λ_ _=>rfl)) yt (nomark _)) (@pe_one _ _ _ _ _ (@wD _ _ _ _ _ _ _ _ xw (@xM _ _ _ _ _ _ _ _ wj (@xG _ _ _ _ _ _ _ (xI rfl) (pv 15) (pv 11) (λ_ _=>rfl)) yt) yt (nomark _))))) (@xS _ _ _ (@xW _ _ _ _ _ _ _ _ (@PW.pt _ _ _ (@pw_or _ _ _ _ _ _ _ (xV (pv 16)) (@wf _ _ _ _ (@PW.pt _ _ _ (@wI _ _ _ _ _ _ _ (@xP _ _ _ _ _ _ _ _ op_ge (@xG _ _ _ _ _ _ _ (xI rfl) (pv 14) (pv 11) (λ_ _=>rfl)) yt (nomark _)) (@wC _ _ _ _ (@xP _ _ _ _ _ _ _ _ xw (@xM _ _ _ _ _ _ _ _ wj (@xG _ _ _ _ _ _ _ (xI rfl) (pv 15) (pv 10) (λ_ _=>rfl)) yt) yt (nomark _)))))))) (@xD _ _ _ (@xS _ _ _ (xL (i:=7) nd rfl rfl (@xM _ _ _ _ _ _ _ _ xU (pv 7) (pv 13))))) xO)))))))) (@xS _ _ _ (@xN _ _ _ _ (pv 7))))))))))),?_⟩
  have line:=line9
  have m60:=gd.few
  rw [zA] at m60
  refine (zr rfl (zr rfl (zr rfl (zr rfl (ex10 b ll lw v rooms tr tm ps ls ws ⟨rfl,hb,hl,hw,l100,w100,by omega,by omega,dt,λH1 s1=>(zr rfl ?_)⟩)))))
  cases ef:formV H ls.length ws.length (ps.length + 1) rooms.length v with
  | false=>exact iteB1 rfl (q0 ef _ s1)
  | true=>
  obtain ⟨c,lg,lt,lm,gs,ts,ms,rfl,kc,kg,eg,kt,et,km,em,er⟩:=formV_true ef
  have co:CutOf H b ll lw rooms tr tm ps ls ws lg lt lm gs ts ms:=⟨hb,hl,hw,kg,kt,km,λa ha=>(er a ha).1⟩
  have ok:CutOk rooms.length ps.length ls ws gs ts ms:=⟨r12,m60,l100,w100,eg,et,em,λa ha=>(er a ha).2.1,lr,wr⟩
  have q:=q1 c lg lt lm gs ts ms rfl kc co ok λa ha=>(er a ha).2.2
  have hm:=λa ha=>(er a ha).2.2
  have d:Dim38 ((ps.map (·.2)).length + 1) rooms.length (ms.map (·.2)):=by rw [zA];exact ok.dim hm
  refine iteB0 rfl (zr rfl (zr rfl (zr rfl (zr rfl (ex16 b ll lw rooms tr tm ps ls ws c lg lt lm gs ts ms ⟨rfl,s1 _ _ kc,co.same s1,ok,gd,hm,λH2 s2=>(zr rfl ?_)⟩)))))
  have s12:=s1.trans s2
  cases eh:holdsF (ps.map (·.2)) (ls.map (·.2)) (ws.map (·.2)) gs ts (ms.map (·.2)) with
  | false=>exact iteB1 rfl (by have z:=q _ s12;rwa [eh] at z)
  | true=>
  have q:∀ H',Same H H'->Q (.int (worthC rooms (ps.map (·.2)) (ls.map (·.2)) (ws.map (·.2)) gs ts (ms.map (·.2)))) H':=λH' s=>by
   have z:=q H' s
   rwa [if_pos eh] at z
  have s15:=s12
  have c5:=co.same s15
  refine iteB0 rfl (zr rfl (un3 (s15 _ _ kc) ?_))
  refine (zr rfl (zr rfl ⟨ll,lg,rfl,⟨_,SqL.of c5.l.l⟩,⟨_,SqL.of c5.g⟩,?_⟩))
  refine comp_zipL (K:=K) (a:=ll) (b:=lg) (xs:=ls.map λa=>V.ref a.1) (ys:=gs.map V.bl) (by rw [zA,zA,eg]) (λi τ acc H6=>(∃ t0 t1,τ=[t0,t1])/\acc=(((((ls.map (·.2)).zip gs).take i).filter λp=>!p.2).map (·.1.m)).map V.int/\Same H2 H6) ⟨⟨_,_,rfl⟩,rfl,Same.refl _⟩ (by rw [zA];omega) ?_ ?_ ?_
  ·rintro i τ acc H6 ⟨_,rfl,sm⟩
   refine ⟨?_,SqL.of (sm _ _ c5.l.l),SqL.of (sm _ _ c5.g)⟩
   rw [zA,zA]
   exact zk (zi _ _) (by rw [zT];omega)
  ·rintro i x y z τ acc H6 C hx hy hz ⟨⟨t0,t1,rfl⟩,rfl,sm⟩ hC
   obtain ⟨r,hr,rfl⟩:=xR hx
   obtain ⟨g,hg,rfl⟩:=xR hy
   have sm6:=sm.trans (yy (o:=HO.tup [V.ref r.1,V.bl g]) hz)
   have st:=xX (zip_at (xT hr) hg)
   refine (un2 yx (zr rfl (zr rfl ?_)))
   cases g with
   | false=>exact iteB1 rfl (zr rfl (ixt (sm6 _ _ (c5.l.each r (zB hr))) rfl (hC _ _ _ ⟨⟨_,_,rfl⟩,by rw [st,zZ,zC,zC];rfl,sm6⟩)))
   | true=>exact iteB0 rfl (hC _ _ _ ⟨⟨_,_,rfl⟩,by rw [st,zZ,zC,zC];exact (zz _).symm,sm6⟩)
  rintro τ acc H6 ⟨⟨t0,t1,rfl⟩,rfl,s6⟩ lc hlc
  have e1:(ls.map λa=>V.ref a.1).length=((ls.map (·.2)).zip gs).length:=by rw [zA,yG,zA,eg];exact (yf _).symm
  rw [e1,zU]
  refine ⟨lc,zr rfl ⟨SqL.of yx,?_⟩⟩
  have s16:=s15.trans (s6.trans (yy (o:=HO.lst ((((((ls.map (·.2)).zip gs).filter λp=>!p.2).map (·.1.m)).map V.int))) hlc))
  generalize upd H6 lc _=H7 at s16 ⊢
  have c7:=co.same s16
  refine (zr rfl (zr rfl (zr rfl ⟨lw,lt,rfl,⟨_,SqL.of c7.w.l⟩,⟨_,SqL.of c7.t⟩,?_⟩)))
  refine comp_zipL (K:=K) (a:=lw) (b:=lt) (xs:=ws.map λa=>V.ref a.1) (ys:=ts.map V.bl) (by rw [zA,zA,et]) (λi τ acc H6=>(∃ t0 t1,τ=[t0,t1])/\acc=(((((ws.map (·.2)).zip ts).take i).filter λp=>p.2).map (·.1.m)).map V.int/\Same H7 H6) ⟨⟨_,_,rfl⟩,rfl,Same.refl _⟩ (by rw [zA];omega) ?_ ?_ ?_
  ·rintro i τ acc H6 ⟨_,rfl,sm⟩
   refine ⟨?_,SqL.of (sm _ _ c7.w.l),SqL.of (sm _ _ c7.t)⟩
   rw [zA,zA]
   exact zk (zi _ _) (by rw [zT];omega)
  ·rintro i x y z τ acc H6 C hx hy hz ⟨⟨t0,t1,rfl⟩,rfl,sm⟩ hC
   obtain ⟨r,hr,rfl⟩:=xR hx
   obtain ⟨g,hg,rfl⟩:=xR hy
   have sm6:=sm.trans (yy (o:=HO.tup [V.ref r.1,V.bl g]) hz)
   have st:=xX (zip_at (xT hr) hg)
   refine (un2 yx (zr rfl (zr rfl ?_)))
   cases g with
   | true=>exact iteB1 rfl (zr rfl (ixt (sm6 _ _ (c7.w.each r (zB hr))) rfl (hC _ _ _ ⟨⟨_,_,rfl⟩,by rw [st,zZ,zC,zC];rfl,sm6⟩)))
   | false=>exact iteB0 rfl (hC _ _ _ ⟨⟨_,_,rfl⟩,by rw [st,zZ,zC,zC];exact (zz _).symm,sm6⟩)
  rintro τ acc H6 ⟨⟨t0,t1,rfl⟩,rfl,s6⟩ lc hlc
  have e2:(ws.map λa=>V.ref a.1).length=((ws.map (·.2)).zip ts).length:=by rw [zA,yG,zA,et];exact (yf _).symm
  rw [e2,zU]
  refine ⟨lc,zr rfl ⟨SqL.of yx,?_⟩⟩
  have s17:=s16.trans (s6.trans (yy (o:=HO.lst ((((((ws.map (·.2)).zip ts).filter λp=>p.2).map (·.1.m)).map V.int))) hlc))
  generalize upd H6 lc _=H8 at s17 ⊢
  have c8:=co.same s17
  refine (zr2 rfl rfl (zr rfl ⟨lm,rfl,⟨_,SqL.of c8.m⟩,?_⟩))
  have T0:∃ T,T=leaveF (ls.map (·.2)) gs + takeF (ws.map (·.2)) ts:=⟨_,rfl⟩
  obtain ⟨T,hT⟩:=T0
  refine for_list (K:=K) (a:=lm) (xs:=ms.map λa=>V.ref a.1) (λi σ H6=>(∃ v8 v9 v10 v11 v12 v13 v14 v15 v16,σ=[some (.ref b),some (.ref ll),some (.ref lw),some (.ref c),some (.ref lg),some (.ref lt),some (.ref lm),some (.int (T + (bagsF rooms ((ms.map (·.2)).take i)).sum)),v8,v9,v10,v11,v12,v13,v14,v15,v16])/\Same H H6) ⟨⟨_,_,_,_,_,_,_,_,_,by rw [hT,List.take_zero];show _=[_,_,_,_,_,_,_,some (V.int (_ + 0)),_,_,_,_,_,_,_,_,_];rw [Int.add_zero];rfl⟩,s17⟩ ?_ ?_ ?_
  ·rintro i σ H6 _ ⟨_,sm⟩
   exact SqL.of (sm _ _ co.m)
  ·rintro i v σ H6 hv ⟨⟨v8,v9,v10,v11,v12,v13,v14,v15,v16,rfl⟩,sm⟩
   obtain ⟨r,hr,rfl⟩:=xR hv
   have mr:=zB hr
   have c6:=co.same sm
   have kr:=c6.rows r mr
   have lr':=ok.rows r mr
   refine (zr rfl (zr rfl (ixt c6.b.book rfl (zr rfl ⟨tr,r.1,rfl,⟨_,SqT.of c6.b.rooms⟩,⟨_,SqL.of kr⟩,?_⟩))))
   refine comp_zipN (K:=K) (a:=tr) (b:=r.1) (xs:=rooms.map V.int) (ys:=r.2.map V.int) (by rw [zA,zA,lr']) (λj τ acc H7=>(∃ t0 t1,τ=[t0,t1])/\acc=((((rooms.zip r.2).take j).filter λp=>decide (p.2=1)).map (·.1)).map V.int/\Same H6 H7) ⟨⟨_,_,rfl⟩,rfl,Same.refl _⟩ (by rw [zA];omega) ?_ ?_ ?_
   ·rintro j τ acc H7 ⟨_,rfl,s7⟩
    refine ⟨?_,SqT.of (s7 _ _ c6.b.rooms),SqL.of (s7 _ _ kr)⟩
    rw [zA,zA]
    exact zk (zi _ _) (by rw [zT];omega)
   ·rintro j x y u τ acc H7 C hx hy hu ⟨⟨t0,t1,rfl⟩,rfl,s7⟩ hC
    obtain ⟨e1,hx',rfl⟩:=xR hx
    obtain ⟨e2,hy',rfl⟩:=xR hy
    have s8:=s7.trans (yy (o:=HO.tup [V.int e1,V.int e2]) hu)
    have st:=xX (zip_at hx' hy')
    refine (un2 yx (zr rfl ⟨rfl,zr rfl ?_⟩))
    by_cases e:e2=1
    ·exact iteB1 (decide_eq_true (congrArg V.int e)) (zr rfl (hC _ _ _ ⟨⟨_,_,rfl⟩,by rw [st,zZ,zC,zC,yQ (by rw [decide_eq_true e])];rfl,s8⟩))
    ·exact iteB0 (decide_eq_false (λz=>e (V.int.inj z))) (hC _ _ _ ⟨⟨_,_,rfl⟩,by rw [st,zZ,zC,zC,yP (by rw [decide_eq_false e];decide)];exact (zz _).symm,s8⟩)
   rintro τ acc H7 ⟨⟨t0,t1,rfl⟩,rfl,s7⟩ l1 hl1
   have e3:(rooms.map V.int).length=(rooms.zip r.2).length:=by rw [zA,yG,lr'];exact (yf _).symm
   rw [e3,zU,rowBag_swap38]
   exact ⟨l1,zr rfl ⟨SqL.of yx,zr2 rfl rfl ⟨⟨_,_,_,_,_,_,_,_,_,by rw [bagsF_snoc (xT hr),yj,<- Int.add_assoc];rfl⟩,sm.trans (s7.trans (yy hl1))⟩⟩⟩
  rintro σ H6 ⟨⟨v8,v9,v10,v11,v12,v13,v14,v15,v16,rfl⟩,sm⟩
  rw [show (ms.map λa=>V.ref a.1).length=(ms.map (·.2)).length by rw [zA,zA],zU]
  have T1:∃ U,U=T + (bagsF rooms (ms.map (·.2))).sum:=⟨_,rfl⟩
  obtain ⟨U,hU⟩:=T1
  rw [<-hU]
  have c6:=co.same sm
  refine (zr rfl (ixt c6.b.book rfl ⟨tm,zr rfl ⟨.inr (SqT.of c6.b.meets),?_⟩⟩))
  rw [zA]
  refine (zr rfl ⟨by omega,by omega,?_⟩)
  refine xy (lo:=0) (n:=ps.length) (λk σ H7=>(∃ v8 v9 v10 v11 v12 v13 v14 v15 v16,σ=[some (.ref b),some (.ref ll),some (.ref lw),some (.ref c),some (.ref lg),some (.ref lt),some (.ref lm),some (.int (U + meet38 (ps.map (·.2)) (ms.map (·.2)) k)),v8,v9,v10,v11,v12,v13,v14,v15,v16])/\Same H H7) ⟨⟨_,_,_,_,_,_,_,_,_,by show _=[_,_,_,_,_,_,_,some (V.int (_ + 0)),_,_,_,_,_,_,_,_,_];rw [Int.add_zero]⟩,sm⟩ ?_ ?_
  ·rintro k σ H7 hk ⟨⟨v8,v9,v10,v11,v12,v13,v14,v15,v16,rfl⟩,s7⟩
   have c7:=co.same s7
   obtain ⟨m,hm'⟩:∃ m,ps[k]?=some m:=⟨_,zG hk⟩
   obtain ⟨a1,a2,a3,_⟩:=gd.at (zB hm')
   have lms:=ok.lm
   obtain ⟨r,hr⟩:∃ r,ms[k]?=some r:=⟨_,zG (by omega)⟩
   obtain ⟨r2,hr2⟩:∃ r,ms[k + 1]?=some r:=⟨_,zG (by omega)⟩
   have mr:=zB hr
   have mr2:=zB hr2
   have kr:=c7.rows r mr
   have kr2:=c7.rows r2 mr2
   have lr1:=ok.rows r mr
   have lr2:=ok.rows r2 mr2
   have aa:atI (ms.map λa=>V.ref a.1) (0 + (k:Int))=some (V.ref r.1):=by rw [zu];exact xb (by rw [zJ,hr];rfl)
   have aa2:atI (ms.map λa=>V.ref a.1) (0 + (k:Int) + 1)=some (V.ref r2.1):=by rw [zu];exact xb (j:=k + 1) (by rw [zJ,hr2];rfl)
   have ap:atI (ps.map λa=>V.ref a.1) (0 + (k:Int))=some (V.ref m.1):=by rw [zu];exact xb (by rw [zJ,hm'];rfl)
   have aml:atI (r.2.map V.int) m.2.lo=some (.int (mk38 (ms.map (·.2)) k m.2.lo.toNat)):=by rw [<-wM (xT hr)];exact xu a1 (by omega)
   have amh:atI (r.2.map V.int) m.2.hi=some (.int (mk38 (ms.map (·.2)) k m.2.hi.toNat)):=by rw [<-wM (xT hr)];exact xu (by omega) (by omega)
   have am2l:atI (r2.2.map V.int) m.2.lo=some (.int (mk38 (ms.map (·.2)) (k + 1) m.2.lo.toNat)):=by rw [<-wM (xT hr2)];exact xu a1 (by omega)
   have am2h:atI (r2.2.map V.int) m.2.hi=some (.int (mk38 (ms.map (·.2)) (k + 1) m.2.hi.toNat)):=by rw [<-wM (xT hr2)];exact xu (by omega) (by omega)
   rw [zA] at d
   have bl:=d.mk3 (k:=k + 1) (w:=m.2.lo.toNat) (by omega) (by omega)
   have bh:=d.mk3 (k:=k + 1) (w:=m.2.hi.toNat) (by omega) (by omega)
   have gi:=(holds_inv38 (nr:=rooms.length) (by rw [zA];exact d) eh).2.1
   rw [zA] at gi
   have g1:∀ {j:Nat},j < rooms.length->openB (mk38 (ms.map (·.2)) k j)=true->innB (mk38 (ms.map (·.2)) (k + 1) j)=true:=λ{j} hj h=>by
    have o:=d.mk3 (k:=k + 1) (w:=j) (by omega) hj
    rw [<-odd_inn o.1 o.2]
    exact decide_eq_true (gi k hk j hj (of_decide_eq_true h))
   have su:=meet_succ38 (xT hm') (g1 (j:=m.2.lo.toNat) (by omega)) (g1 (j:=m.2.hi.toNat) (by omega))
   refine (zr rfl (ixt c7.b.book rfl (zr rfl (ixt c7.b.meets ap (un4 (c7.b.rows m (zB hm')) ?_)))))
   refine (zr rfl (zr rfl (ixl c7.m aa ?_)))
   refine (zr rfl (zr rfl (zr2 rfl rfl (ixl c7.m aa2 ?_))))
   refine (zr rfl (zr rfl (ixl kr aml (zr2 rfl rfl (zr rfl ?_)))))
   have eN:over38 (ms.map (·.2)) k m.2.lo.toNat m.2.hi.toNat=false->U + meet38 (ps.map (·.2)) (ms.map (·.2)) (k + 1)=U + meet38 (ps.map (·.2)) (ms.map (·.2)) k:=λe=>by rw [su,e];exact congrArg (U + ·) (Int.add_zero _)
   have eA:over38 (ms.map (·.2)) k m.2.lo.toNat m.2.hi.toNat=true->U + meet38 (ps.map (·.2)) (ms.map (·.2)) (k + 1)=U + (meet38 (ps.map (·.2)) (ms.map (·.2)) k + m.2.m):=λe=>by rw [su,e];rfl
   by_cases h1:2<=mk38 (ms.map (·.2)) k m.2.lo.toNat
   ·refine iteB1 (decide_eq_true h1) (zr rfl (zr rfl (ixl kr2 am2h (zr2 rfl rfl ⟨(by show (0:Int) < 2;decide),rfl,zr rfl (zr rfl ?_)⟩))))
    cases h2:innB (mk38 (ms.map (·.2)) (k + 1) m.2.hi.toNat) with
    | false=>exact iteB1 ((even_inn38 bh.1 bh.2).trans (by rw [h2];rfl)) (iteB1 rfl (zr rfl (zr rfl (zr2 rfl rfl ⟨⟨_,_,_,_,_,_,_,_,_,by rw [eA (by unfold over38;rw [h2,show openB (mk38 (ms.map (·.2)) k m.2.lo.toNat)=true from decide_eq_true h1];rfl),<- Int.add_assoc];rfl⟩,s7⟩))))
    | true=>
     refine iteB0 ((even_inn38 bh.1 bh.2).trans (by rw [h2];rfl)) (zr rfl (zr rfl (ixl kr amh (zr2 rfl rfl (zr rfl ?_)))))
     by_cases h3:2<=mk38 (ms.map (·.2)) k m.2.hi.toNat
     rotate_left
     ·exact iteB0 (decide_eq_false h3) (iteB0 rfl ⟨⟨_,_,_,_,_,_,_,_,_,by rw [eN (by unfold over38;rw [show (openB (mk38 (ms.map (·.2)) k m.2.lo.toNat) && !innB (mk38 (ms.map (·.2)) (k + 1) m.2.hi.toNat))=false by rw [h2,yg,yM],show openB (mk38 (ms.map (·.2)) k m.2.hi.toNat)=false from decide_eq_false h3];rfl)];rfl⟩,s7⟩)
     refine iteB1 (decide_eq_true h3) (zr rfl (zr rfl (ixl kr2 am2l (zr2 rfl rfl ⟨(by show (0:Int) < 2;decide),rfl,zr rfl ?_⟩))))
     cases h4:innB (mk38 (ms.map (·.2)) (k + 1) m.2.lo.toNat) with
     | true=>exact iteB0 ((even_inn38 bl.1 bl.2).trans (by rw [h4];rfl)) ⟨⟨_,_,_,_,_,_,_,_,_,by rw [eN (by unfold over38;rw [show (openB (mk38 (ms.map (·.2)) k m.2.lo.toNat) && !innB (mk38 (ms.map (·.2)) (k + 1) m.2.hi.toNat))=false by rw [h2,yg,yM],h4,yg,yM];rfl)];rfl⟩,s7⟩
     | false=>exact iteB1 ((even_inn38 bl.1 bl.2).trans (by rw [h4];rfl)) (zr rfl (zr rfl (zr2 rfl rfl ⟨⟨_,_,_,_,_,_,_,_,_,by rw [eA (by unfold over38;rw [h4,show openB (mk38 (ms.map (·.2)) k m.2.hi.toNat)=true from decide_eq_true h3,yX,Bool.and_true,Bool.or_true]),<- Int.add_assoc];rfl⟩,s7⟩)))
   refine iteB0 (decide_eq_false h1) (zr rfl (zr rfl (iteB0 rfl (zr rfl (zr rfl (ixl kr amh (zr2 rfl rfl (zr rfl ?_))))))))
   by_cases h3:2<=mk38 (ms.map (·.2)) k m.2.hi.toNat
   rotate_left
   ·exact iteB0 (decide_eq_false h3) (iteB0 rfl ⟨⟨_,_,_,_,_,_,_,_,_,by rw [eN (by unfold over38;rw [show (openB (mk38 (ms.map (·.2)) k m.2.lo.toNat) && !innB (mk38 (ms.map (·.2)) (k + 1) m.2.hi.toNat))=false by rw [show openB (mk38 (ms.map (·.2)) k m.2.lo.toNat)=false from decide_eq_false h1];rfl,show openB (mk38 (ms.map (·.2)) k m.2.hi.toNat)=false from decide_eq_false h3];rfl)];rfl⟩,s7⟩)
   refine iteB1 (decide_eq_true h3) (zr rfl (zr rfl (ixl kr2 am2l (zr2 rfl rfl ⟨(by show (0:Int) < 2;decide),rfl,zr rfl ?_⟩))))
   cases h4:innB (mk38 (ms.map (·.2)) (k + 1) m.2.lo.toNat) with
   | true=>exact iteB0 ((even_inn38 bl.1 bl.2).trans (by rw [h4];rfl)) ⟨⟨_,_,_,_,_,_,_,_,_,by rw [eN (by unfold over38;rw [show (openB (mk38 (ms.map (·.2)) k m.2.lo.toNat) && !innB (mk38 (ms.map (·.2)) (k + 1) m.2.hi.toNat))=false by rw [show openB (mk38 (ms.map (·.2)) k m.2.lo.toNat)=false from decide_eq_false h1];rfl,h4,yg,yM];rfl)];rfl⟩,s7⟩
   | false=>exact iteB1 ((even_inn38 bl.1 bl.2).trans (by rw [h4];rfl)) (zr rfl (zr rfl (zr2 rfl rfl ⟨⟨_,_,_,_,_,_,_,_,_,by rw [eA (by unfold over38;rw [h4,show openB (mk38 (ms.map (·.2)) k m.2.hi.toNat)=true from decide_eq_true h3,yX,Bool.and_true,Bool.or_true]),<- Int.add_assoc];rfl⟩,s7⟩)))
  rintro σ H7 ⟨⟨v8,v9,v10,v11,v12,v13,v14,v15,v16,rfl⟩,s7⟩
  refine (zr rfl ?_)
  have z:=q _ s7
  rw [show worthC rooms (ps.map (·.2)) (ls.map (·.2)) (ws.map (·.2)) gs ts (ms.map (·.2))=U + meet38 (ps.map (·.2)) (ms.map (·.2)) ps.length by rw [hU,hT];unfold worthC meetF meet38;rw [zA]] at z
  exact z
theorem DE:FnScope ["_law_purse_here", "_law_cut_here", "_law_given", "_law_taken", "_law_marks", "_law_way", "_law_at", "_law_other", "_law_row_here", "_law_spot", "_law_mark"] ["_law_purse_here", "_law_cut_here"] (defScope CZ):=⟨rfl,rfl,rfl,by decide +kernel,rfl,by decide +kernel,by decide +kernel⟩
theorem FO (T:Tx K mg a):FnOk P w K mg base CX0 2 a.A2 a.BH ["_law_purse_here", "_law_cut_here"] (spBent38):=by
 have Aa:=xl P w base T
 refine T.Bn.ok DE (λvs H Q E h=>?_) (λcdv A outer s H vs Q E hr h=>?_)
 ·obtain ⟨_,_,_,_,_,_,_,_,_,rfl,_⟩:=h;rfl
 ·have nd:=DE.nd
  have hu:=hr.units
  obtain ⟨p,c,lg,lt,lm,gs,ts,ms,nr,rfl,hp,kk,g100,t100,m100,m1,n1,n12,hrw,q⟩:=h
  refine ⟨_,(@xD _ _ _ (@xQ _ _ _ _ _ _ (ps_asg (pv 1) (xZ (n:=3) rfl rfl (xE (xA (i:=2) nd rfl rfl) (xE (xA (i:=3) nd rfl rfl) (xE (xA (i:=4) nd rfl rfl) xY))))) (@xQ _ _ _ _ _ _ (xL (i:=5) nd rfl rfl (xC Aa (hr.mono (by decide)) rfl T.Ab T.Ac T.Ae .nil pass0 (@yu _ _ _ (@yw _ _ _ _ _ (pv 0) (@yw _ _ _ _ _ yt xB rfl) rfl)))) (@xQ _ _ _ _ _ _ (@xW _ _ _ _ _ _ _ _ (@xP _ _ _ _ _ _ _ _ xw (pv 5) yt (nomark _)) (@xD _ _ _ (@xS _ _ _ (@xN _ _ _ _ (@xG _ _ _ _ _ _ _ (xI rfl) (@xa _ _ _ _ (@yu _ _ _ (@yw _ _ _ _ _ (xr (wG rfl) (by rfl) T.b_list zb (@yu _ _ _ (@yw _ _ _ _ _ (pv 1) xB rfl))) (@yw _ _ _ _ _ (@wJ _ _ _ _ _ (@yu _ _ _ (@yw _ _ _ _ _ (pv 2) (@yw _ _ _ _ _ (pv 3) xB rfl) rfl))) (@yw _ _ _ _ _ (@wJ _ _ _ _ _ (@yu _ _ _ (@yw _ _ _ _ _ (xr (wV) (by rfl) T.b_tuple yD (@yu _ _ _ (@yw _ _ _ _ _ (pv 2) xB rfl))) (@yw _ _ _ _ _ (pv 3) (@yw _ _ _ _ _ (pv 4) xB rfl) rfl) rfl))) (@yw _ _ _ _ _ (@wJ _ _ _ _ _ (@yu _ _ _ (@yw _ _ _ _ _ (pv 2) (@yw _ _ _ _ _ (pv 3) (@yw _ _ _ _ _ (xr (wV) (by rfl) T.b_tuple yD (@yu _ _ _ (@yw _ _ _ _ _ (pv 4) xB rfl))) xB rfl) rfl) rfl))) (@yw _ _ _ _ _ pe_non (@yw _ _ _ _ _ yt (@yw _ _ _ _ _ pe_str xB rfl) rfl) rfl) rfl) rfl) rfl) rfl))) (xC Aa (hr.mono (by decide)) rfl T.Ab T.Ac T.Ae .nil pass0 (@yu _ _ _ (@yw _ _ _ _ _ (pv 0) (@yw _ _ _ _ _ yt xB rfl) rfl))) (λ_ _=>rfl))))) xO) (@xQ _ _ _ _ _ _ (@xW _ _ _ _ _ _ _ _ (@xP _ _ _ _ _ _ _ _ xw (pv 5) yt (nomark _)) (@xD _ _ _ (@xS _ _ _ (@xN _ _ _ _ (@wJ _ _ _ _ _ (@yu _ _ _ (@yw _ _ _ _ _ (pv 2) (@yw _ _ _ _ _ (pv 3) (@yw _ _ _ _ _ (@xG _ _ _ _ _ _ _ (xI rfl) (@xa _ _ _ _ (@yu _ _ _ (@yw _ _ _ _ _ (@wK _ _ _ _ _ _ _ _ _ _ (wN rfl) (pv 4) wW (@wQ _ _ _ (@pe_un _ _ _ _ _ _ un_neg yt))) (@yw _ _ _ _ _ (@xM _ _ _ _ _ _ _ _ op_cat (pv 4) (@xa _ _ _ _ (@yu _ _ _ (@yw _ _ _ _ _ (@xG _ _ _ _ _ _ _ (xI rfl) (pv 4) yt (λ_ _=>rfl)) xB rfl)))) xB rfl) rfl))) (xC Aa (hr.mono (by decide)) rfl T.Ab T.Ac T.Ae .nil pass0 (@yu _ _ _ (@yw _ _ _ _ _ (pv 0) (@yw _ _ _ _ _ yt xB rfl) rfl))) (λ_ _=>rfl)) xB rfl) rfl) rfl)))))) xO) (@xQ _ _ _ _ _ _ (@xW _ _ _ _ _ _ _ _ (@xP _ _ _ _ _ _ _ _ xw (pv 5) yt (nomark _)) (@xD _ _ _ (@xS _ _ _ (@xN _ _ _ _ (@wJ _ _ _ _ _ (@yu _ _ _ (@yw _ _ _ _ _ (@wK _ _ _ _ _ _ _ _ _ _ (wN rfl) (pv 2) wW (@wQ _ _ _ (@pe_un _ _ _ _ _ _ un_neg yt))) (@yw _ _ _ _ _ (@xM _ _ _ _ _ _ _ _ op_cat (pv 3) (@xa _ _ _ _ (@yu _ _ _ (@yw _ _ _ _ _ wB xB rfl)))) (@yw _ _ _ _ _ (pv 4) xB rfl) rfl) rfl)))))) xO) (@xQ _ _ _ _ _ _ (@xW _ _ _ _ _ _ _ _ (@PW.pt _ _ _ (@wI _ _ _ _ _ _ _ (@xP _ _ _ _ _ _ _ _ xw (pv 5) yt (nomark _)) (@wC _ _ _ _ (@xP _ _ _ _ _ _ _ _ (op_neNil hu) (pv 2) (@xa _ _ _ _ wd) (nomark _))))) (@xD _ _ _ (@xQ _ _ _ _ _ _ (xL (i:=6) nd rfl rfl (xC Aa (hr.mono (by decide)) rfl T.Ab T.Ac T.Ae .nil pass0 (@yu _ _ _ (@yw _ _ _ _ _ (pv 0) (@yw _ _ _ _ _ (xF (xJ rfl) (by rfl) T.b_len PySem.boot_len (@yu _ _ _ (@yw _ _ _ _ _ (pv 2) xB rfl))) xB rfl) rfl)))) (@xQ _ _ _ _ _ _ (xL (i:=7) nd rfl rfl (@xG _ _ _ _ _ _ _ (xI rfl) (@xa _ _ _ _ (@yu _ _ _ (@yw _ _ _ _ _ (@pe_not _ _ _ _ (@xG _ _ _ _ _ _ _ (xI rfl) (pv 2) (pv 6) (λ_ _=>rfl))) (@yw _ _ _ _ _ (xr (call_int1) (by rfl) T.b_int PyProof.Rows.boot_int (@yu _ _ _ (@yw _ _ _ _ _ (@xG _ _ _ _ _ _ _ (xI rfl) (pv 2) (pv 6) (λ_ _=>rfl)) xB rfl))) (@yw _ _ _ _ _ pe_non (@yw _ _ _ _ _ (@xa _ _ _ _ wd) xB rfl) rfl) rfl) rfl))) (xC Aa (hr.mono (by decide)) rfl T.Ab T.Ac T.Ae .nil pass0 (@yu _ _ _ (@yw _ _ _ _ _ (pv 0) (@yw _ _ _ _ _ yt xB rfl) rfl))) (λ_ _=>rfl))) (@xS _ _ _ (@xN _ _ _ _ (@wJ _ _ _ _ _ (@yu _ _ _ (@yw _ _ _ _ _ (@xM _ _ _ _ _ _ _ _ op_cat (@xM _ _ _ _ _ _ _ _ op_cat (@wK _ _ _ _ _ _ _ _ _ _ (wN rfl) (pv 2) wW (@wQ _ _ _ (pv 6))) (@xa _ _ _ _ (@yu _ _ _ (@yw _ _ _ _ _ (pv 7) xB rfl)))) (@wK _ _ _ _ _ _ _ _ _ _ (wN rfl) (pv 2) (@wQ _ _ _ (@xM _ _ _ _ _ _ _ _ xU (pv 6) yt)) wW)) (@yw _ _ _ _ _ (pv 3) (@yw _ _ _ _ _ (pv 4) xB rfl) rfl) rfl)))))))) xO) (@xQ _ _ _ _ _ _ (@xW _ _ _ _ _ _ _ _ (@PW.pt _ _ _ (@wI _ _ _ _ _ _ _ (@xP _ _ _ _ _ _ _ _ xw (pv 5) yt (nomark _)) (@wC _ _ _ _ (@xP _ _ _ _ _ _ _ _ (op_neNil hu) (pv 3) (@xa _ _ _ _ wd) (nomark _))))) (@xD _ _ _ (@xQ _ _ _ _ _ _ (xL (i:=6) nd rfl rfl (xC Aa (hr.mono (by decide)) rfl T.Ab T.Ac T.Ae .nil pass0 (@yu _ _ _ (@yw _ _ _ _ _ (pv 0) (@yw _ _ _ _ _ (xF (xJ rfl) (by rfl) T.b_len PySem.boot_len (@yu _ _ _ (@yw _ _ _ _ _ (pv 3) xB rfl))) xB rfl) rfl)))) (@xQ _ _ _ _ _ _ (xL (i:=7) nd rfl rfl (@xG _ _ _ _ _ _ _ (xI rfl) (@xa _ _ _ _ (@yu _ _ _ (@yw _ _ _ _ _ (@pe_not _ _ _ _ (@xG _ _ _ _ _ _ _ (xI rfl) (pv 3) (pv 6) (λ_ _=>rfl))) (@yw _ _ _ _ _ (xr (call_int1) (by rfl) T.b_int PyProof.Rows.boot_int (@yu _ _ _ (@yw _ _ _ _ _ (@xG _ _ _ _ _ _ _ (xI rfl) (pv 3) (pv 6) (λ_ _=>rfl)) xB rfl))) (@yw _ _ _ _ _ pe_non (@yw _ _ _ _ _ (@xa _ _ _ _ wd) xB rfl) rfl) rfl) rfl))) (xC Aa (hr.mono (by decide)) rfl T.Ab T.Ac T.Ae .nil pass0 (@yu _ _ _ (@yw _ _ _ _ _ (pv 0) (@yw _ _ _ _ _ yt xB rfl) rfl))) (λ_ _=>rfl))) (@xS _ _ _ (@xN _ _ _ _ (@wJ _ _ _ _ _ (@yu _ _ _ (@yw _ _ _ _ _ (pv 2) (@yw _ _ _ _ _ (@xM _ _ _ _ _ _ _ _ op_cat (@xM _ _ _ _ _ _ _ _ op_cat (@wK _ _ _ _ _ _ _ _ _ _ (wN rfl) (pv 3) wW (@wQ _ _ _ (pv 6))) (@xa _ _ _ _ (@yu _ _ _ (@yw _ _ _ _ _ (pv 7) xB rfl)))) (@wK _ _ _ _ _ _ _ _ _ _ (wN rfl) (pv 3) (@wQ _ _ _ (@xM _ _ _ _ _ _ _ _ xU (pv 6) yt)) wW)) (@yw _ _ _ _ _ (pv 4) xB rfl) rfl) rfl)))))))) xO) (@xQ _ _ _ _ _ _ (xL (i:=6) nd rfl rfl (xC Aa (hr.mono (by decide)) rfl T.Ab T.Ac T.Ae .nil pass0 (@yu _ _ _ (@yw _ _ _ _ _ (pv 0) (@yw _ _ _ _ _ (xF (xJ rfl) (by rfl) T.b_len PySem.boot_len (@yu _ _ _ (@yw _ _ _ _ _ (pv 4) xB rfl))) xB rfl) rfl)))) (@xQ _ _ _ _ _ _ (xL (i:=8) nd rfl rfl (xr (wG rfl) (by rfl) T.b_list zb (@yu _ _ _ (@yw _ _ _ _ _ (@xG _ _ _ _ _ _ _ (xI rfl) (pv 4) (pv 6) (λ_ _=>rfl)) xB rfl)))) (@xQ _ _ _ _ _ _ (xL (i:=9) nd rfl rfl (xC Aa (hr.mono (by decide)) rfl T.Ab T.Ac T.Ae .nil pass0 (@yu _ _ _ (@yw _ _ _ _ _ (pv 0) (@yw _ _ _ _ _ (xF (xJ rfl) (by rfl) T.b_len PySem.boot_len (@yu _ _ _ (@yw _ _ _ _ _ (pv 8) xB rfl))) xB rfl) rfl)))) (@xQ _ _ _ _ _ _ (xL (i:=10) nd rfl rfl (@xG _ _ _ _ _ _ _ (xI rfl) (pv 8) (pv 9) (λ_ _=>rfl))) (@xQ _ _ _ _ _ _ (ps_asg (@xG _ _ _ _ _ _ _ (xI rfl) (@xa _ _ _ _ (@yu _ _ _ (@yw _ _ _ _ _ yt (@yw _ _ _ _ _ yt (@yw _ _ _ _ _ yt (@yw _ _ _ _ _ yt (@yw _ _ _ _ _ yt (@yw _ _ _ _ _ yt (@yw _ _ _ _ _ yt (@yw _ _ _ _ _ yt (@yw _ _ _ _ _ (@pe_un _ _ _ _ _ _ un_neg yt) (@yw _ _ _ _ _ yt (@yw _ _ _ _ _ wB (@yw _ _ _ _ _ pe_non (@yw _ _ _ _ _ pe_str (@yw _ _ _ _ _ (@xa _ _ _ _ (@yu _ _ _ (@yw _ _ _ _ _ yt xB rfl))) (@yw _ _ _ _ _ pe_dnewK (@yw _ _ _ _ _ (@xM _ _ _ _ _ _ _ _ xU (pv 10) yt) (@yw _ _ _ _ _ (@xM _ _ _ _ _ _ _ _ op_sub (pv 10) yt) (@yw _ _ _ _ _ (@xM _ _ _ _ _ _ _ _ xU (pv 10) yt) xB rfl) rfl) rfl) rfl) rfl) rfl) rfl) rfl) rfl) rfl) rfl) rfl) rfl) rfl) rfl) rfl) rfl) rfl))) (xC Aa (hr.mono (by decide)) rfl T.Ab T.Ac T.Ae .nil pass0 (@yu _ _ _ (@yw _ _ _ _ _ (pv 0) (@yw _ _ _ _ _ yt xB rfl) rfl))) (λ_ _=>rfl)) (pg_sub (pv 8) (pv 9) set_list)) (@xQ _ _ _ _ _ _ (@xW _ _ _ _ _ _ _ _ (@xP _ _ _ _ _ _ _ _ xw (xC Aa (hr.mono (by decide)) rfl T.Ab T.Ac T.Ae .nil pass0 (@yu _ _ _ (@yw _ _ _ _ _ (pv 0) (@yw _ _ _ _ _ yt xB rfl) rfl))) yt (nomark _)) (@xD _ _ _ (@xS _ _ _ (xL (i:=8) nd rfl rfl (@xG _ _ _ _ _ _ _ (xI rfl) (@xa _ _ _ _ (@yu _ _ _ (@yw _ _ _ _ _ (xr (wV) (by rfl) T.b_tuple yD (@yu _ _ _ (@yw _ _ _ _ _ (pv 8) xB rfl))) (@yw _ _ _ _ _ (@wK _ _ _ _ _ _ _ _ _ _ (wN rfl) (pv 8) (@wQ _ _ _ yt) wW) (@yw _ _ _ _ _ pe_non xB rfl) rfl) rfl))) (xC Aa (hr.mono (by decide)) rfl T.Ab T.Ac T.Ae .nil pass0 (@yu _ _ _ (@yw _ _ _ _ _ (pv 0) (@yw _ _ _ _ _ yt xB rfl) rfl))) (λ_ _=>rfl))))) xO) (@xS _ _ _ (@xN _ _ _ _ (@wJ _ _ _ _ _ (@yu _ _ _ (@yw _ _ _ _ _ (pv 2) (@yw _ _ _ _ _ (pv 3) (@yw _ _ _ _ _ (@xM _ _ _ _ _ _ _ _ op_cat (@xM _ _ _ _ _ _ _ _ op_cat (@wK _ _ _ _ _ _ _ _ _ _ (wN rfl) (pv 4) wW (@wQ _ _ _ (pv 6))) (@xa _ _ _ _ (@yu _ _ _ (@yw _ _ _ _ _ (pv 8) xB rfl)))) (@wK _ _ _ _ _ _ _ _ _ _ (wN rfl) (pv 4) (@wQ _ _ _ (@xM _ _ _ _ _ _ _ _ xU (pv 6) yt)) wW)) xB rfl) rfl) rfl))))))))))))))))))),?_⟩
  have line:=line9
  have hn:∀ a∈ms,a.1≠p:=λa ha=>(hrw a ha).2
  have e200:(2:Int) ^ 200 > 10000:=by decide
  have kc:∀ {H':Hp},Go p H H'->CutAt H' c lg lt lm gs ts ms:=λg=>kk.go g hp hn
  refine (zr rfl (un3 kk.c ?_))
  refine (zr rfl ⟨p,zr rfl ⟨by decide,by decide,hp,λd H1 d0 d1 g=>?_⟩⟩)
  refine (zr rfl ⟨rfl,zr rfl (iteD (λh=>?_) λh=>?_)⟩)
  ·clear h
   refine (zr rfl ⟨c,zr rfl ⟨.inr (SqT.of (kc g).c),λa1 h1=>?_⟩⟩)
   have g1:=g.new (o:=HO.lst [V.ref lg,V.ref lt,V.ref lm]) h1
   have f1:=g.2.ne h1
   have k1:upd H1 a1 (HO.lst [V.ref lg,V.ref lt,V.ref lm]) a1=some (.lst [V.ref lg,V.ref lt,V.ref lm]):=yx
   generalize upd H1 a1 _=H2 at g1 k1 ⊢
   refine (zr rfl (zr rfl ⟨by show 2<=sizeLine;omega,λa2 h2=>?_⟩))
   have s2:=yy (o:=HO.tup [V.ref lg,V.ref lt]) h2
   have k2:upd H2 a2 (HO.tup [V.ref lg,V.ref lt]) a2=some (.tup [V.ref lg,V.ref lt]):=yx
   generalize upd H2 a2 _=H3 at s2 k2 ⊢
   have g3:=g1.same s2
   refine (zr rfl ⟨lg,zr rfl (.inl ⟨SqL.of (kc g3).g,λa3 h3=>?_⟩)⟩)
   have s3:=yy (o:=HO.tup (gs.map V.bl)) h3
   have k3:upd H3 a3 (HO.tup (gs.map V.bl)) a3=some (.tup (gs.map V.bl)):=yx
   generalize upd H3 a3 _=H4 at s3 k3 ⊢
   refine (zr rfl (zr rfl ⟨by show 3<=sizeLine;omega,λa4 h4=>?_⟩))
   have s4:=yy (o:=HO.tup [V.ref a3,V.ref lt,V.ref lm]) h4
   have k4:upd H4 a4 (HO.tup [V.ref a3,V.ref lt,V.ref lm]) a4=some (.tup [V.ref a3,V.ref lt,V.ref lm]):=yx
   generalize upd H4 a4 _=H5 at s4 k4 ⊢
   have g5:=(g3.same s3).same s4
   refine (zr rfl (zr rfl (zr rfl ⟨lm,zr rfl (.inl ⟨SqL.of (kc g5).m,λa5 h5=>?_⟩)⟩)))
   have s5:=yy (o:=HO.tup (ms.map λa=>V.ref a.1)) h5
   have k5:upd H5 a5 (HO.tup (ms.map λa=>V.ref a.1)) a5=some (.tup (ms.map λa=>V.ref a.1)):=yx
   generalize upd H5 a5 _=H6 at s5 k5 ⊢
   refine ⟨by show 3<=sizeLine;omega,λa6 h6=>?_⟩
   have s6:=yy (o:=HO.tup [V.ref lg,V.ref lt,V.ref a5]) h6
   have k6:upd H6 a6 (HO.tup [V.ref lg,V.ref lt,V.ref a5]) a6=some (.tup [V.ref lg,V.ref lt,V.ref a5]):=yx
   generalize upd H6 a6 _=H7 at s6 k6 ⊢
   have g7:=(g5.same s5).same s6
   refine ⟨by show 7<=sizeLine;omega,λl hl=>?_⟩
   have fl:=g7.2.ne hl
   have s8:=yy (o:=HO.lst [V.ref a1,V.ref a2,V.ref a4,V.ref a6,V.non,V.int 3,V.str (Str.ofString "cut")]) hl
   have kl:upd H7 l (HO.lst [V.ref a1,V.ref a2,V.ref a4,V.ref a6,V.non,V.int 3,V.str (Str.ofString "cut")]) l=some (.lst [V.ref a1,V.ref a2,V.ref a4,V.ref a6,V.non,V.int 3,V.str (Str.ofString "cut")]):=yx
   generalize upd H7 l _=H8 at s8 kl ⊢
   have g8:=g7.same s8
   refine (zr rfl ⟨p,zr rfl ⟨by decide,by decide,g8.2,λe H9 e0 e1 g9=>?_⟩⟩)
   have g10:=g8.trans g9
   have kf:=kc g10
   have t:∀ {b xs},H8 b=some (.tup xs)->H9 b=some (.tup xs):=λh=>g9.tups g8.2 _ _ h
   have j1:=g9.1 _ _ f1 (s8 _ _ (s6 _ _ (s5 _ _ (s4 _ _ (s3 _ _ (s2 _ _ k1))))))
   have j2:=t (s8 _ _ (s6 _ _ (s5 _ _ (s4 _ _ (s3 _ _ k2)))))
   have j3:=t (s8 _ _ (s6 _ _ (s5 _ _ (s4 _ _ k3))))
   have j4:=t (s8 _ _ (s6 _ _ (s5 _ _ k4)))
   have j5:=t (s8 _ _ (s6 _ _ k5))
   have j6:=t (s8 _ _ k6)
   have jl:=g9.1 _ _ fl kl
   obtain rfl | rfl | rfl | rfl | rfl | rfl | rfl:e=0\/e=1\/e=2\/e=3\/e=4\/e=5\/e=6:=by omega
   ·exact (ixl jl rfl (q _ _ g10 (DT.lst j1 (DT.three kf.dg kf.dt kf.dm))))
   ·exact (ixl jl rfl (q _ _ g10 (DT.tup j2 (DT.two kf.dg kf.dt))))
   ·exact (ixl jl rfl (q _ _ g10 (DT.tup j4 (DT.three (DT.tup j3 (DT.bools 1)) kf.dt kf.dm))))
   ·exact (ixl jl rfl (q _ _ g10 (DT.tup j6 (DT.three kf.dg kf.dt (DT.tup j5 kf.dr)))))
   ·exact (ixl jl rfl (q _ _ g10 (DT.non 3)))
   ·exact (ixl jl rfl (q _ _ g10 (DT.int 3 3)))
   ·exact (ixl jl rfl (q _ _ g10 (DT.flat (t := "str") rfl (by decide) (by decide) 3)))
  clear h
  refine (zr rfl ⟨rfl,zr rfl (iteD (λh=>?_) λh=>?_)⟩)
  ·clear h
   obtain ⟨r0,hr0⟩:∃ r,ms[0]?=some r:=⟨_,zG (by omega)⟩
   refine (zr rfl (zr rfl (zr rfl (zr rfl (zr rfl ⟨lm,zr rfl ⟨SqL.of (kc g).m,λa1 h1=>?_⟩⟩)))))
   have s1:=yy (o:=HO.lst (cutV (ms.map λa=>V.ref a.1) none (some (-1)))) h1
   have f1:=g.2.ne h1
   have k1:upd H1 a1 (HO.lst (cutV (ms.map λa=>V.ref a.1) none (some (-1)))) a1=some (.lst (cutV (ms.map λa=>V.ref a.1) none (some (-1)))):=yx
   generalize upd H1 a1 _=H2 at s1 k1 ⊢
   have g2:=g.same s1
   refine (zr rfl (zr rfl (ixl ((kc g2).m) (xb (j:=0) (v:=V.ref r0.1) (by rw [zJ,hr0];rfl)) ⟨by show 1<=sizeLine;omega,λa2 h2=>?_⟩)))
   have s2:=yy (o:=HO.lst [V.ref r0.1]) h2
   have k2:upd H2 a2 (HO.lst [V.ref r0.1]) a2=some (.lst [V.ref r0.1]):=yx
   generalize upd H2 a2 _=H3 at s2 k2 ⊢
   have g3:=g2.same s2
   refine ⟨lm,a2,zr2 rfl rfl ⟨(kc g3).m,k2,by rw [zA];show ms.length + 1<=_;omega,λa3 h3=>?_⟩⟩
   have s3:=yy (o:=HO.lst ((ms.map λa=>V.ref a.1)++[V.ref r0.1])) h3
   have f3:=g3.2.ne h3
   have k3:upd H3 a3 (HO.lst ((ms.map λa=>V.ref a.1)++[V.ref r0.1])) a3=some (.lst ((ms.map λa=>V.ref a.1)++[V.ref r0.1])):=yx
   generalize upd H3 a3 _=H4 at s3 k3 ⊢
   refine ⟨by show 2<=sizeLine;omega,λl hl=>?_⟩
   have g4:=g3.same s3
   have fl:=g4.2.ne hl
   have s4:=yy (o:=HO.lst [V.ref a1,V.ref a3]) hl
   have kl:upd H4 l (HO.lst [V.ref a1,V.ref a3]) l=some (.lst [V.ref a1,V.ref a3]):=yx
   generalize upd H4 l _=H5 at s4 kl ⊢
   have g5:=g4.same s4
   refine (zr rfl ⟨p,zr rfl ⟨by decide,by decide,g5.2,λe H9 e0 e1 g9=>?_⟩⟩)
   have g10:=g5.trans g9
   have kf:=kc g10
   have j1:=g9.1 _ _ f1 (s4 _ _ (s3 _ _ (s2 _ _ k1)))
   have j3:=g9.1 _ _ f3 (s4 _ _ k3)
   have jl:=g9.1 _ _ fl kl
   have fin:∀ v,DT H9 2 v->∀ t,H9 t=none->Q (.ref t) (upd H9 t (.tup [V.ref lg,V.ref lt,v])):=λv dv t ht=>q _ _ (g10.new ht) (DT.tup yx (DT.three (kf.dg.same (yy ht)) (kf.dt.same (yy ht)) (dv.same (yy ht))))
   obtain rfl | rfl:e=0\/e=1:=by omega
   ·exact (ixl jl rfl ⟨by show 3<=sizeLine;omega,fin _ (DT.lst j1 λx hx=>kf.dr x (cut_mem38 hx))⟩)
   ·exact ⟨l,_,_,_,rfl,rfl,SqL.of jl,rfl,by show 3<=sizeLine;omega,fin _ (DT.lst j3 λx hx=>by
     rcases zX.mp hx with hx | hx
     ·exact kf.dr x hx
     ·cases zM.mp hx;exact kf.dr _ (List.mem_map_of_mem (zB hr0)))⟩
  clear h
  refine (zr rfl ⟨rfl,zr rfl (iteD (λh=>?_) λh=>?_)⟩)
  ·clear h
   refine (zr rfl (zr rfl (zr rfl ⟨lg,zr rfl ⟨SqL.of (kc g).g,λa1 h1=>?_⟩⟩)))
   have s1:=yy (o:=HO.lst (cutV (gs.map V.bl) none (some (-1)))) h1
   have k1:upd H1 a1 (HO.lst (cutV (gs.map V.bl) none (some (-1)))) a1=some (.lst (cutV (gs.map V.bl) none (some (-1)))):=yx
   generalize upd H1 a1 _=H2 at s1 k1 ⊢
   have g2:=g.same s1
   refine (zr rfl ⟨by show 1<=sizeLine;omega,λa2 h2=>?_⟩)
   have s2:=yy (o:=HO.lst [V.bl true]) h2
   have k2:upd H2 a2 (HO.lst [V.bl true]) a2=some (.lst [V.bl true]):=yx
   generalize upd H2 a2 _=H3 at s2 k2 ⊢
   have g3:=g2.same s2
   refine ⟨lt,a2,zr2 rfl rfl ⟨(kc g3).t,k2,by rw [zA];show ts.length + 1<=_;omega,λa3 h3=>?_⟩⟩
   have s3:=yy (o:=HO.lst (ts.map V.bl++[V.bl true])) h3
   have k3:upd H3 a3 (HO.lst (ts.map V.bl++[V.bl true])) a3=some (.lst (ts.map V.bl++[V.bl true])):=yx
   generalize upd H3 a3 _=H4 at s3 k3 ⊢
   have g4:=g3.same s3
   refine (zr rfl ⟨by show 3<=sizeLine;omega,λt ht=>q _ _ (g4.new ht) (DT.tup yx (DT.three ((DT.lst (s3 _ _ (s2 _ _ k1)) λx hx=>DT.bools 1 x (cut_mem38 hx)).same (yy ht)) ((DT.lst k3 λx hx=>?_).same (yy ht)) ((kc g4).dm.same (yy ht))))⟩)
   rcases zX.mp hx with hx | hx
   ·exact DT.bools 1 x hx
   ·cases zM.mp hx;exact DT.bl 1 true
  clear h
  refine (zr rfl ⟨rfl,zr rfl ?_⟩)
  refine iteA (fun σ H'=>σ=[some (.ref p),some (.ref c),some (.ref lg),some (.ref lt),some (.ref lm),some (.int d),none,none,none,none,none]/\Go p H H') ?_ (λc1 k1=>?_) (λc1=>⟨rfl,g⟩)
  rotate_left
  ·refine (zr rfl ⟨za _,λl0 hl0=>⟨lg,l0,zr rfl ⟨rfl,SqL.of (yy hl0 _ _ (kc g).g),SqL.of yx,zr rfl ?_⟩⟩⟩)
   have g2:=g.new (o:=HO.lst []) hl0
   generalize upd H1 l0 (HO.lst [])=H2 at g2 ⊢
   refine iteN _ k1 (λc2 _=>?_) (λc2=>⟨rfl,g2⟩)
   have lgs:1<=gs.length:=by
    cases gs with
    | nil=>cases c2
    | cons _ _=>simp
   refine (zr rfl (zr rfl ⟨lg,zr rfl ⟨.inl (SqL.of (kc g2).g),p,zr rfl ⟨by rw [zA];omega,by rw [zA];omega,g2.2,λd3 H3 d30 d31 g3=>?_⟩⟩⟩))
   rw [zA] at d31
   obtain ⟨z,rfl⟩:=zh d30
   have hz:z < gs.length:=by omega
   have g4:=g2.trans g3
   have az:atI (gs.map V.bl) (z:Int)=some (V.bl gs[z]):=xb (by simp [hz])
   refine (zr rfl (zr rfl (ixl ((kc g4).g) az (zr rfl ?_))))
   refine (zr rfl (zr rfl (ixl ((kc g4).g) az (.inr (zr rfl ?_)))))
   refine ⟨za _,λl1 hl1=>?_⟩
   have g5:=g4.new (o:=HO.lst []) hl1
   have f1:=g4.2.ne hl1
   have k5:upd H3 l1 (HO.lst []) l1=some (.lst []):=yx
   generalize upd H3 l1 (HO.lst [])=H5 at g5 k5 ⊢
   refine ⟨by show 4<=sizeLine;omega,λl2 hl2=>?_⟩
   have f2:=g5.2.ne hl2
   have s6:=yy (o:=HO.lst [V.bl (!gs[z]),V.int (if gs[z] then 1 else 0),V.non,V.ref l1]) hl2
   have k6:upd H5 l2 (HO.lst [V.bl (!gs[z]),V.int (if gs[z] then 1 else 0),V.non,V.ref l1]) l2=some (.lst [V.bl (!gs[z]),V.int (if gs[z] then 1 else 0),V.non,V.ref l1]):=yx
   generalize upd H5 l2 _=H6 at s6 k6 ⊢
   have g6:=g5.same s6
   refine (zr rfl ⟨p,zr rfl ⟨by decide,by decide,g6.2,λe G0 e0 e1 g9=>?_⟩⟩)
   have gg:=g6.trans g9
   obtain ⟨v,hv,dv⟩:∃ v,atI [V.bl (!gs[z]),V.int (if gs[z] then 1 else 0),V.non,V.ref l1] e=some v/\DT G0 1 v:=by
    obtain rfl | rfl | rfl | rfl:e=0\/e=1\/e=2\/e=3:=by omega
    ·exact (zr rfl (DT.bl 1 _))
    ·exact (zr rfl (DT.int 1 _))
    ·exact (zr rfl (DT.non 1))
    ·exact (zr rfl (DT.lst (g9.1 _ _ f1 (s6 _ _ k5)) nofun))
   refine ⟨l2,_,_,v,rfl,rfl,SqL.of (g9.1 _ _ f2 k6),hv,?_⟩
   refine (zr rfl (zr rfl (zr rfl ⟨lg,zr rfl ⟨SqL.of (kc gg).g,λb1 y1=>?_⟩⟩)))
   have w1:=yy (o:=HO.lst (cutV (gs.map V.bl) none (some (z:Int)))) y1
   have u1:upd G0 b1 (HO.lst (cutV (gs.map V.bl) none (some (z:Int)))) b1=some (.lst (cutV (gs.map V.bl) none (some (z:Int)))):=yx
   generalize upd G0 b1 _=G1 at w1 u1 ⊢
   refine (zr rfl ⟨by show 1<=sizeLine;omega,λb2 y2=>?_⟩)
   have w2:=yy (o:=HO.lst [v]) y2
   have u2:upd G1 b2 (HO.lst [v]) b2=some (.lst [v]):=yx
   generalize upd G1 b2 _=G2 at w2 u2 ⊢
   refine ⟨b1,b2,zr2 rfl rfl ⟨w2 _ _ u1,u2,by have:=xo (gs.map V.bl) none (some (z:Int));rw [zA] at this;show _ + 1<=_;omega,λb3 y3=>?_⟩⟩
   have w3:=yy (o:=HO.lst (cutV (gs.map V.bl) none (some (z:Int))++[v])) y3
   have u3:upd G2 b3 (HO.lst (cutV (gs.map V.bl) none (some (z:Int))++[v])) b3=some (.lst (cutV (gs.map V.bl) none (some (z:Int))++[v])):=yx
   generalize upd G2 b3 _=G3 at w3 u3 ⊢
   have w03:=(w1.trans w2).trans w3
   refine (zr rfl (zr rfl (zr2 rfl rfl (zr rfl ⟨lg,zr rfl ⟨SqL.of (w03 _ _ (kc gg).g),λb4 y4=>?_⟩⟩))))
   have w4:=yy (o:=HO.lst (cutV (gs.map V.bl) (some ((z:Int) + 1)) none)) y4
   have u4:upd G3 b4 (HO.lst (cutV (gs.map V.bl) (some ((z:Int) + 1)) none)) b4=some (.lst (cutV (gs.map V.bl) (some ((z:Int) + 1)) none)):=yx
   generalize upd G3 b4 _=G4 at w4 u4 ⊢
   refine ⟨b3,b4,zr2 rfl rfl ⟨w4 _ _ u3,u4,by have h1:=xo (gs.map V.bl) none (some (z:Int));have h2:=xo (gs.map V.bl) (some ((z:Int) + 1)) none;rw [zA] at h1 h2;rw [zK];show _ + 1 + _<=_;omega,λb5 y5=>?_⟩⟩
   have w5:=yy (o:=HO.lst (cutV (gs.map V.bl) none (some (z:Int))++[v]++cutV (gs.map V.bl) (some ((z:Int) + 1)) none)) y5
   have u5:upd G4 b5 (HO.lst (cutV (gs.map V.bl) none (some (z:Int))++[v]++cutV (gs.map V.bl) (some ((z:Int) + 1)) none)) b5=some (.lst (cutV (gs.map V.bl) none (some (z:Int))++[v]++cutV (gs.map V.bl) (some ((z:Int) + 1)) none)):=yx
   generalize upd G4 b5 _=G5 at w5 u5 ⊢
   have w05:=(w03.trans w4).trans w5
   have gg5:=gg.same w05
   refine (zr rfl (zr rfl ⟨by show 3<=sizeLine;omega,λt ht=>?_⟩))
   have sn:=yy (o:=HO.tup [V.ref b5,V.ref lt,V.ref lm]) ht
   exact q _ _ (gg5.same sn) (DT.tup yx (DT.three (DT.lst (sn _ _ u5) (mid_mem38 (DT.bools 1) ((dv.same w05).same sn))) (kc (gg5.same sn)).dt (kc (gg5.same sn)).dm))
  rintro σ H1 ⟨rfl,g⟩
  refine (zr rfl ⟨rfl,zr rfl ?_⟩)
  refine iteA (fun σ H'=>σ=[some (.ref p),some (.ref c),some (.ref lg),some (.ref lt),some (.ref lm),some (.int d),none,none,none,none,none]/\Go p H H') ?_ (λc1 k1=>?_) (λc1=>⟨rfl,g⟩)
  rotate_left
  ·refine (zr rfl ⟨za _,λl0 hl0=>⟨lt,l0,zr rfl ⟨rfl,SqL.of (yy hl0 _ _ (kc g).t),SqL.of yx,zr rfl ?_⟩⟩⟩)
   have g2:=g.new (o:=HO.lst []) hl0
   generalize upd H1 l0 (HO.lst [])=H2 at g2 ⊢
   refine iteN _ k1 (λc2 _=>?_) (λc2=>⟨rfl,g2⟩)
   have lgs:1<=ts.length:=by
    cases ts with
    | nil=>cases c2
    | cons _ _=>simp
   refine (zr rfl (zr rfl ⟨lt,zr rfl ⟨.inl (SqL.of (kc g2).t),p,zr rfl ⟨by rw [zA];omega,by rw [zA];omega,g2.2,λd3 H3 d30 d31 g3=>?_⟩⟩⟩))
   rw [zA] at d31
   obtain ⟨z,rfl⟩:=zh d30
   have hz:z < ts.length:=by omega
   have g4:=g2.trans g3
   have az:atI (ts.map V.bl) (z:Int)=some (V.bl ts[z]):=xb (by simp [hz])
   refine (zr rfl (zr rfl (ixl ((kc g4).t) az (zr rfl ?_))))
   refine (zr rfl (zr rfl (ixl ((kc g4).t) az (.inr (zr rfl ?_)))))
   refine ⟨za _,λl1 hl1=>?_⟩
   have g5:=g4.new (o:=HO.lst []) hl1
   have f1:=g4.2.ne hl1
   have k5:upd H3 l1 (HO.lst []) l1=some (.lst []):=yx
   generalize upd H3 l1 (HO.lst [])=H5 at g5 k5 ⊢
   refine ⟨by show 4<=sizeLine;omega,λl2 hl2=>?_⟩
   have f2:=g5.2.ne hl2
   have s6:=yy (o:=HO.lst [V.bl (!ts[z]),V.int (if ts[z] then 1 else 0),V.non,V.ref l1]) hl2
   have k6:upd H5 l2 (HO.lst [V.bl (!ts[z]),V.int (if ts[z] then 1 else 0),V.non,V.ref l1]) l2=some (.lst [V.bl (!ts[z]),V.int (if ts[z] then 1 else 0),V.non,V.ref l1]):=yx
   generalize upd H5 l2 _=H6 at s6 k6 ⊢
   have g6:=g5.same s6
   refine (zr rfl ⟨p,zr rfl ⟨by decide,by decide,g6.2,λe G0 e0 e1 g9=>?_⟩⟩)
   have gg:=g6.trans g9
   obtain ⟨v,hv,dv⟩:∃ v,atI [V.bl (!ts[z]),V.int (if ts[z] then 1 else 0),V.non,V.ref l1] e=some v/\DT G0 1 v:=by
    obtain rfl | rfl | rfl | rfl:e=0\/e=1\/e=2\/e=3:=by omega
    ·exact (zr rfl (DT.bl 1 _))
    ·exact (zr rfl (DT.int 1 _))
    ·exact (zr rfl (DT.non 1))
    ·exact (zr rfl (DT.lst (g9.1 _ _ f1 (s6 _ _ k5)) nofun))
   refine ⟨l2,_,_,v,rfl,rfl,SqL.of (g9.1 _ _ f2 k6),hv,?_⟩
   refine (zr rfl ?_)
   refine (zr rfl (zr rfl (zr rfl ⟨lt,zr rfl ⟨SqL.of (kc gg).t,λb1 y1=>?_⟩⟩)))
   have w1:=yy (o:=HO.lst (cutV (ts.map V.bl) none (some (z:Int)))) y1
   have u1:upd G0 b1 (HO.lst (cutV (ts.map V.bl) none (some (z:Int)))) b1=some (.lst (cutV (ts.map V.bl) none (some (z:Int)))):=yx
   generalize upd G0 b1 _=G1 at w1 u1 ⊢
   refine (zr rfl ⟨by show 1<=sizeLine;omega,λb2 y2=>?_⟩)
   have w2:=yy (o:=HO.lst [v]) y2
   have u2:upd G1 b2 (HO.lst [v]) b2=some (.lst [v]):=yx
   generalize upd G1 b2 _=G2 at w2 u2 ⊢
   refine ⟨b1,b2,zr2 rfl rfl ⟨w2 _ _ u1,u2,by have:=xo (ts.map V.bl) none (some (z:Int));rw [zA] at this;show _ + 1<=_;omega,λb3 y3=>?_⟩⟩
   have w3:=yy (o:=HO.lst (cutV (ts.map V.bl) none (some (z:Int))++[v])) y3
   have u3:upd G2 b3 (HO.lst (cutV (ts.map V.bl) none (some (z:Int))++[v])) b3=some (.lst (cutV (ts.map V.bl) none (some (z:Int))++[v])):=yx
   generalize upd G2 b3 _=G3 at w3 u3 ⊢
   have w03:=(w1.trans w2).trans w3
   refine (zr rfl (zr rfl (zr2 rfl rfl (zr rfl ⟨lt,zr rfl ⟨SqL.of (w03 _ _ (kc gg).t),λb4 y4=>?_⟩⟩))))
   have w4:=yy (o:=HO.lst (cutV (ts.map V.bl) (some ((z:Int) + 1)) none)) y4
   have u4:upd G3 b4 (HO.lst (cutV (ts.map V.bl) (some ((z:Int) + 1)) none)) b4=some (.lst (cutV (ts.map V.bl) (some ((z:Int) + 1)) none)):=yx
   generalize upd G3 b4 _=G4 at w4 u4 ⊢
   refine ⟨b3,b4,zr2 rfl rfl ⟨w4 _ _ u3,u4,by have h1:=xo (ts.map V.bl) none (some (z:Int));have h2:=xo (ts.map V.bl) (some ((z:Int) + 1)) none;rw [zA] at h1 h2;rw [zK];show _ + 1 + _<=_;omega,λb5 y5=>?_⟩⟩
   have w5:=yy (o:=HO.lst (cutV (ts.map V.bl) none (some (z:Int))++[v]++cutV (ts.map V.bl) (some ((z:Int) + 1)) none)) y5
   have u5:upd G4 b5 (HO.lst (cutV (ts.map V.bl) none (some (z:Int))++[v]++cutV (ts.map V.bl) (some ((z:Int) + 1)) none)) b5=some (.lst (cutV (ts.map V.bl) none (some (z:Int))++[v]++cutV (ts.map V.bl) (some ((z:Int) + 1)) none)):=yx
   generalize upd G4 b5 _=G5 at w5 u5 ⊢
   have w05:=(w03.trans w4).trans w5
   have gg5:=gg.same w05
   refine (zr rfl ⟨by show 3<=sizeLine;omega,λt ht=>?_⟩)
   have sn:=yy (o:=HO.tup [V.ref lg,V.ref b5,V.ref lm]) ht
   exact q _ _ (gg5.same sn) (DT.tup yx (DT.three (kc (gg5.same sn)).dg (DT.lst (sn _ _ u5) (mid_mem38 (DT.bools 1) ((dv.same w05).same sn))) (kc (gg5.same sn)).dm))
  rintro σ H1 ⟨rfl,g⟩
  refine (zr rfl (zr rfl ⟨lm,zr rfl ⟨.inl (SqL.of (kc g).m),p,zr rfl ⟨by rw [zA];omega,by rw [zA];omega,g.2,λd3 H3 d30 d31 g3=>?_⟩⟩⟩))
  rw [zA] at d31
  obtain ⟨z,rfl⟩:=zh d30
  have g4:=g.trans g3
  obtain ⟨r,hr0⟩:∃ r,ms[z]?=some r:=⟨_,zG (by omega)⟩
  have mr:=zB hr0
  have lr:=(hrw r mr).1
  have az:atI (ms.map λa=>V.ref a.1) (z:Int)=some (V.ref r.1):=xb (by rw [zJ,hr0];rfl)
  refine (zr rfl (zr rfl (ixl ((kc g4).m) az ⟨r.1,zr rfl ⟨.inl (SqL.of ((kc g4).rows r mr)),λr0 hr9=>?_⟩⟩)))
  have f0:=g4.2.ne hr9
  have n0:H r0=none:=g4.free hr9 f0
  have g5:=g4.new (o:=HO.lst (r.2.map V.int)) hr9
  have k5:upd H3 r0 (HO.lst (r.2.map V.int)) r0=some (.lst (r.2.map V.int)):=yx
  generalize upd H3 r0 _=H5 at g5 k5 ⊢
  refine (zr rfl (zr rfl ⟨r0,zr rfl ⟨.inl (SqL.of k5),p,zr rfl ⟨by rw [zA];omega,by rw [zA];omega,g5.2,λd4 H6 d40 d41 g6=>?_⟩⟩⟩))
  rw [zA] at d41
  obtain ⟨y,rfl⟩:=zh d40
  have hy:y < r.2.length:=by omega
  have g7:=g5.trans g6
  have k7:=g6.1 _ _ f0 k5
  have T0:∃ x,x=r.2[y]:=⟨_,rfl⟩
  obtain ⟨x,hx⟩:=T0
  refine (zr rfl (zr rfl ⟨r0,_,_,V.int x,rfl,rfl,SqL.of k7,xb (by rw [hx];simp [hy]),?_⟩))
  refine (zr rfl ?_)
  refine ⟨by show 1<=sizeLine;omega,λl1 hl1=>?_⟩
  have s8:=yy (o:=HO.lst [V.int 2]) hl1
  have f1:=g7.2.ne hl1
  have k8:upd H6 l1 (HO.lst [V.int 2]) l1=some (.lst [V.int 2]):=yx
  generalize upd H6 l1 _=H8 at s8 k8 ⊢
  have g8:=g7.same s8
  intro l2 hl2
  have s9:=yy (o:=HO.dK []) hl2
  have f2:=g8.2.ne hl2
  have k9:upd H8 l2 (HO.dK []) l2=some (.dK []):=yx
  generalize upd H8 l2 _=H9 at s9 k9 ⊢
  have g9:=g8.same s9
  refine (zr rfl (zr2 rfl rfl (zr rfl (zr2 rfl rfl (zr rfl (zr2 rfl rfl ⟨by show 18<=sizeLine;omega,λl3 hl3=>?_⟩))))))
  have f3:=g9.2.ne hl3
  have s10:=yy (o:=HO.lst [V.int 0,V.int 1,V.int 2,V.int 3,V.int 0,V.int 1,V.int 2,V.int 3,V.int (-1),V.int 4,V.bl true,V.non,V.str (Str.ofString "2"),V.ref l1,V.ref l2,V.int (x + 4),V.int (x - 4),V.int (x + 8)]) hl3
  have k10:upd H9 l3 (HO.lst [V.int 0,V.int 1,V.int 2,V.int 3,V.int 0,V.int 1,V.int 2,V.int 3,V.int (-1),V.int 4,V.bl true,V.non,V.str (Str.ofString "2"),V.ref l1,V.ref l2,V.int (x + 4),V.int (x - 4),V.int (x + 8)]) l3=some (.lst [V.int 0,V.int 1,V.int 2,V.int 3,V.int 0,V.int 1,V.int 2,V.int 3,V.int (-1),V.int 4,V.bl true,V.non,V.str (Str.ofString "2"),V.ref l1,V.ref l2,V.int (x + 4),V.int (x - 4),V.int (x + 8)]):=yx
  generalize upd H9 l3 _=H10 at s10 k10 ⊢
  have g10:=g9.same s10
  refine (zr rfl ⟨p,zr rfl ⟨by decide,by decide,g10.2,λe H11 e0 e1 g11=>?_⟩⟩)
  have g12:=g10.trans g11
  have j1:=g11.1 _ _ f1 (s10 _ _ (s9 _ _ k8))
  have j2:=g11.1 _ _ f2 (s10 _ _ k9)
  have j3:=g11.1 _ _ f3 k10
  have j0:=g11.1 _ _ f0 (s10 _ _ (s9 _ _ (s8 _ _ k7)))
  obtain ⟨v,hv,dv⟩:∃ v,atI [V.int 0,V.int 1,V.int 2,V.int 3,V.int 0,V.int 1,V.int 2,V.int 3,V.int (-1),V.int 4,V.bl true,V.non,V.str (Str.ofString "2"),V.ref l1,V.ref l2,V.int (x + 4),V.int (x - 4),V.int (x + 8)] e=some v/\DT H11 0 v:=by
   obtain rfl | rfl | rfl | rfl | rfl | rfl | rfl | rfl | rfl | rfl | rfl | rfl | rfl | rfl | rfl | rfl | rfl | rfl:e=0\/e=1\/e=2\/e=3\/e=4\/e=5\/e=6\/e=7\/e=8\/e=9\/e=10\/e=11\/e=12\/e=13\/e=14\/e=15\/e=16\/e=17:=by omega
   ·exact (zr rfl (DT.int 0 _))
   ·exact (zr rfl (DT.int 0 _))
   ·exact (zr rfl (DT.int 0 _))
   ·exact (zr rfl (DT.int 0 _))
   ·exact (zr rfl (DT.int 0 _))
   ·exact (zr rfl (DT.int 0 _))
   ·exact (zr rfl (DT.int 0 _))
   ·exact (zr rfl (DT.int 0 _))
   ·exact (zr rfl (DT.int 0 _))
   ·exact (zr rfl (DT.int 0 _))
   ·exact (zr rfl (DT.bl 0 true))
   ·exact (zr rfl (DT.non 0))
   ·exact (zr rfl (DT.flat (t := "str") rfl (by decide) (by decide) 0))
   ·exact (zr rfl ⟨_,wE j1⟩)
   ·exact (zr rfl ⟨_,tyS_dK j2⟩)
   ·exact (zr rfl (DT.int 0 _))
   ·exact (zr rfl (DT.int 0 _))
   ·exact (zr rfl (DT.int 0 _))
  refine ⟨l3,_,_,v,rfl,rfl,SqL.of j3,hv,zr rfl (zr rfl ⟨r0,_,_,y,rfl,rfl,j0,ixN_nat (by rw [zA];exact hy),?_⟩)⟩
  have g13:=g12.put' (o:=HO.lst ((r.2.map V.int).set y v)) n0 f0
  have dv':∃ t,tyS (upd H11 r0 (HO.lst ((r.2.map V.int).set y v))) v=some t:=dt_put38 j0 dv
  have j4:upd H11 r0 (HO.lst ((r.2.map V.int).set y v)) r0=some (.lst ((r.2.map V.int).set y v)):=yx
  generalize upd H11 r0 _=H12 at g13 dv' j4 ⊢
  have de:∀ x∈(r.2.map V.int).set y v,DT H12 0 x:=λx hx=>by
   rcases List.mem_or_eq_of_mem_set hx with hx | rfl
   ·exact DT.ints 0 x hx
   ·exact dv'
  refine (zr rfl ⟨p,zr rfl ⟨by decide,by decide,g13.2,λe2 H13 e20 e21 g14=>⟨rfl,zr rfl ?_⟩⟩⟩)
  have g15:=g13.trans g14
  have j5:=g14.1 _ _ f0 j4
  have de5:∀ x∈(r.2.map V.int).set y v,DT H13 0 x:=λx hx=>dt_go38 g14 g13.2 (de x hx)
  refine iteN (fun σ H'=>∃ v8,σ=[some (.ref p),some (.ref c),some (.ref lg),some (.ref lt),some (.ref lm),some (.int d),some (.int (z:Int)),none,some v8,some (.int (y:Int)),some (.int x)]/\DT H' 1 v8/\Go p H H') ?_ (λc3 k3=>?_) (λc3=>(zr rfl ⟨DT.lst j5 de5,g15⟩))
  rotate_left
  ·refine (zr rfl ⟨r0,zr rfl (.inl ⟨SqL.of j5,λt1 h1=>?_⟩)⟩)
   have s16:=yy (o:=HO.tup ((r.2.map V.int).set y v)) h1
   have k16:upd H13 t1 (HO.tup ((r.2.map V.int).set y v)) t1=some (.tup ((r.2.map V.int).set y v)):=yx
   generalize upd H13 t1 _=H16 at s16 k16 ⊢
   have g16:=g15.same s16
   refine (zr rfl (zr rfl ⟨r0,zr rfl ⟨SqL.of (s16 _ _ j5),λt2 h2=>?_⟩⟩))
   have s17:=yy (o:=HO.lst (cutV ((r.2.map V.int).set y v) (some 1) none)) h2
   have f17:=g16.2.ne h2
   have k17:upd H16 t2 (HO.lst (cutV ((r.2.map V.int).set y v) (some 1) none)) t2=some (.lst (cutV ((r.2.map V.int).set y v) (some 1) none)):=yx
   generalize upd H16 t2 _=H17 at s17 k17 ⊢
   have g17:=g16.same s17
   refine ⟨by show 3<=sizeLine;omega,λl4 hl4=>?_⟩
   have f18:=g17.2.ne hl4
   have s18:=yy (o:=HO.lst [V.ref t1,V.ref t2,V.non]) hl4
   have k18:upd H17 l4 (HO.lst [V.ref t1,V.ref t2,V.non]) l4=some (.lst [V.ref t1,V.ref t2,V.non]):=yx
   generalize upd H17 l4 _=H18 at s18 k18 ⊢
   have g18:=g17.same s18
   refine (zr rfl ⟨p,zr rfl ⟨by decide,by decide,g18.2,λe3 H19 e30 e31 g19=>?_⟩⟩)
   have g20:=g18.trans g19
   have d19:∀ x∈(r.2.map V.int).set y v,DT H19 0 x:=λx hx=>dt_go38 g19 g18.2 ((((de5 x hx).same s16).same s17).same s18)
   obtain ⟨v8,hv8,dv8⟩:∃ v8,atI [V.ref t1,V.ref t2,V.non] e3=some v8/\DT H19 1 v8:=by
    obtain rfl | rfl | rfl:e3=0\/e3=1\/e3=2:=by omega
    ·exact (zr rfl (DT.tup (g19.tups g18.2 _ _ (s18 _ _ (s17 _ _ k16))) d19))
    ·exact (zr rfl (DT.lst (g19.1 _ _ f17 (s18 _ _ k17)) λx hx=>d19 x (cut_mem38 hx)))
    ·exact (zr rfl (DT.non 1))
   exact ⟨l4,_,_,v8,rfl,rfl,SqL.of (g19.1 _ _ f18 k18),hv8,k3 _ _ (zr rfl ⟨dv8,g20⟩)⟩
  rintro σ G0 ⟨v,rfl,dv,gg⟩
  refine (zr rfl (zr rfl ?_))
  refine (zr rfl (zr rfl (zr rfl ⟨lm,zr rfl ⟨SqL.of (kc gg).m,λb1 y1=>?_⟩⟩)))
  have w1:=yy (o:=HO.lst (cutV (ms.map λa=>V.ref a.1) none (some (z:Int)))) y1
  have u1:upd G0 b1 (HO.lst (cutV (ms.map λa=>V.ref a.1) none (some (z:Int)))) b1=some (.lst (cutV (ms.map λa=>V.ref a.1) none (some (z:Int)))):=yx
  generalize upd G0 b1 _=G1 at w1 u1 ⊢
  refine (zr rfl ⟨by show 1<=sizeLine;omega,λb2 y2=>?_⟩)
  have w2:=yy (o:=HO.lst [v]) y2
  have u2:upd G1 b2 (HO.lst [v]) b2=some (.lst [v]):=yx
  generalize upd G1 b2 _=G2 at w2 u2 ⊢
  refine ⟨b1,b2,zr2 rfl rfl ⟨w2 _ _ u1,u2,by have:=xo (ms.map λa=>V.ref a.1) none (some (z:Int));rw [zA] at this;show _ + 1<=_;omega,λb3 y3=>?_⟩⟩
  have w3:=yy (o:=HO.lst (cutV (ms.map λa=>V.ref a.1) none (some (z:Int))++[v])) y3
  have u3:upd G2 b3 (HO.lst (cutV (ms.map λa=>V.ref a.1) none (some (z:Int))++[v])) b3=some (.lst (cutV (ms.map λa=>V.ref a.1) none (some (z:Int))++[v])):=yx
  generalize upd G2 b3 _=G3 at w3 u3 ⊢
  have w03:=(w1.trans w2).trans w3
  refine (zr rfl (zr rfl (zr2 rfl rfl (zr rfl ⟨lm,zr rfl ⟨SqL.of (w03 _ _ (kc gg).m),λb4 y4=>?_⟩⟩))))
  have w4:=yy (o:=HO.lst (cutV (ms.map λa=>V.ref a.1) (some ((z:Int) + 1)) none)) y4
  have u4:upd G3 b4 (HO.lst (cutV (ms.map λa=>V.ref a.1) (some ((z:Int) + 1)) none)) b4=some (.lst (cutV (ms.map λa=>V.ref a.1) (some ((z:Int) + 1)) none)):=yx
  generalize upd G3 b4 _=G4 at w4 u4 ⊢
  refine ⟨b3,b4,zr2 rfl rfl ⟨w4 _ _ u3,u4,by have h1:=xo (ms.map λa=>V.ref a.1) none (some (z:Int));have h2:=xo (ms.map λa=>V.ref a.1) (some ((z:Int) + 1)) none;rw [zA] at h1 h2;rw [zK];show _ + 1 + _<=_;omega,λb5 y5=>?_⟩⟩
  have w5:=yy (o:=HO.lst (cutV (ms.map λa=>V.ref a.1) none (some (z:Int))++[v]++cutV (ms.map λa=>V.ref a.1) (some ((z:Int) + 1)) none)) y5
  have u5:upd G4 b5 (HO.lst (cutV (ms.map λa=>V.ref a.1) none (some (z:Int))++[v]++cutV (ms.map λa=>V.ref a.1) (some ((z:Int) + 1)) none)) b5=some (.lst (cutV (ms.map λa=>V.ref a.1) none (some (z:Int))++[v]++cutV (ms.map λa=>V.ref a.1) (some ((z:Int) + 1)) none)):=yx
  generalize upd G4 b5 _=G5 at w5 u5 ⊢
  have w05:=(w03.trans w4).trans w5
  have gg5:=gg.same w05
  refine ⟨by show 3<=sizeLine;omega,λt ht=>?_⟩
  have sn:=yy (o:=HO.tup [V.ref lg,V.ref lt,V.ref b5]) ht
  have kf:=kc (gg5.same sn)
  exact q _ _ (gg5.same sn) (DT.tup yx (DT.three kf.dg kf.dt (DT.lst (sn _ _ u5) (mid_mem38 kf.dr ((dv.same w05).same sn)))))
theorem Dl:FnScope ["_law_book_here", "_law_loads", "_law_wants", "_law_thing", "_law_due", "_law_told"] ["_law_book_here", "_law_loads", "_law_wants", "_law_thing"] (defScope Cz):=⟨rfl,rfl,rfl,by decide +kernel,rfl,by decide +kernel,by decide +kernel⟩
theorem Fu (T:Tx K mg a):FnOk P w K mg base CX0 6 a.AQ a.Bv ["_law_book_here", "_law_loads", "_law_wants", "_law_thing"] (spAlike38):=by
 have BL:=Co P w base T
 have Da:=DG P w base T
 have EC:=DJ P w base T
 refine T.Ba.ok Dl (λvs H Q E h=>?_) (λcdv A outer s H vs Q E hr h=>?_)
 ·obtain ⟨_,_,_,_,_,_,_,_,_,_,rfl,_⟩:=h;rfl
 ·have nd:=Dl.nd
  have hu:=hr.units
  obtain ⟨b,ll,lw,v,rooms,tr,tm,ps,ls,ws,rfl,hb,gd,r12,hl,hw,l100,w100,lr,wr,dt,q⟩:=h
  refine ⟨_,(@xD _ _ _ (@xQ _ _ _ _ _ _ (xL (i:=4) nd rfl rfl (xC EC (hr.mono (by decide)) rfl T.Ea T.Eg T.Em .nil pass0 (@yu _ _ _ (@yw _ _ _ _ _ (pv 0) (@yw _ _ _ _ _ (pv 1) (@yw _ _ _ _ _ (pv 2) (@yw _ _ _ _ _ (pv 3) xB rfl) rfl) rfl) rfl)))) (@xQ _ _ _ _ _ _ (xL (i:=5) nd rfl rfl (xC Da (hr.mono (by decide)) rfl T.EI T.EJ T.EK .nil pass0 (@yu _ _ _ (@yw _ _ _ _ _ (pv 0) (@yw _ _ _ _ _ (xr (wG rfl) (by rfl) T.b_list zb (@yu _ _ _ (@yw _ _ _ _ _ (pv 1) xB rfl))) (@yw _ _ _ _ _ (xr (wG rfl) (by rfl) T.b_list zb (@yu _ _ _ (@yw _ _ _ _ _ (pv 2) xB rfl))) (@yw _ _ _ _ _ (pv 3) xB rfl) rfl) rfl) rfl)))) (@xQ _ _ _ _ _ _ (@xW _ _ _ _ _ _ _ _ (@PW.pt _ _ _ (@pw_or _ _ _ _ _ _ _ (pt_cmp (@pc_isN _ _ _ _ _ (pv 4))) (@wf _ _ _ _ (pt_cmp (@pc_isN _ _ _ _ _ (pv 5)))))) (@xD _ _ _ (@xS _ _ _ (@xN _ _ _ _ (@wg _ _ _ _ _ _ _ (pe_cmp (@pc_isN _ _ _ _ _ (pv 4))) (@pe_one _ _ _ _ _ (pe_cmp (@pc_isN _ _ _ _ _ (pv 5)))))))) xO) (@xS _ _ _ (@xN _ _ _ _ (@wg _ _ _ _ _ _ _ (xC BL (hr.mono (by decide)) rfl T.CB T.CC T.CD .nil pass0 (@yu _ _ _ (@yw _ _ _ _ _ (pv 5) xB rfl))) (@pe_one _ _ _ _ _ (@wD _ _ _ _ _ _ _ _ xw (pv 5) (pv 4) (nomark _)))))))))),?_⟩
  have line:=line9
  have m60:=gd.few
  rw [zA] at m60
  refine (zr rfl (zr rfl (zr rfl (zr rfl (ex10 b ll lw v rooms tr tm ps ls ws ⟨rfl,hb,gd,r12,hl,hw,l100,w100,lr,wr,dt,λef H1 s1=>?_,λc lg lt lm gs ts ms ev kc co ok hm H1 s1=>?_⟩)))))
  ·have c1:=hl.same s1
   refine (zr rfl (zr rfl ⟨ll,zr rfl ⟨.inl (SqL.of c1.l),λl1 h1=>?_⟩⟩))
   have s2:=s1.trans (yy (o:=HO.lst (ls.map λa=>V.ref a.1)) h1)
   have k1:upd H1 l1 (HO.lst (ls.map λa=>V.ref a.1)) l1=some (.lst (ls.map λa=>V.ref a.1)):=yx
   generalize upd H1 l1 _=H2 at s2 k1 ⊢
   refine (zr rfl ⟨lw,zr rfl ⟨.inl (SqL.of (hw.same s2).l),λl2 h2=>?_⟩⟩)
   have sn:=yy (o:=HO.lst (ws.map λa=>V.ref a.1)) h2
   have k2:upd H2 l2 (HO.lst (ws.map λa=>V.ref a.1)) l2=some (.lst (ws.map λa=>V.ref a.1)):=yx
   have s3:=s2.trans sn
   have k1:=sn _ _ k1
   generalize upd H2 l2 _=H3 at s3 k1 k2 ⊢
   refine (zr rfl (ex10 b l1 l2 v rooms tr tm ps ls ws ⟨rfl,hb.same s3,gd,r12,⟨k1,(hl.same s3).each⟩,⟨k2,(hw.same s3).each⟩,l100,w100,lr,wr,dt.same s3,λef' H4 s4=>?_,λc' lg' lt' lm' gs' ts' ms' ev' kc' co' ok' hm' H4 s4=>?_⟩))
   ·have s4:=s3.trans s4
    exact (zr rfl (zr rfl (iteB1 rfl (iteB1 rfl (zr rfl (zr rfl (iteB1 rfl (zr rfl (q _ s4)))))))))
   ·exfalso
    subst ev'
    have z:=form_of38 (n:=rooms.length) ⟨kc',co'.g,co'.t,co'.m,co'.rows⟩ λa ha=>⟨ok'.rows a ha,hm' a ha⟩
    rw [ok'.lg,ok'.lt,ok'.lm,form_same38 s3 dt,ef] at z
    cases z
  subst ev
  have ef:=form_of38 (n:=rooms.length) ⟨kc,co.g,co.t,co.m,co.rows⟩ λa ha=>⟨ok.rows a ha,hm a ha⟩
  rw [ok.lg,ok.lt,ok.lm] at ef
  have c1:=hl.same s1
  refine (zr rfl (zr rfl ⟨ll,zr rfl ⟨.inl (SqL.of c1.l),λl1 h1=>?_⟩⟩))
  have s2:=s1.trans (yy (o:=HO.lst (ls.map λa=>V.ref a.1)) h1)
  have k1:upd H1 l1 (HO.lst (ls.map λa=>V.ref a.1)) l1=some (.lst (ls.map λa=>V.ref a.1)):=yx
  generalize upd H1 l1 _=H2 at s2 k1 ⊢
  refine (zr rfl ⟨lw,zr rfl ⟨.inl (SqL.of (hw.same s2).l),λl2 h2=>?_⟩⟩)
  have sn:=yy (o:=HO.lst (ws.map λa=>V.ref a.1)) h2
  have k2:upd H2 l2 (HO.lst (ws.map λa=>V.ref a.1)) l2=some (.lst (ws.map λa=>V.ref a.1)):=yx
  have s3:=s2.trans sn
  have k1:=sn _ _ k1
  generalize upd H2 l2 _=H3 at s3 k1 k2 ⊢
  refine (zr rfl (ex10 b l1 l2 (.ref c) rooms tr tm ps ls ws ⟨rfl,hb.same s3,gd,r12,⟨k1,(hl.same s3).each⟩,⟨k2,(hw.same s3).each⟩,l100,w100,lr,wr,dt.same s3,λef' H4 s4=>?_,λc' lg' lt' lm' gs' ts' ms' ev' kc' co' ok' hm' H4 s4=>?_⟩))
  ·rw [form_same38 s3 dt,ef] at ef'
   cases ef'
  injection ev' with ev'
  subst ev'
  have ka:CutAt H c lg lt lm gs ts ms:=⟨kc,co.g,co.t,co.m,co.rows⟩
  obtain ⟨rfl,rfl,rfl⟩:=(ka.same s3).uniq ⟨kc',co'.g,co'.t,co'.m,co'.rows⟩
  have s4:=s3.trans s4
  cases eh:holdsF (ps.map (·.2)) (ls.map (·.2)) (ws.map (·.2)) gs ts (ms.map (·.2)) with
  | false=>
   rw [if_neg (by decide)]
   exact (zr rfl (zr rfl (iteB1 rfl (iteB1 rfl (zr rfl (zr rfl (iteB1 rfl (zr rfl (q _ s4)))))))))
  | true=>
   rw [if_pos rfl]
   refine (zr rfl (zr rfl (iteB0 rfl (zr rfl (zr rfl (iteB0 rfl (zr rfl ⟨_, "int", rfl,rfl,zr rfl (iteB1 rfl (zr rfl (zr rfl ⟨rfl,?_⟩)))⟩)))))))
   rw [decide_eq_true rfl]
   exact q _ s4
theorem Hq:FnScope ["_law_script", "_law_book_here", "_law_head", "_law_loads", "_law_wants", "_law_purse_here", "_law_cut_here", "_law_kept", "_law_turn"] ["_law_script"] (defScope Hl):=⟨rfl,rfl,rfl,by decide +kernel,rfl,by decide +kernel,by decide +kernel⟩
theorem Hu (T:Tx K mg a):FnOk P w K mg base CX0 7 a.DV a.FG ["_law_script"] (spLaw K):=by
 have BM:=Dm P w base T
 have GV:=FN P w base T
 have BL:=Co P w base T
 have Da:=DG P w base T
 have DY:=Fs P w base T
 have Hj:=Gi P w base T
 have GW:=FO P w base T
 have DZ:=Fu P w base T
 refine T.EL.ok Hq (λvs H Q E h=>?_) (λcdv A outer s H vs Q E hr h=>?_)
 ·obtain ⟨_,_,rfl,_⟩:=h;rfl
 ·have nd:=Hq.nd
  have hu:=hr.units
  obtain ⟨sa,ns,rfl,hS,n63,q⟩:=h
  refine ⟨_,(@xD _ _ _ (@xQ _ _ _ _ _ _ (xL (i:=1) nd rfl rfl (xC GV (hr.mono (by decide)) rfl T.Gq T.Gy T.GF .nil pass0 (@yu _ _ _ (@yw _ _ _ _ _ (xC BM (hr.mono (by decide)) rfl T.B6 T.B7 T.B8 .nil pass0 (@yu _ _ _ (@yw _ _ _ _ _ (pv 0) (@yw _ _ _ _ _ yt xB rfl) rfl))) (@yw _ _ _ _ _ yt (@yw _ _ _ _ _ yt xB rfl) rfl) rfl)))) (@xQ _ _ _ _ _ _ (xL (i:=2) nd rfl rfl (xC BM (hr.mono (by decide)) rfl T.B6 T.B7 T.B8 .nil pass0 (@yu _ _ _ (@yw _ _ _ _ _ (pv 0) (@yw _ _ _ _ _ yt xB rfl) rfl)))) (@xQ _ _ _ _ _ _ (xL (i:=3) nd rfl rfl (xC DY (hr.mono (by decide)) rfl T.DM T.DP T.DS .nil pass0 (@yu _ _ _ (@yw _ _ _ _ _ (pv 0) (@yw _ _ _ _ _ (pv 1) (@yw _ _ _ _ _ (pv 2) (@yw _ _ _ _ _ yt (@yw _ _ _ _ _ yt xB rfl) rfl) rfl) rfl) rfl)))) (@xQ _ _ _ _ _ _ (xL (i:=4) nd rfl rfl (xC DY (hr.mono (by decide)) rfl T.DM T.DP T.DS .nil pass0 (@yu _ _ _ (@yw _ _ _ _ _ (pv 0) (@yw _ _ _ _ _ (pv 1) (@yw _ _ _ _ _ (pv 2) (@yw _ _ _ _ _ yt (@yw _ _ _ _ _ yt xB rfl) rfl) rfl) rfl) rfl)))) (@xQ _ _ _ _ _ _ (xL (i:=5) nd rfl rfl (xC BM (hr.mono (by decide)) rfl T.B6 T.B7 T.B8 .nil pass0 (@yu _ _ _ (@yw _ _ _ _ _ (pv 0) (@yw _ _ _ _ _ yt xB rfl) rfl)))) (@xQ _ _ _ _ _ _ (xL (i:=6) nd rfl rfl (xC Hj (hr.mono (by decide)) rfl T.G6 T.G9 T.Hc .nil pass0 (@yu _ _ _ (@yw _ _ _ _ _ (pv 5) (@yw _ _ _ _ _ (pv 1) (@yw _ _ _ _ _ (pv 3) (@yw _ _ _ _ _ (pv 4) xB rfl) rfl) rfl) rfl)))) (@xQ _ _ _ _ _ _ (xL (i:=7) nd rfl rfl (@wJ _ _ _ _ _ (@yu _ _ _ (@yw _ _ _ _ _ (xr (wG rfl) (by rfl) T.b_list zb (@yu _ _ _ (@yw _ _ _ _ _ (@xG _ _ _ _ _ _ _ (xK rfl) (pv 6) yt (λ_ _=>rfl)) xB rfl))) (@yw _ _ _ _ _ (xr (wG rfl) (by rfl) T.b_list zb (@yu _ _ _ (@yw _ _ _ _ _ (@xG _ _ _ _ _ _ _ (xK rfl) (pv 6) yt (λ_ _=>rfl)) xB rfl))) (@yw _ _ _ _ _ (xt (own:=["_law_row_here"]) (caps:=[]) rfl (show CompScope ["_law_row_here"] [] ["_law_script", "_law_book_here", "_law_head", "_law_loads", "_law_wants", "_law_purse_here", "_law_cut_here", "_law_kept", "_law_turn"] (defScope Hl) _ from ⟨rfl,by decide +kernel,by decide +kernel,by decide +kernel,by decide +kernel⟩) (@xp _ _ _ _ _ rfl (@xG _ _ _ _ _ _ _ (xK rfl) (pv 6) yt (λ_ _=>rfl))) (λ_ _ _ _=>(xA (i:=0) (show List.Nodup (["_law_row_here"]:List Str) from by decide +kernel) rfl rfl)) (λ_ _ _ _=>wH) (λ_ _ _ _=>(xr (wG rfl) (by rfl) T.b_list zb (@yu _ _ _ (@yw _ _ _ _ _ (pv 0) xB rfl))))) xB rfl) rfl) rfl)))) (@xQ _ _ _ _ _ _ (@xW _ _ _ _ _ _ _ _ (@xh _ _ _ _ (xV (xC BL (hr.mono (by decide)) rfl T.CB T.CC T.CD .nil pass0 (@yu _ _ _ (@yw _ _ _ _ _ (xC Da (hr.mono (by decide)) rfl T.EI T.EJ T.EK .nil pass0 (@yu _ _ _ (@yw _ _ _ _ _ (pv 1) (@yw _ _ _ _ _ (pv 3) (@yw _ _ _ _ _ (pv 4) (@yw _ _ _ _ _ (pv 6) xB rfl) rfl) rfl) rfl))) xB rfl))))) (@xD _ _ _ (@xS _ _ _ (@xN _ _ _ _ wB))) xO) (@xQ _ _ _ _ _ _ (@xW _ _ _ _ _ _ _ _ (@PW.pt _ _ _ (@pw_or _ _ _ _ _ _ _ (@xh _ _ _ _ (xV (xC DZ (hr.mono (by decide)) rfl T.DN T.DQ T.DU .nil pass0 (@yu _ _ _ (@yw _ _ _ _ _ (pv 1) (@yw _ _ _ _ _ (pv 3) (@yw _ _ _ _ _ (pv 4) (@yw _ _ _ _ _ (pv 6) xB rfl) rfl) rfl) rfl))))) (@wf _ _ _ _ (@xP _ _ _ _ _ _ _ _ (op_neE hu) (pv 6) (pv 7) (nomark _))))) (@xD _ _ _ (@xS _ _ _ (@xN _ _ _ _ wB))) xO) (@xQ _ _ _ _ _ _ (xm PassesOwn.never rfl (xq rfl T.b_range (@yu _ _ _ (@yw _ _ _ _ _ yt xB rfl))) (xA (i:=8) nd rfl rfl) (@xD _ _ _ (@xS _ _ _ (@xW _ _ _ _ _ _ _ _ (@xh _ _ _ _ (xV (xC DZ (hr.mono (by decide)) rfl T.DN T.DQ T.DU .nil pass0 (@yu _ _ _ (@yw _ _ _ _ _ (pv 1) (@yw _ _ _ _ _ (pv 3) (@yw _ _ _ _ _ (pv 4) (@yw _ _ _ _ _ (xC GW (hr.mono (by decide)) rfl T.Gr T.Gz T.GG .nil pass0 (@yu _ _ _ (@yw _ _ _ _ _ (pv 5) (@yw _ _ _ _ _ (pv 6) xB rfl) rfl))) xB rfl) rfl) rfl) rfl))))) (@xD _ _ _ (@xS _ _ _ (@xN _ _ _ _ wB))) xO)))) (@xS _ _ _ (@xN _ _ _ _ (@wD _ _ _ _ _ _ _ _ (op_eqE hu) (pv 6) (pv 7) (nomark _))))))))))))))),?_⟩
  have line:=line9
  refine (zr rfl ⟨sa,ns,0,rfl,hS,by decide,λp H1 hp pu1 s1=>?_⟩)
  refine ⟨p,6,14,rfl,by decide,by decide,by decide,pu1,λb rooms tr tm ps H2 g2 hb r1 r6 rm gd l14=>?_⟩
  have s2:=same_go36 hp s1 g2.1
  have hsa2:SqL K H2 sa (List.map V.int ns):=SqL.but hS hp λc u _ e=>s2 _ _ e
  refine (zr rfl ⟨sa,ns,1,rfl,hsa2,by decide,λhd H3 hhd pu3 s3=>?_⟩)
  have r12:rooms.length<=12:=by omega
  have hb3:=hb.same s3
  refine (zr rfl (zr rfl (zr rfl ⟨sa,b,hd,ex8 0 rooms tr tm ps ns 3 H2 ⟨rfl,hsa2,n63,hhd,s3,by decide,.inl rfl,hb3,gd,r1,r12,pu3,λll ls H4 hll g4 hl4 l8 lb=>?_⟩⟩)))
  have s4:=same_go36 hhd s3 g4.1
  have hb4:=hb.same s4
  have nll:ll≠hd:=pu3.ne hll
  refine (zr rfl (zr rfl (zr rfl ⟨sa,b,hd,ex8 1 rooms tr tm ps ns 4 H2 ⟨rfl,hsa2,n63,hhd,s4,by decide,.inr rfl,hb4,gd,r1,r12,g4.2,λlw ws H5 hlw g5 hw5 w8 wb=>?_⟩⟩)))
  have s5:=same_go36 hhd s3 (g4.1.trans g5.1)
  have hb5:=hb.same s5
  have hl5:SacksAt H5 ll ls:=⟨g5.1 _ _ nll hl4.l,λa ha=>g5.tups g4.2 _ _ (hl4.each a ha)⟩
  have hsa5:SqL K H5 sa (List.map V.int ns):=SqL.but hsa2 hhd λc u _ e=>s5 _ _ e
  clear g4 g5 hl4 hb4 hb3
  refine (zr rfl ⟨sa,ns,2,rfl,hsa5,by decide,λpp H6 hpp pu6 s6=>?_⟩)
  have lr:∀ a∈ls,0<=a.2.w/\a.2.w < rooms.length:=λa ha=>⟨(lb a ha).1,(lb a ha).2.1⟩
  have wr:∀ a∈ws,0<=a.2.w/\a.2.w < rooms.length:=λa ha=>⟨(wb a ha).1,(wb a ha).2.1⟩
  refine (zr rfl (zr rfl (zr rfl (zr rfl (ex10 pp b ll lw rooms tr tm ps ls ws ⟨rfl,hb5.same s6,gd,hl5.same s6,hw5.same s6,by omega,by omega,lr,wr,r12,pu6,λc lg lt lm gs ts ms H7 g7 kc co ok hm hh=>?_⟩)))))
  have pu7:=g7.2
  have cu:CutAt H7 c lg lt lm gs ts ms:=⟨kc,co.g,co.t,co.m,co.rows⟩
  have lms:=ok.lm
  have l15:=gd.len
  have hn:∀ a∈ms,a.1≠pp:=λa ha=>(hm a ha).2
  refine (zr rfl (ixt kc rfl ⟨lg,zr rfl ⟨.inl (SqL.of co.g),λa1 h1=>?_⟩⟩))
  have t1:=yy (o:=HO.lst (gs.map V.bl)) h1
  have k1:upd H7 a1 (HO.lst (gs.map V.bl)) a1=some (.lst (gs.map V.bl)):=yx
  generalize upd H7 a1 _=H8 at t1 k1 ⊢
  refine (zr rfl (ixt (t1 _ _ kc) rfl ⟨lt,zr rfl ⟨.inl (SqL.of (t1 _ _ co.t)),λa2 h2=>?_⟩⟩))
  have t2:=yy (o:=HO.lst (ts.map V.bl)) h2
  have k2:upd H8 a2 (HO.lst (ts.map V.bl)) a2=some (.lst (ts.map V.bl)):=yx
  generalize upd H8 a2 _=H9 at t2 k2 ⊢
  have t02:=t1.trans t2
  have cu9:=cu.same t02
  have pu9:Purse H9 pp:=by obtain ⟨x,y,z,e⟩:=pu7;exact ⟨x,y,z,t02 _ _ e⟩
  refine (zr rfl (ixt cu9.c rfl ⟨lm,rfl,⟨_,SqL.of cu9.m⟩,?_⟩))
  refine xz (K:=K) (a:=lm) (xs:=ms.map λa=>V.ref a.1) (λi τ acc H5=>∃ m2:List (Addr×List Int),(∃ t0,τ=[t0])/\acc=(m2.map λa=>V.ref a.1)/\m2.map (·.2)=(ms.take i).map (·.2)/\(∀ a∈m2,H5 a.1=some (.lst (a.2.map V.int))/\a.1≠pp)/\Same H9 H5) ⟨[],⟨_,rfl⟩,rfl,rfl,nofun,Same.refl _⟩ (by rw [zA];omega) ?_ ?_ ?_
  ·rintro i τ acc H5 ⟨m2,_,rfl,e,_,sm⟩
   have e:=congrArg List.length e
   rw [zA,zA,zT] at e
   exact ⟨by rw [zA];omega,SqL.of (sm _ _ cu9.m)⟩
  ·rintro i v τ acc H5 C hv ⟨m2,⟨t0,rfl⟩,rfl,e,em,sm⟩ hC
   obtain ⟨r,hr0,rfl⟩:=xR hv
   refine (zr rfl ⟨r.1,zr rfl ⟨.inl (SqL.of (sm _ _ (cu9.rows r (zB hr0)))),λx hx=>hC _ _ _ ⟨m2++[(x,r.2)],⟨_,rfl⟩,by rw [zC];rfl,by rw [zC,e,xX hr0,zC];rfl,λa ha=>?_,sm.trans (yy hx)⟩⟩⟩)
   rcases zX.mp ha with ha | ha
   ·exact ⟨yy hx _ _ (em a ha).1,(em a ha).2⟩
   ·cases zM.mp ha
    refine ⟨yx,?_⟩
    obtain ⟨x1,y1,z1,e1⟩:=pu9
    exact (yz (sm _ _ e1) hx).symm
  rintro τ acc H10 ⟨m2,⟨t0,rfl⟩,rfl,e2,em,sm⟩ a3 h3
  have t3:=sm.trans (yy (o:=HO.lst (m2.map λa=>V.ref a.1)) h3)
  have k3:upd H10 a3 (HO.lst (m2.map λa=>V.ref a.1)) a3=some (.lst (m2.map λa=>V.ref a.1)):=yx
  have em:=λa ha=>(⟨yy (o:=HO.lst (m2.map λa=>V.ref a.1)) h3 _ _ (em a ha).1,(em a ha).2⟩:_/\_)
  rw [zA,zU] at e2
  generalize upd H10 a3 _=H11 at t3 k3 em ⊢
  refine ⟨by show 3<=sizeLine;omega,λk hk=>?_⟩
  have t4:=yy (o:=HO.tup [V.ref a1,V.ref a2,V.ref a3]) hk
  have ke:CutAt (upd H11 k (HO.tup [V.ref a1,V.ref a2,V.ref a3])) k a1 a2 a3 gs ts m2:=⟨yx,t4 _ _ (t3 _ _ (t2 _ _ k1)),t4 _ _ (t3 _ _ k2),t4 _ _ k3,λa ha=>t4 _ _ (em a ha).1⟩
  have nk:∀ a∈m2,a.1≠pp:=λa ha=>(em a ha).2
  generalize upd H11 k _=H12 at t4 ke ⊢
  have s12:=(t02.trans t3).trans t4
  have co12:=co.same s12
  have cu12:=cu.same s12
  have pu12:Purse H12 pp:=by obtain ⟨x,y,z,e⟩:=pu7;exact ⟨x,y,z,s12 _ _ e⟩
  have d12:DT H12 3 (.ref c):=DT.tup cu12.c (DT.three cu12.dg cu12.dt cu12.dm)
  clear s6 s5 s4 s3 s2 s1 g7 t1 t2 t3 t4 t02 sm
  refine (zr rfl (zr rfl (zr rfl (zr rfl (ex10 b ll lw (.ref c) rooms tr tm ps ls ws ⟨rfl,co12.b,gd,r12,co12.l,co12.w,by omega,by omega,lr,wr,d12,λef' H13 s13=>?_,λc' lg' lt' lm' gs' ts' ms' ev' kc' co' ok' hm' H13 s13=>?_⟩)))))
  ·exfalso
   have z:=form_of38 (n:=rooms.length) cu12 λa ha=>⟨ok.rows a ha,(hm a ha).1⟩
   rw [ok.lg,ok.lt,ok.lm,ef'] at z
   cases z
  injection ev' with ev'
  subst ev'
  obtain ⟨rfl,rfl,rfl⟩:=cu12.uniq ⟨kc',co'.g,co'.t,co'.m,co'.rows⟩
  rw [if_pos hh]
  refine ⟨_, "int", rfl,rfl,zr rfl (iteB0 rfl ?_)⟩
  have co13:=co12.same s13
  have cu13:=cu12.same s13
  refine (zr rfl (zr rfl (zr rfl (zr rfl (ex10 b ll lw (.ref c) rooms tr tm ps ls ws ⟨rfl,co13.b,gd,r12,co13.l,co13.w,by omega,by omega,lr,wr,d12.same s13,λH14 s14=>(zr rfl (iteB0 rfl (zr rfl (zr rfl (CutAt.eqv (cu13.same s14) ((ke.same s13).same s14) e2.symm (zr rfl (iteB0 rfl ?_)))))))⟩)))))
  have s1214:=s13.trans s14
  have pu14:Purse H14 pp:=by obtain ⟨x,y,z,e⟩:=pu12;exact ⟨x,y,z,s1214 _ _ e⟩
  have co14:=co12.same s1214
  have cu14:=cu12.same s1214
  have ke14:=ke.same s1214
  refine (zr rfl ⟨by decide,by decide,?_⟩)
  refine xy (lo:=0) (n:=6) (λi σ H'=>(∃ v8,σ=[some (.ref sa),some (.ref b),some (.ref hd),some (.ref ll),some (.ref lw),some (.ref pp),some (.ref c),some (.ref k),v8])/\Go pp H14 H') ⟨⟨_,rfl⟩,Go.refl pu14⟩ ?_ ?_
  ·rintro i σ H' hi ⟨⟨v8,rfl⟩,g⟩
   refine (zr rfl (zr rfl (zr rfl (zr rfl (zr rfl ⟨pp,c,lg,lt,lm,gs,ts,ms,rooms.length,rfl,g.2,cu14.go g pu14 hn,by have:=ok.lg;omega,by have:=ok.lt;omega,by omega,by omega,r1,r12,λa ha=>⟨ok.rows a ha,hn a ha⟩,λv H'' g2 dv=>?_⟩)))))
   have g3:=g.trans g2
   exact (ex10 b ll lw v rooms tr tm ps ls ws ⟨rfl,co14.b.tups (g3.tups pu14),gd,r12,co14.l.go38 g3 pu14,co14.w.go38 g3 pu14,by omega,by omega,lr,wr,dv,λH3' s3'=>(zr rfl (iteB0 rfl ⟨⟨_,rfl⟩,g3.same s3'⟩))⟩)
  rintro σ H' ⟨⟨v8,rfl⟩,g⟩
  exact (zr rfl (zr rfl (CutAt.eqv (cu14.go g pu14 hn) (ke14.go g pu14 nk) e2.symm (q _))))
end
theorem all_mk {l:PySem.W.OpenLaw}{w:World}{K:PySem.W.Frag}{h:Heap}{mg:Str->Option Value}{fa CM C4 Dt CL C5 B1 C7 C3 CJ Dr C0 Ep Hd Cp CI C2 Cd Eo F3 BP CF B0 Ce CG BO C1 C6 CK Er BQ Du B2 BS BR C8 CN Ht:Addr} (X:K.In h) (G:h.Ns mainGlobals mg) (hfa:mg "law" = some (.ref fa))
  {Bu BD BU Bt BE AG BG BC Br BT Bz Ca Es Bb Bq BB AS B9 Dd Az Bo AF AT Bp Ay BA BF Bs Cb AA BV AH AC AB BH Bv FG:FuncData}
  (AO:zL K mainGlobals "_law_purse" = some (some (.ref CM))) (A9:Fun K "_law_purse" "_law_purse" Cy CM Bu)
  (AY:zL K mainGlobals "_law_take" = some (some (.ref C4))) (Bj:Fun K "_law_take" "_law_take" CV C4 BD)
  (Bd:zL K mainGlobals "_law_far" = some (some (.ref Dt))) (Bx:Fun K "_law_far" "_law_far" Dp Dt BU)
  (AN:zL K mainGlobals "_law_rooms" = some (some (.ref CL))) (A8:Fun K "_law_rooms" "_law_rooms" Cw CL Bt)
  (AZ:zL K mainGlobals "_law_step" = some (some (.ref C5))) (Bk:Fun K "_law_step" "_law_step" CW C5 BE)
  (Al:zL K mainGlobals "_law_meetings" = some (some (.ref B1))) (Av:Fun K "_law_meetings" "_law_meetings" wa B1 AG)
  (A1:zL K mainGlobals "_law_book" = some (some (.ref C7))) (Bm:Fun K "_law_book" "_law_book" CY C7 BG)
  (AX:zL K mainGlobals "_law_time" = some (some (.ref C3))) (Bi:Fun K "_law_time" "_law_time" CU C3 BC)
  (AL:zL K mainGlobals "_law_whole" = some (some (.ref CJ))) (A6:Fun K "_law_whole" "_law_whole" Cv CJ Br)
  (Bc:zL K mainGlobals "is_whole" = some (some (.ref Dr))) (Bw:Fun K "is_whole" "is_whole" Do Dr BT)
  (AU:zL K mainGlobals "is_within" = some (some (.ref C0))) (Bf:Fun K "is_within" "is_within" CT C0 Bz)
  (BJ:zL K mainGlobals "by_time" = some (some (.ref Ep))) (BX:Fun K "by_time" "by_time" Db Ep Ca)
  (C9:zL K mainGlobals "ways" = some (some (.ref Hd))) (Dv:Fun K "ways" "ways" GX Hd Es)
  (Ax:zL K mainGlobals "is_straight" = some (some (.ref Cp))) (AR:Fun K "is_straight" "is_straight" Cn Cp Bb)
  (AK:zL K mainGlobals "are_truths" = some (some (.ref CI))) (A5:Fun K "are_truths" "are_truths" B4 CI Bq)
  (AW:zL K mainGlobals "are_marks" = some (some (.ref C2))) (Bh:Fun K "are_marks" "are_marks" Ck C2 BB)
  (As:zL K mainGlobals "has_cut_form" = some (some (.ref Cd))) (AD:Fun K "has_cut_form" "has_cut_form" wm Cd AS)
  (BI:zL K mainGlobals "is_open" = some (some (.ref Eo))) (BW:Fun K "is_open" "is_open" D1 Eo B9)
  (Cm:zL K mainGlobals "is_in" = some (some (.ref F3))) (CO:Fun K "is_in" "is_in" FH F3 Dd)
  (Ag:zL K mainGlobals "are_loads_open" = some (some (.ref BP))) (Ao:Fun K "are_loads_open" "are_loads_open" wS BP Az)
  (AI:zL K mainGlobals "goes_on_in" = some (some (.ref CF))) (A3:Fun K "goes_on_in" "goes_on_in" Cu CF Bo)
  (Ak:zL K mainGlobals "come_where_in" = some (some (.ref B0))) (Au:Fun K "come_where_in" "come_where_in" wc B0 AF)
  (At:zL K mainGlobals "come_at_once" = some (some (.ref Ce))) (AE:Fun K "come_at_once" "come_at_once" Cc Ce AT)
  (AJ:zL K mainGlobals "bags_worth" = some (some (.ref CG))) (A4:Fun K "bags_worth" "bags_worth" B3 CG Bp)
  (Af:zL K mainGlobals "meetings_worth" = some (some (.ref BO))) (An:Fun K "meetings_worth" "meetings_worth" BN BO Ay)
  (AV:zL K mainGlobals "cut_worth" = some (some (.ref C1))) (Bg:Fun K "cut_worth" "cut_worth" BZ C1 BA)
  (A0:zL K mainGlobals "_law_sack" = some (some (.ref C6))) (Bl:Fun K "_law_sack" "_law_sack" Cl C6 BF)
  (AM:zL K mainGlobals "_law_sacks" = some (some (.ref CK))) (A7:Fun K "_law_sacks" "_law_sacks" B5 CK Bs)
  (BK:zL K mainGlobals "_law_by" = some (some (.ref Er))) (BY:Fun K "_law_by" "_law_by" Dc Er Cb)
  (Ah:zL K mainGlobals "_law_in_behind" = some (some (.ref BQ))) (Ap:Fun K "_law_in_behind" "_law_in_behind" wT BQ AA)
  (Be:zL K mainGlobals "_law_cut" = some (some (.ref Du))) (By:Fun K "_law_cut" "_law_cut" we Du BV)
  (Am:zL K mainGlobals "_law_cut_form" = some (some (.ref B2))) (Aw:Fun K "_law_cut_form" "_law_cut_form" wO B2 AH)
  (Aj:zL K mainGlobals "_law_cut_holds" = some (some (.ref BS))) (Ar:Fun K "_law_cut_holds" "_law_cut_holds" wL BS AC)
  (Ai:zL K mainGlobals "_law_cut_worth" = some (some (.ref BR))) (Aq:Fun K "_law_cut_worth" "_law_cut_worth" xx BR AB)
  (A2:zL K mainGlobals "_law_bent" = some (some (.ref C8))) (Bn:Fun K "_law_bent" "_law_bent" CZ C8 BH)
  (AQ:zL K mainGlobals "_law_alike" = some (some (.ref CN))) (Ba:Fun K "_law_alike" "_law_alike" Cz CN Bv)
  (DV:zL K mainGlobals "law" = some (some (.ref Ht))) (EL:Fun K "law" "law" Hl Ht FG)
  (z_all:zL K mainGlobals "all" = some none)
  (z_any:zL K mainGlobals "any" = some none)
  (z_bool:zL K mainGlobals "bool" = some none)
  (z_enumerate:zL K mainGlobals "enumerate" = some none)
  (z_int:zL K mainGlobals "int" = some none)
  (z_isinstance:zL K mainGlobals "isinstance" = some none)
  (z_len:zL K mainGlobals "len" = some none)
  (z_list:zL K mainGlobals "list" = some none)
  (z_max:zL K mainGlobals "max" = some none)
  (z_min:zL K mainGlobals "min" = some none)
  (z_range:zL K mainGlobals "range" = some none)
  (z_sorted:zL K mainGlobals "sorted" = some none)
  (z_sum:zL K mainGlobals "sum" = some none)
  (z_tuple:zL K mainGlobals "tuple" = some none)
  (z_zip:zL K mainGlobals "zip" = some none) :
  ∃ fd:FuncData,(∀ (s:Shared) (v:Value),BindsTo s fd ⟨[v],[]⟩ [("_law_script", v)])/\∀ base:Heap,K.In base->base.Ns mainGlobals mg->FnOk l.prog w K mg base CX0 7 fa fd ["_law_script"] (spLaw K):=by
 have e:=hfa.symm.trans (zR X G DV)
 cases e
 have Ga:=A9.binds (ps:=["_law_script", "_law_k"]) λ_ _ _ _ _ _ us hl=>us2 hl λ_ _=>rfl
 have GL:=Bj.binds (ps:=["_law_purse_here", "_law_many"]) λ_ _ _ _ _ _ us hl=>us2 hl λ_ _=>rfl
 have Hf:=Bx.binds (ps:=["_law_purse_here"]) λ_ _ _ _ _ _ us hl=>us1 hl λ_=>rfl
 have F9:=A8.binds (ps:=["_law_purse_here", "_law_walkers"]) λ_ _ _ _ _ _ us hl=>us2 hl λ_ _=>rfl
 have GM:=Bk.binds (ps:=["_law_purse_here"]) λ_ _ _ _ _ _ us hl=>us1 hl λ_=>rfl
 have EZ:=Av.binds (ps:=["_law_purse_here", "_law_walkers", "_law_most"]) λ_ _ _ _ _ _ us hl=>us3 hl λ_ _ _=>rfl
 have GO:=Bm.binds (ps:=["_law_purse_here", "_law_most_walkers", "_law_most_meetings"]) λ_ _ _ _ _ _ us hl=>us3 hl λ_ _ _=>rfl
 have GK:=Bi.binds (ps:=["_law_purse_here", "_law_book_here", "_law_later"]) λ_ _ _ _ _ _ us hl=>us3 hl λ_ _ _=>rfl
 have F7:=A6.binds (ps:=["_law_thing"]) λ_ _ _ _ _ _ us hl=>us1 hl λ_=>rfl
 have He:=Bw.binds (ps:=["thing"]) λ_ _ _ _ _ _ us hl=>us1 hl λ_=>rfl
 have GH:=Bf.binds (ps:=["thing", "least", "most"]) λ_ _ _ _ _ _ us hl=>us3 hl λ_ _ _=>rfl
 have Hn:=BX.binds (ps:=["book", "time"]) λ_ _ _ _ _ _ us hl=>us2 hl λ_ _=>rfl
 have HA:=Dv.binds (ps:=["book"]) λ_ _ _ _ _ _ us hl=>us1 hl λ_=>rfl
 have Fy:=AR.binds (ps:=["load", "want"]) λ_ _ _ _ _ _ us hl=>us2 hl λ_ _=>rfl
 have F6:=A5.binds (ps:=["thing", "size"]) λ_ _ _ _ _ _ us hl=>us2 hl λ_ _=>rfl
 have GJ:=Bh.binds (ps:=["thing", "size"]) λ_ _ _ _ _ _ us hl=>us2 hl λ_ _=>rfl
 have Fj:=AD.binds (ps:=["book", "loads", "wants", "thing"]) λ_ _ _ _ _ _ us hl=>us4 hl λ_ _ _ _=>rfl
 have Hm:=BW.binds (ps:=["mark"]) λ_ _ _ _ _ _ us hl=>us1 hl λ_=>rfl
 have Hs:=CO.binds (ps:=["mark"]) λ_ _ _ _ _ _ us hl=>us1 hl λ_=>rfl
 have Eu:=Ao.binds (ps:=["book", "loads", "begun", "marks"]) λ_ _ _ _ _ _ us hl=>us4 hl λ_ _ _ _=>rfl
 have F4:=A3.binds (ps:=["book", "marks"]) λ_ _ _ _ _ _ us hl=>us2 hl λ_ _=>rfl
 have EY:=Au.binds (ps:=["book", "wants", "come", "marks"]) λ_ _ _ _ _ _ us hl=>us4 hl λ_ _ _ _=>rfl
 have Fk:=AE.binds (ps:=["loads", "wants", "begun", "come"]) λ_ _ _ _ _ _ us hl=>us4 hl λ_ _ _ _=>rfl
 have F5:=A4.binds (ps:=["book", "marks"]) λ_ _ _ _ _ _ us hl=>us2 hl λ_ _=>rfl
 have Et:=An.binds (ps:=["book", "marks"]) λ_ _ _ _ _ _ us hl=>us2 hl λ_ _=>rfl
 have GI:=Bg.binds (ps:=["book", "loads", "wants", "thing"]) λ_ _ _ _ _ _ us hl=>us4 hl λ_ _ _ _=>rfl
 have GN:=Bl.binds (ps:=["_law_purse_here", "_law_book_here", "_law_walkers", "_law_later"]) λ_ _ _ _ _ _ us hl=>us4 hl λ_ _ _ _=>rfl
 have F8:=A7.binds (ps:=["_law_script", "_law_book_here", "_law_head", "_law_first", "_law_later"]) λ_ _ _ _ _ _ us hl=>us5 hl λ_ _ _ _ _=>rfl
 have Ho:=BY.binds (ps:=["_law_book_here", "_law_time_here"]) λ_ _ _ _ _ _ us hl=>us2 hl λ_ _=>rfl
 have Ev:=Ap.binds (ps:=["_law_book_here", "_law_want", "_law_marks"]) λ_ _ _ _ _ _ us hl=>us3 hl λ_ _ _=>rfl
 have Hg:=By.binds (ps:=["_law_purse_here", "_law_book_here", "_law_loads", "_law_wants"]) λ_ _ _ _ _ _ us hl=>us4 hl λ_ _ _ _=>rfl
 have E1:=Aw.binds (ps:=["_law_book_here", "_law_loads", "_law_wants", "_law_cut_here"]) λ_ _ _ _ _ _ us hl=>us4 hl λ_ _ _ _=>rfl
 have Ex:=Ar.binds (ps:=["_law_book_here", "_law_loads", "_law_wants", "_law_cut_here"]) λ_ _ _ _ _ _ us hl=>us4 hl λ_ _ _ _=>rfl
 have Ew:=Aq.binds (ps:=["_law_book_here", "_law_loads", "_law_wants", "_law_cut_here"]) λ_ _ _ _ _ _ us hl=>us4 hl λ_ _ _ _=>rfl
 have GP:=Bn.binds (ps:=["_law_purse_here", "_law_cut_here"]) λ_ _ _ _ _ _ us hl=>us2 hl λ_ _=>rfl
 have Gb:=Ba.binds (ps:=["_law_book_here", "_law_loads", "_law_wants", "_law_thing"]) λ_ _ _ _ _ _ us hl=>us4 hl λ_ _ _ _=>rfl
 have HC:=EL.binds (ps:=["_law_script"]) λ_ _ _ _ _ _ us hl=>us1 hl λ_=>rfl
 have T:Tx K mg ⟨CM,Bu,C4,BD,Dt,BU,CL,Bt,C5,BE,B1,AG,C7,BG,C3,BC,CJ,Br,Dr,BT,C0,Bz,Ep,Ca,Hd,Es,Cp,Bb,CI,Bq,C2,BB,Cd,AS,Eo,B9,F3,Dd,BP,Az,CF,Bo,B0,AF,Ce,AT,CG,Bp,BO,Ay,C1,BA,C6,BF,CK,Bs,Er,Cb,BQ,AA,Du,BV,B2,AH,BS,AC,BR,AB,C8,BH,CN,Bv,fa,FG⟩:=⟨A9,Ga,zR X G AO,A9.kp,Bj,GL,zR X G AY,Bj.kp,Bx,Hf,zR X G Bd,Bx.kp,A8,F9,zR X G AN,A8.kp,Bk,GM,zR X G AZ,Bk.kp,Av,EZ,zR X G Al,Av.kp,Bm,GO,zR X G A1,Bm.kp,Bi,GK,zR X G AX,Bi.kp,A6,F7,zR X G AL,A6.kp,Bw,He,zR X G Bc,Bw.kp,Bf,GH,zR X G AU,Bf.kp,BX,Hn,zR X G BJ,BX.kp,Dv,HA,zR X G C9,Dv.kp,AR,Fy,zR X G Ax,AR.kp,A5,F6,zR X G AK,A5.kp,Bh,GJ,zR X G AW,Bh.kp,AD,Fj,zR X G As,AD.kp,BW,Hm,zR X G BI,BW.kp,CO,Hs,zR X G Cm,CO.kp,Ao,Eu,zR X G Ag,Ao.kp,A3,F4,zR X G AI,A3.kp,Au,EY,zR X G Ak,Au.kp,AE,Fk,zR X G At,AE.kp,A4,F5,zR X G AJ,A4.kp,An,Et,zR X G Af,An.kp,Bg,GI,zR X G AV,Bg.kp,Bl,GN,zR X G A0,Bl.kp,A7,F8,zR X G AM,A7.kp,BY,Ho,zR X G BK,BY.kp,Ap,Ev,zR X G Ah,Ap.kp,By,Hg,zR X G Be,By.kp,Aw,E1,zR X G Am,Aw.kp,Ar,Ex,zR X G Aj,Ar.kp,Aq,Ew,zR X G Ai,Aq.kp,Bn,GP,zR X G A2,Bn.kp,Ba,Gb,zR X G AQ,Ba.kp,EL,HC,zR X G DV,EL.kp,ze X G z_all,ze X G z_any,ze X G z_bool,ze X G z_enumerate,ze X G z_int,ze X G z_isinstance,ze X G z_len,ze X G z_list,ze X G z_max,ze X G z_min,ze X G z_range,ze X G z_sorted,ze X G z_sum,ze X G z_tuple,ze X G z_zip⟩
 obtain ⟨_,_,_,_,_,_,_,_,_,rfl,_,_⟩:=EL.ex
 exact ⟨_,λs v=>.of_eq rfl,λbase _ _=>Hu _ _ base T⟩
theorem walk {l:PySem.W.OpenLaw}{q:Program}{loose:List Str}{XP:(Str->Option Value)->Heap->Prop}{YP:World->Heap->Prop}{d:DefRec}{K:Params->PySem.W.Frag} (hn:l.most=some 63) (hdf:d.params.defaults=[])
  (hY:∀ (w:World) (h:Heap),YP w h->(K w.params).In h)
  (F:∀ (w:World) (mg:Str->Option Value) (fa:Addr) (h:Heap),(K w.params).In h->h.Ns mainGlobals mg->mg d.name=some (.ref fa) ->
   ∃ fd:FuncData,(∀ (s:Shared) (u:Value),BindsTo s fd ⟨[u],[]⟩ [("_law_script", u)])/\∀ base:Heap,(K w.params).In base->base.Ns mainGlobals mg->FnOk l.prog w (K w.params) mg base CX0 7 fa fd ["_law_script"] (spLaw (K w.params))) :
  PySem.W.WalkO q loose XP YP l.row.toRowW d [] (λf vs=>PySem.call f vs):=
 L2.walk_of (n:=63) (k:=7) (x := "_law_script") (CX:=λ_=>CX0) (sp:=λw=>spLaw (K w.params)) hn (by decide) hdf ⟨rfl,by decide,by decide,rfl⟩ hY F (λ_ _ a ns hl _ hS=>⟨a,ns,rfl,hS,hl,λ_=>rfl⟩) λ_ _ _ _ _ z=>z
end Sm
namespace PySem.W.Fast
def tw1436622024448705782:Nat:=0
def tw18312350740385401235:Nat:=0
def tw3304039969444170930:Nat:=0
def tw4631515866276025563:Nat:=0
def tw8456306358267765864:Nat:=0
def tw11762048663143654658:Nat:=0
def tw9260950174958223697:Nat:=0
def tw11579487345405986848:Nat:=0
def tw2687114785770796855:Nat:=0
def tw17936665567050347825:Nat:=0
def tw8160209674042298169:Nat:=0
def tw3231559521883348107:Nat:=0
def tw10466067934672519965:Nat:=0
def tw10478781409152578113:Nat:=0
def tw1198145111859447875:Nat:=0
def tw1042592310549277707:Nat:=0
def tw16211585693004568778:Nat:=0
def tw9057036064300603448:Nat:=0
def tw16084470160085038282:Nat:=0
def tw7373251900377755557:Nat:=0
def tw12383365554747727084:Nat:=0
def tw8209531255661050411:Nat:=0
def tw16455678157624550603:Nat:=0
def tw9458140710296621922:Nat:=0
def tw8678146498024059162:Nat:=0
def tw10323034677872828909:Nat:=0
def tw3965113043486568299:Nat:=0
def tw14147594986593226123:Nat:=0
def tw971289993077562970:Nat:=0
def tw2755935419326489730:Nat:=0
def tw7452981759475971315:Nat:=0
def tw5939629705123257018:Nat:=0
def tw12563160248959164841:Nat:=0
def tw11878633714551476855:Nat:=0
def tw18082052194032484113:Nat:=0
def tw2896099920361753212:Nat:=0
def tw15584254939138209978:Nat:=0
def tw3344808138365063779:Nat:=0
def tw12030233634178035100:Nat:=0
def tw8533646660848886226:Nat:=0
def tw6891536533937701747:Nat:=0
def tw13432208346504999928:Nat:=0
def tw7149919096255378306:Nat:=0
def tw10377703559881356182:Nat:=0
def tw654716983230302732:Nat:=0
def tw5086377108121913201:Nat:=0
def tw14317791758894323723:Nat:=0
def tw12304582672516157859:Nat:=0
def tw4533973741106929874:Nat:=0
def tw13576355805388819431:Nat:=0
def tw10818525030816886681:Nat:=0
def tw12846855336715015362:Nat:=0
def tw8379837360853534615:Nat:=0
def tw11919426672464793144:Nat:=0
def tw484391446696292010:Nat:=0
def tw16118384397849418104:Nat:=0
def tw10309792778896541847:Nat:=0
def tw8795079860088986503:Nat:=0
def tw16527491184900966928:Nat:=0
def tw16203600758846092565:Nat:=0
def tw6687229397207241999:Nat:=0
def tw4367539376507113198:Nat:=0
def tw9582488745247291152:Nat:=0
def tw7804056780035988433:Nat:=0
def tw17539579057853361325:Nat:=0
def tw13276034661098730094:Nat:=0
def tw5770429703148440809:Nat:=0
def tw12717846866396074432:Nat:=0
def tw14466506638674390616:Nat:=0
def tw14152989549460197029:Nat:=0
def tw4120990148150691586:Nat:=0
def tw858572178809376427:Nat:=0
def tw7786154643553029073:Nat:=0
def tw6370672908411357565:Nat:=0
def tw5798078959791948187:Nat:=0
def tw6057951642365889363:Nat:=0
def tw11419624924928851204:Nat:=0
def tw11959468234380682081:Nat:=0
def tw13867992020747862158:Nat:=0
def tw6946451792257574540:Nat:=0
def tw9914288206068007701:Nat:=0
def tw9721246387164433703:Nat:=0
def tw8713746087273283226:Nat:=0
def tw5981339427272326404:Nat:=0
def tw10274539471106645656:Nat:=0
def tw7607448529980985480:Nat:=0
def tw9931239076592056539:Nat:=0
def tw11076566470320180761:Nat:=0
def tw7200299640814669616:Nat:=0
def tw16021097312827754623:Nat:=0
def tw12917832352026469372:Nat:=0
def tw1958863706679893443:Nat:=0
def tw14240503168613505495:Nat:=0
def tw1669210094073292323:Nat:=0
def tw14887286415563890238:Nat:=0
def tw8142697747880098538:Nat:=0
def tw16339785948320540113:Nat:=0
def tw2093514742189051051:Nat:=0
def tw16770219256861974507:Nat:=0
def tw148422611841234204:Nat:=0
def tw4586284569825293267:Nat:=0
def tw15416899565953365803:Nat:=0
def tw5552641746705983656:Nat:=0
def tw2288707665155902505:Nat:=0
def tw9038564209136681577:Nat:=0
def tw1982852857922402630:Nat:=0
end PySem.W.Fast
open PySem PySem.W PyProof.Rows
set_option maxRecDepth 100000 in
set_option maxHeartbeats 0 in
theorem PySem.Challenge.cw_satchelmeet_k38_whole_cuts_looked_at_holds : PySem.Challenge.rw_satchelmeet_k38_whole_cuts_looked_at.Holds := by
 w_on;o_law;k_head;(case hw=>w_witness2)
 k_fill
 refine Sm.walk (l:=PySem.Challenge.rw_satchelmeet_k38_whole_cuts_looked_at) rfl rfl (λw h Y=>PySem.W.kIn_of Y) ?F
 case F=>
  intro w mg fa h KX G hmg
  refine' Sm.all_mk KX G hmg ?AO ?A9 ?AY ?Bj ?Bd ?Bx ?AN ?A8 ?AZ ?Bk ?Al ?Av ?A1 ?Bm ?AX ?Bi ?AL ?A6 ?Bc ?Bw ?AU ?Bf ?BJ ?BX ?C9 ?Dv ?Ax ?AR ?AK ?A5 ?AW ?Bh ?As ?AD ?BI ?BW ?Cm ?CO ?Ag ?Ao ?AI ?A3 ?Ak ?Au ?At ?AE ?AJ ?A4 ?Af ?An ?AV ?Bg ?A0 ?Bl ?AM ?A7 ?BK ?BY ?Ah ?Ap ?Be ?By ?Am ?Aw ?Aj ?Ar ?Ai ?Aq ?A2 ?Bn ?AQ ?Ba ?DV ?EL ?z_all ?z_any ?z_bool ?z_enumerate ?z_int ?z_isinstance ?z_len ?z_list ?z_max ?z_min ?z_range ?z_sorted ?z_sum ?z_tuple ?z_zip
  (case AO=>k_is)
  (case A9=>refine' L2.fun_mk ?x1 ?y1 ?z1;(case x1=>k_is);(case y1=>k_is);(case z1=>k_is))
  (case AY=>k_is)
  (case Bj=>refine' L2.fun_mk ?x3 ?y3 ?z3;(case x3=>k_is);(case y3=>k_is);(case z3=>k_is))
  (case Bd=>k_is)
  (case Bx=>refine' L2.fun_mk ?x5 ?y5 ?z5;(case x5=>k_is);(case y5=>k_is);(case z5=>k_is))
  (case AN=>k_is)
  (case A8=>refine' L2.fun_mk ?x7 ?y7 ?z7;(case x7=>k_is);(case y7=>k_is);(case z7=>k_is))
  (case AZ=>k_is)
  (case Bk=>refine' L2.fun_mk ?x9 ?y9 ?z9;(case x9=>k_is);(case y9=>k_is);(case z9=>k_is))
  (case Al=>k_is)
  (case Av=>refine' L2.fun_mk ?x11 ?y11 ?z11;(case x11=>k_is);(case y11=>k_is);(case z11=>k_is))
  (case A1=>k_is)
  (case Bm=>refine' L2.fun_mk ?x13 ?y13 ?z13;(case x13=>k_is);(case y13=>k_is);(case z13=>k_is))
  (case AX=>k_is)
  (case Bi=>refine' L2.fun_mk ?x15 ?y15 ?z15;(case x15=>k_is);(case y15=>k_is);(case z15=>k_is))
  (case AL=>k_is)
  (case A6=>refine' L2.fun_mk ?x17 ?y17 ?z17;(case x17=>k_is);(case y17=>k_is);(case z17=>k_is))
  (case Bc=>k_is)
  (case Bw=>refine' L2.fun_mk ?x19 ?y19 ?z19;(case x19=>k_is);(case y19=>k_is);(case z19=>k_is))
  (case AU=>k_is)
  (case Bf=>refine' L2.fun_mk ?x21 ?y21 ?z21;(case x21=>k_is);(case y21=>k_is);(case z21=>k_is))
  (case BJ=>k_is)
  (case BX=>refine' L2.fun_mk ?x23 ?y23 ?z23;(case x23=>k_is);(case y23=>k_is);(case z23=>k_is))
  (case C9=>k_is)
  (case Dv=>refine' L2.fun_mk ?x25 ?y25 ?z25;(case x25=>k_is);(case y25=>k_is);(case z25=>k_is))
  (case Ax=>k_is)
  (case AR=>refine' L2.fun_mk ?x27 ?y27 ?z27;(case x27=>k_is);(case y27=>k_is);(case z27=>k_is))
  (case AK=>k_is)
  (case A5=>refine' L2.fun_mk ?x29 ?y29 ?z29;(case x29=>k_is);(case y29=>k_is);(case z29=>k_is))
  (case AW=>k_is)
  (case Bh=>refine' L2.fun_mk ?x31 ?y31 ?z31;(case x31=>k_is);(case y31=>k_is);(case z31=>k_is))
  (case As=>k_is)
  (case AD=>refine' L2.fun_mk ?x33 ?y33 ?z33;(case x33=>k_is);(case y33=>k_is);(case z33=>k_is))
  (case BI=>k_is)
  (case BW=>refine' L2.fun_mk ?x35 ?y35 ?z35;(case x35=>k_is);(case y35=>k_is);(case z35=>k_is))
  (case Cm=>k_is)
  (case CO=>refine' L2.fun_mk ?x37 ?y37 ?z37;(case x37=>k_is);(case y37=>k_is);(case z37=>k_is))
  (case Ag=>k_is)
  (case Ao=>refine' L2.fun_mk ?x39 ?y39 ?z39;(case x39=>k_is);(case y39=>k_is);(case z39=>k_is))
  (case AI=>k_is)
  (case A3=>refine' L2.fun_mk ?x41 ?y41 ?z41;(case x41=>k_is);(case y41=>k_is);(case z41=>k_is))
  (case Ak=>k_is)
  (case Au=>refine' L2.fun_mk ?x43 ?y43 ?z43;(case x43=>k_is);(case y43=>k_is);(case z43=>k_is))
  (case At=>k_is)
  (case AE=>refine' L2.fun_mk ?x45 ?y45 ?z45;(case x45=>k_is);(case y45=>k_is);(case z45=>k_is))
  (case AJ=>k_is)
  (case A4=>refine' L2.fun_mk ?x47 ?y47 ?z47;(case x47=>k_is);(case y47=>k_is);(case z47=>k_is))
  (case Af=>k_is)
  (case An=>refine' L2.fun_mk ?x49 ?y49 ?z49;(case x49=>k_is);(case y49=>k_is);(case z49=>k_is))
  (case AV=>k_is)
  (case Bg=>refine' L2.fun_mk ?x51 ?y51 ?z51;(case x51=>k_is);(case y51=>k_is);(case z51=>k_is))
  (case A0=>k_is)
  (case Bl=>refine' L2.fun_mk ?x53 ?y53 ?z53;(case x53=>k_is);(case y53=>k_is);(case z53=>k_is))
  (case AM=>k_is)
  (case A7=>refine' L2.fun_mk ?x55 ?y55 ?z55;(case x55=>k_is);(case y55=>k_is);(case z55=>k_is))
  (case BK=>k_is)
  (case BY=>refine' L2.fun_mk ?x57 ?y57 ?z57;(case x57=>k_is);(case y57=>k_is);(case z57=>k_is))
  (case Ah=>k_is)
  (case Ap=>refine' L2.fun_mk ?x59 ?y59 ?z59;(case x59=>k_is);(case y59=>k_is);(case z59=>k_is))
  (case Be=>k_is)
  (case By=>refine' L2.fun_mk ?x61 ?y61 ?z61;(case x61=>k_is);(case y61=>k_is);(case z61=>k_is))
  (case Am=>k_is)
  (case Aw=>refine' L2.fun_mk ?x63 ?y63 ?z63;(case x63=>k_is);(case y63=>k_is);(case z63=>k_is))
  (case Aj=>k_is)
  (case Ar=>refine' L2.fun_mk ?x65 ?y65 ?z65;(case x65=>k_is);(case y65=>k_is);(case z65=>k_is))
  (case Ai=>k_is)
  (case Aq=>refine' L2.fun_mk ?x67 ?y67 ?z67;(case x67=>k_is);(case y67=>k_is);(case z67=>k_is))
  (case A2=>k_is)
  (case Bn=>refine' L2.fun_mk ?x69 ?y69 ?z69;(case x69=>k_is);(case y69=>k_is);(case z69=>k_is))
  (case AQ=>k_is)
  (case Ba=>refine' L2.fun_mk ?x71 ?y71 ?z71;(case x71=>k_is);(case y71=>k_is);(case z71=>k_is))
  (case DV=>k_is)
  (case EL=>refine' L2.fun_mk ?x73 ?y73 ?z73;(case x73=>k_is);(case y73=>k_is);(case z73=>k_is))
  (case z_all=>k_is)
  (case z_any=>k_is)
  (case z_bool=>k_is)
  (case z_enumerate=>k_is)
  (case z_int=>k_is)
  (case z_isinstance=>k_is)
  (case z_len=>k_is)
  (case z_list=>k_is)
  (case z_max=>k_is)
  (case z_min=>k_is)
  (case z_range=>k_is)
  (case z_sorted=>k_is)
  (case z_sum=>k_is)
  (case z_tuple=>k_is)
  (case z_zip=>k_is)

