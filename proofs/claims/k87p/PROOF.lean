import PyProof.Rows.All
import Wide.All
import OpenK.AllK
import Wide.FinOn
import Lean
import PyProof.EqAt
import PyProof.EqKinds
import PyProof.TupleCall
import KE.KDictOf
import PyProof.AttrMissHeap
import PyProof.StrWalks
import PyProof.StrBlockI
import PyProof.FString5
import PyProof.SetRoads
import PyProof.SetNew
import PyProof.TupleKey
import PyProof.InstEq
import PySem.SetOps
import KE.KTryMore
import PyProof.NsDelKeeps
import KE.KIsAll
import KE.KItemsList
import KE.KSortTup
import KE.KDictSum
import PyProof.Rows.SetFrom
import KE.KIntText
import KE.KTab
import KE.KSortKey
import PyProof.StrLawsTight
import PyProof.StrLawsChain
import KE.KLam
import KE.KNestM
import KE.KSortTup
import PySem.Challenge.RW_satchelmeet_k87_rows_read
open List renaming length_map → zA,mem_of_getElem? → zB,map_append → zC,size_toArray → zF,mem_cons → zH,length_append → zI,getElem?_eq_getElem → zJ,not_mem_nil → zK,mem_append_right → zN,mem_map → zO,mem_singleton → zP,getElem?_eq_some_iff → zT,length_cons → zV,getElem?_map → zX,length_take → zY,mem_append → zZ,take_of_length_le → za,mem_cons_of_mem → zb,mem_cons_self → zd,append_nil → zi,mem_range → zk,length_singleton → zm,getElem_mem → zn,map_map → zp,pairwise_iff_getElem → zt,map_cons → zu,length_nil → zy,pairwise_map → yE,getElem?_cons_succ → yF,getElem?_append_right → yG,getElem?_append_left → yK,mem_filterMap → yO,getElem?_cons_zero → yP,map_congr_left → yS,nil_append → yU,take_length → yV,toArray → yW,map_nil → yX,length_drop → ya,lookup_cons → yb,all_eq_true → yc,set_cons_zero → yd,set_cons_succ → ye,length_replicate → yf,length_zip → yh,mem_append_left → yi,pairwise_append → yk,append_assoc → ym,filterMap_cons → yn,getElem_of_mem → yo,cons_append → yp,take_add_one → yr,of_mem_zip → yy
open Nat renaming le_refl → zD,lt_of_lt_of_le → zQ,ne_of_lt → zW,zero_le → zf,le_trans → zj,lt_irrefl → zw,ne_of_gt → yA,lt_succ_of_lt → yD,not_lt_zero → yI,lt_succ_iff → yT,le_succ → yj,zero_add → yq,reduceAdd → yw,reduceSub → yx,le_of_lt → yz,toDigits → y8
open PySem.W renaming nsIn → zG,mg_none_of → zo,kia_one → yH,mg_of → yJ,fnOf → yu
open Bool renaming false_ne_true → zL,false_eq_true → zc,and_eq_true → zz,false_and → yM,true_and → yZ,and_false → yt
open PyProof.Rows renaming boot_isinstance → zR,boot_tuple → zq,boot_str → zx,callWith_type1 → yQ,boot_list → yR,boot_all → yg
open Int renaming eq_ofNat_of_zero_le → zU,emod_lt_of_pos → yB,toNat_natCast → yC,emod_nonneg → yN
open PySem.F renaming plainAttrs_list → ze,slot_list_append → zg,type_list_append → zh,plainAttrs_str → yY
open PySem renaming mem_of_lookup → yL
set_option Elab.async false
set_option linter.all false
set_option maxRecDepth 100000
set_option maxHeartbeats 4000000
namespace L2
open PySem PySem.Spec PyProof.Rows
abbrev Key:=Sum Int Str
def keyIs:Key->Value->Bool
 | .inl k,v=>Value.isInt k v
 | .inr x,v=>Value.isStrOf x v
def keyH (w:World):Key->Int
 | .inl k=>hashInt k
 | .inr x=>hashStr w x
theorem xu:∀ {k:Key}{v:Value},keyIs k v=true->(∃ i t,k=Sum.inl i/\v=Value.int i t)\/(∃ x t,k=Sum.inr x/\v=Value.str x t)
 | .inl i,v,h=>by
  obtain ⟨t,e⟩:=Value.isInt_shape (k:=i) (v:=v) h
  exact .inl ⟨i,t,rfl,e⟩
 | .inr x,v,h=>by
  obtain ⟨t,e⟩:=Value.isStrOf_shape (x:=x) (v:=v) h
  exact .inr ⟨x,t,rfl,e⟩
theorem keyIs_int (i:Int) (t:Tok):keyIs (.inl i) (.int i t)=true:=by simp [keyIs,Value.isInt]
theorem keyIs_str (x:Str) (t:Tok):keyIs (.inr x) (.str x t)=true:=by simp [keyIs,Value.isStrOf]
theorem key_ll (a b:Int):decide ((Sum.inl a:Key)=Sum.inl b)=(a == b):=by
 by_cases e:a=b
 ·subst e;simp
 ·have h:¬ (Sum.inl a:Key)=Sum.inl b:=λq=>e (Sum.inl.inj q)
  rw [decide_eq_false h]
  exact (beq_eq_false_iff_ne.mpr e).symm
theorem key_rr (a b:Str):decide ((Sum.inr a:Key)=Sum.inr b)=decide (a=b):=by
 by_cases e:a=b
 ·subst e;simp
 ·have h:¬ (Sum.inr a:Key)=Sum.inr b:=λq=>e (Sum.inr.inj q)
  rw [decide_eq_false h,decide_eq_false e]
theorem key_lr (a:Int) (b:Str):decide ((Sum.inl a:Key)=Sum.inr b)=false:=decide_eq_false (λq=>nomatch q)
theorem key_rl (a:Str) (b:Int):decide ((Sum.inr a:Key)=Sum.inl b)=false:=decide_eq_false (λq=>nomatch q)
def mixKind (prog:Program) (w:World):PySem.KeyKind prog w Key where
 is:=keyIs
 hash:=keyH w
 inj:=λv a b ha hb=>by
  rcases xu ha with ⟨i,t,rfl,rfl⟩ | ⟨x,t,rfl,rfl⟩
  ·rcases xu hb with ⟨j,u,rfl,e⟩ | ⟨y,u,rfl,e⟩
   ·injection e with e1 _;rw [e1]
   ·exact nomatch e
  ·rcases xu hb with ⟨j,u,rfl,e⟩ | ⟨y,u,rfl,e⟩
   ·exact nomatch e
   ·injection e with e1 _;rw [e1]
 byValue:=λk v h=>by
  rcases xu h with ⟨i,t,rfl,rfl⟩ | ⟨x,t,rfl,rfl⟩ <;> rfl
 pyHash:=λhv h=>by
  rcases xu hv with ⟨i,t,rfl,rfl⟩ | ⟨x,t,rfl,rfl⟩
  ·exact wpAny_pyHash_int h
  ·exact wpAny_pyHash_str h
 eqBool:=λhu hv h=>by
  rcases xu hu with ⟨i,t,rfl,rfl⟩ | ⟨x,t,rfl,rfl⟩
  ·rcases xu hv with ⟨j,u,rfl,rfl⟩ | ⟨y,u,rfl,rfl⟩
   ·rw [key_ll] at h;exact wpAny_eqBool_int h
   ·rw [key_lr] at h;exact SeqAt.EqAt.int_str i t y u _ _ _ _ h
  ·rcases xu hv with ⟨j,u,rfl,rfl⟩ | ⟨y,u,rfl,rfl⟩
   ·rw [key_rl] at h;exact SeqAt.EqAt.str_int x t j u _ _ _ _ h
   ·rw [key_rr] at h;exact wpAny_eqBool_str h
 «strs»:=λk x t v h=>by
  rcases xu h with ⟨i,u,rfl,e⟩ | ⟨y,u,rfl,e⟩
  ·exact nomatch e
  ·injection e with e1 _
   subst e1
   cases v <;> rfl
theorem mixKind_int (prog:Program) (w:World) (i:Int) (t:Tok):(mixKind prog w).is (.inl i) (.int i t)=true:=keyIs_int i t
theorem mixKind_str (prog:Program) (w:World) (x:Str) (t:Tok):(mixKind prog w).is (.inr x) (.str x t)=true:=keyIs_str x t
end L2
namespace L2
open PySem PySem.Spec PyProof.Rows
inductive V where
 | non | bl (b:Bool) | int (i:Int) | str (x:Str) | byt (b:Array UInt8) | flt (b:UInt64) | ref (a:Addr) | ty (n:String)
 deriving DecidableEq
def RelV:V->Value->Prop
 | .non,u=>u=Value.none
 | .bl b,u=>u=Value.bool b
 | .int i,u=>∃ t,u=Value.int i t
 | .str x,u=>∃ t,u=Value.str x t
 | .byt b,u=>∃ t,u=Value.bytes b t
 | .flt b,u=>∃ t,u=Value.float b t
 | .ref a,u=>u=Value.ref a
 | .ty n,u=>u=Value.type n
abbrev Vals:List V->List Value->Prop:=Paired RelV
theorem Vals.length {xs:List V}{us:List Value} (r:Vals xs us):xs.length=us.length:=Paired.length r
theorem Vals.get:∀ {xs:List V}{us:List Value}{i:Nat}{x:V},Vals xs us->xs[i]?=some x->∃ u,us[i]?=some u/\RelV x u
 | _,_,_,_,.nil,e=>by simp at e
 | _,_,0,_,.cons r _,e=>by simp at e;subst e;exact ⟨_,rfl,r⟩
 | _,_,i + 1,x,.cons _ t,e=>by
  obtain ⟨u,h1,h2⟩:=Vals.get (i:=i) (x:=x) t (by simpa using e)
  exact ⟨u,by simpa using h1,h2⟩
theorem Vals.set {x:V}{u:Value} (r:RelV x u):∀ {xs:List V}{us:List Value} (i:Nat),Vals xs us->Vals (xs.set i x) (us.set i u)
 | _,_,_,.nil=>.nil
 | _,_,0,.cons _ t=>.cons r t
 | _,_,i + 1,.cons q t=>.cons q (Vals.set r i t)
theorem Vals.append:∀ {xs ys:List V}{us ws:List Value},Vals xs us->Vals ys ws->Vals (xs++ys) (us++ws)
 | _,_,_,_,.nil,s=>s
 | _,_,_,_,.cons r t,s=>.cons r (Vals.append t s)
theorem Vals.take:∀ {xs:List V}{us:List Value} (n:Nat),Vals xs us->Vals (xs.take n) (us.take n)
 | _,_,0,_=>.nil
 | _,_,_ + 1,.nil=>.nil
 | _,_,n + 1,.cons r t=>.cons r (Vals.take n t)
theorem Vals.drop:∀ {xs:List V}{us:List Value} (n:Nat),Vals xs us->Vals (xs.drop n) (us.drop n)
 | _,_,0,r=>r
 | _,_,_ + 1,.nil=>.nil
 | _,_,n + 1,.cons _ t=>Vals.drop n t
def RelO:Option V->Option Value->Prop
 | some v,some u=>RelV v u
 | none,none=>True
 | _,_=>False
def KV {κ:Type}:List (κ×V)->List (κ×Value)->Prop:=Paired λ(p:κ×V) (q:κ×Value)=>p.1=q.1/\RelV p.2 q.2
def kV:Key->V
 | .inl i=>.int i
 | .inr x=>.str x
inductive HO where
  | lst (xs:List V)
  | tup (xs:List V)
  | dK (kvs:List (Key×V)) | dT (kvs:List (List Key×V))
  | set (S:Int->Bool) (n:Nat)
  | ins (C dx:Addr) (fs:List (Str×V))
  | own (x:Addr)
  | xd (fs:List (Str×V))
  | met (f x:Addr)
  | rng (lo hi:Int)
  | frz (o:Obj) (u:HO)
  | tbl (ps:Array Value)
  | ext (φ:Heap->Prop)
abbrev Hp:=Addr->Option HO
def upd (H:Hp) (a:Addr) (o:HO):Hp:=λb=>if b=a then some o else H b
theorem xC {H:Hp}{a:Addr}{o:HO}:upd H a o a=some o:=by unfold upd;rw [if_pos rfl]
theorem xH {H:Hp}{a b:Addr}{o:HO} (h:b≠a):upd H a o b=H b:=by unfold upd;rw [if_neg h]
theorem ne_of {H:Hp}{a b:Addr}{o u:HO} (h:H a=some o) (h':H b=some u) (d:o≠u):a≠b:=by
 intro e;subst e;rw [h] at h';exact d (Option.some.inj h')
theorem xF {H:Hp}{a b:Addr}{o:HO} (h:H a=some o) (h':H b=none):a≠b:=by
 intro e;subst e;rw [h] at h';cases h'
theorem new_bare {h:Heap}{o:Obj} (hf:o.isFreed=false:=by rfl) (hd:o.dict=none:=by rfl):∀ ob,(h.push o).get? h.objs.size=some ob->ob.dict=none:=λob e=>by
 rw [Heap.get?_push_size h hf] at e;cases e;exact hd
section
variable (P:Program) (w:World)
def ObjOk (H:Hp) (h:Heap) (a:Addr):HO->Prop
 | .lst xs=>xs.length<=sizeLine/\∃ (its:List Value) (n:Nat),Vals xs its/\h.get? a=some { cls:=.type "list", data:=.seq its.toArray n }
 | .tup xs=>(xs.length<=sizeLine/\∀ ob,h.get? a=some ob->ob.dict=none)/\∃ its:List Value,Vals xs its/\IsTup h a its.toArray
 | .dK kvs=>kvs.length<=sizeLine/\(a == sysModules)=false/\∃ vs,KV kvs vs/\h.DictOf (mixKind P w) a vs
 | .dT kvs=>kvs.length<=sizeLine/\(a == sysModules)=false/\∃ xs:List (List Key×Addr×Value),
   Paired (λ(p:List Key×V) (q:List Key×Addr×Value)=>p.1=q.1/\H q.2.1=some (.tup (p.1.map kV))/\RelV p.2 q.2.2) kvs xs /\
   ∃ o es ep,h.get? a=some o/\o.ExactDict/\o.data=.dict es ep/\es.toList=xs.map (entryOfKey (tupleKind (mixKind P w)))/\(xs.map (·.1)).Nodup
 | .set S n=>h.SetOf (intKind P w) a S n
 | .ins C dx fs=>H dx=some (.own a)/\fs.length<=1000/\dx≠a/\h.get? a=some (PySem.W.instObj C dx) /\
   ∃ mA,h.Ns1 dx mA/\(∀ f,RelO (fs.lookup f) (mA f))/\PySem.Within mA (fs.map (·.1))
 | .own _=>∃ o,h.get? a=some o
 | .xd fs=>∃ mA,h.Ns1 a mA/\∀ f,RelO (fs.lookup f) (mA f)
 | .rng lo hi=>∃ t u v,h.get? a=some { cls:=.type "range", data:=.fields #[.int lo t,.int hi u,.int 1 v] }
 | .frz o u=>h.get? a=some o/\ObjOk H h a u
 | .tbl ps=>h.get? a=some { cls:=.none,data:=.fields ps }
 | .met f x=>h.get? a=some (PySem.W.methodObj (.ref f) (.ref x))
 | .ext φ=>φ h/\(∃ o,h.get? a=some o)/\∀ h1 h2:Heap,φ h1->(∀ o,h1.get? a=some o->h2.get? a=some o)->φ h2
def HOk (H:Hp) (h:Heap):Prop:=∀ a o,H a=some o->ObjOk P w H h a o
end
section
variable {P:Program}{w:World}{H H':Hp}{h h':Heap}{a:Addr}{o:HO}
theorem ObjOk.lt (x:ObjOk P w H h a o):a < h.objs.size:=by
 cases o with
 | lst xs=>obtain ⟨_,_,_,_,e⟩:=x;exact Heap.lt_size e
 | tup xs=>obtain ⟨_,_,_,p⟩:=x;exact p.lt
 | dK kvs=>obtain ⟨_,_,_,_,o,_,_,e,_⟩:=x;exact Heap.lt_size e
 | dT kvs=>obtain ⟨_,_,_,_,o,_,_,e,_⟩:=x;exact Heap.lt_size e
 | set S n=>obtain ⟨o,_,_,_,e,_⟩:=x;exact Heap.lt_size e
 | ins C dx fs=>obtain ⟨_,_,_,e,_⟩:=x;exact Heap.lt_size e
 | own y=>obtain ⟨_,e⟩:=x;exact Heap.lt_size e
 | xd fs=>obtain ⟨_,⟨_,_,_,e,_⟩,_⟩:=x;exact Heap.lt_size e
 | rng lo hi=>obtain ⟨_,_,_,e⟩:=x;exact Heap.lt_size e
 | frz ob u=>obtain ⟨e,_⟩:=x;exact Heap.lt_size e
 | tbl ps=>exact Heap.lt_size (show h.get? a=some _ from x)
 | met f y=>exact Heap.lt_size (show h.get? a=some _ from x)
 | ext φ=>obtain ⟨_,⟨_,e⟩,_⟩:=x;exact Heap.lt_size e
theorem Paired.mapP {α β:Type}{F G:α->β->Prop}:∀ {l₁:List α}{l₂:List β},Paired F l₁ l₂->(∀ a b,F a b->G a b)->Paired G l₁ l₂
 | _,_,.nil,_=>.nil
 | _,_,.cons r t,f=>.cons (f _ _ r) (Paired.mapP t f)
theorem ObjOk.stay (x:ObjOk P w H h a o) (k:∀ b u,(b=a\/H b=some (.own a))->h.get? b=some u->h'.get? b=some u)
  (ho:∀ b,H b=some (.own a)->H' b=some (.own a)) (ht:∀ b xs,H b=some (.tup xs)->H' b=some (.tup xs)):ObjOk P w H' h' a o:=by
 induction o with
 | lst xs=>obtain ⟨z,its,n,r,e⟩:=x;exact ⟨z,its,n,r,k _ _ (.inl rfl) e⟩
 | tup xs=>obtain ⟨z,its,r,ob,e,c⟩:=x;exact ⟨⟨z.1,λob' e'=>by rw [k _ _ (.inl rfl) e] at e';cases e';exact z.2 _ e⟩,its,r,ob,k _ _ (.inl rfl) e,c⟩
 | dK kvs=>obtain ⟨z,y,vs,r,ob,es,ep,e,c⟩:=x;exact ⟨z,y,vs,r,ob,es,ep,k _ _ (.inl rfl) e,c⟩
 | dT kvs=>
  obtain ⟨z,y,xs,r,ob,es,ep,e,c⟩:=x
  exact ⟨z,y,xs,Paired.mapP r λp q z=>⟨z.1,ht _ _ z.2.1,z.2.2⟩,ob,es,ep,k _ _ (.inl rfl) e,c⟩
 | set S n=>obtain ⟨ob,es,ep,t,e,c⟩:=x;exact ⟨ob,es,ep,t,k _ _ (.inl rfl) e,c⟩
 | ins C dx fs=>
  obtain ⟨d,z,ne,e,mA,⟨od,es,ep,e2,c⟩,r⟩:=x
  exact ⟨ho _ d,z,ne,k _ _ (.inl rfl) e,mA,⟨od,es,ep,k _ _ (.inr d) e2,c⟩,r⟩
 | own y=>obtain ⟨ob,e⟩:=x;exact ⟨ob,k _ _ (.inl rfl) e⟩
 | xd fs=>obtain ⟨mA,⟨od,es,ep,e,c⟩,r⟩:=x;exact ⟨mA,⟨od,es,ep,k _ _ (.inl rfl) e,c⟩,r⟩
 | rng lo hi=>obtain ⟨t,u,v,e⟩:=x;exact ⟨t,u,v,k _ _ (.inl rfl) e⟩
 | frz ob u ih=>obtain ⟨e,q⟩:=x;exact ⟨k _ _ (.inl rfl) e,ih q⟩
 | tbl ps=>
  have e:h.get? a=some { cls:=.none,data:=.fields ps }:=x
  show h'.get? a=some { cls:=.none,data:=.fields ps }
  exact k a _ (.inl rfl) e
 | met f y=>
  have e:h.get? a=some (PySem.W.methodObj (.ref f) (.ref y)):=x
  show h'.get? a=some (PySem.W.methodObj (.ref f) (.ref y))
  exact k a _ (.inl rfl) e
 | ext φ=>obtain ⟨p,⟨o,e⟩,st⟩:=x;exact ⟨st _ _ p λo q=>k _ _ (.inl rfl) q,⟨o,k _ _ (.inl rfl) e⟩,st⟩
theorem HOk.lt (x:HOk P w H h) (e:H a=some o):a < h.objs.size:=(x a o e).lt
theorem HOk.fresh (x:HOk P w H h) (e:h.objs.size<=a):H a=none:=by
 cases q:H a with
 | none=>rfl
 | some u=>exact absurd (zQ (x.lt q) e) (zw _)
theorem HOk.kept (x:HOk P w H h) (k:∀ b u,h.get? b=some u->h'.get? b=some u):HOk P w H h':=λa o e=>
 (x a o e).stay (λb u _ q=>k b u q) (λ_ q=>q) λ_ _ q=>q
theorem HOk.laid (x:HOk P w H h) (k:∀ b u,h.get? b=some u->h'.get? b=some u) (hp:h.objs.size<=a) (new:ObjOk P w (upd H a o) h' a o):HOk P w (upd H a o) h':=λb u e=>by
 have hn:=x.fresh hp
 by_cases hb:b=a
 ·subst hb;rw [xC] at e;cases e;exact new
 ·rw [xH hb] at e
  exact (x b u e).stay (λc v _ q=>k c v q) (λc q=>by rw [xH (xF q hn)];exact q) λc xs q=>by rw [xH (xF q hn)];exact q
end
def Rd (H:Hp) (a:Addr) (u:HO):Prop:=H a=some u\/∃ o,H a=some (.frz o u)
theorem Rd.ok {P:Program}{w:World}{H:Hp}{h:Heap}{a:Addr}{u:HO} (r:Rd H a u) (x:HOk P w H h):ObjOk P w H h a u:=by
 rcases r with r | ⟨o,r⟩
 ·exact x a u r
 ·obtain ⟨_,q⟩:=x a _ r
  exact q
def Mut:Option HO->Prop
 | some (.lst _)=>True
 | some (.dK _)=>True
 | some (.dT _)=>True
 | some (.set _ _)=>True
 | some (.ins _ _ _)=>True
 | some (.ext _)=>True
 | _=>False
section
variable {P:Program}{w:World}{H:Hp}{h h':Heap}{x e:Addr}{o':HO}
theorem HOk.write (ok:HOk P w H h) (mu:Mut (H x)) (he:e=x\/H e=some (.own x)) (k:∀ b u,b≠e->h.get? b=some u->h'.get? b=some u) (heo:∃ u,h'.get? e=some u)
  (new:ObjOk P w (upd H x o') h' x o'):HOk P w (upd H x o') h':=λb u q=>by
 have nown:∀ c y,H c=some (.own y)->c≠x:=λc y r z=>by subst z;rw [r] at mu;exact mu
 have ntup:∀ c xs,H c=some (.tup xs)->c≠x:=λc xs r z=>by subst z;rw [r] at mu;exact mu
 by_cases hb:b=x
 ·subst hb;rw [xC] at q;cases q;exact new
 ·rw [xH hb] at q
  by_cases hbe:b=e
  ·have q':H b=some (.own x):=by
    rcases he with z | z
    ·exact absurd (hbe.trans z) hb
    ·rw [hbe];exact z
   rw [q] at q';cases q'
   obtain ⟨v,hv⟩:=heo
   exact ⟨v,by rw [hbe];exact hv⟩
  ·refine (ok b u q).stay (λc v hc r=>k c v ?_ r) (λc r=>by rw [xH (nown c b r)];exact r) λc xs r=>by rw [xH (ntup c xs r)];exact r
   rcases hc with rfl | hc
   ·exact hbe
   ·rintro rfl
    rcases he with z | z
    ·exact nown c b hc z
    ·rw [hc] at z;cases z;exact hb rfl
end
structure Un (fs ex:List Addr) (H H':Hp) (h h':Heap):Prop where
 keep:∀ b o,h.get? b=some o->H b=none->b ∉ fs->b ∉ ex->h'.get? b=some o
 slot:∀ b o,h.get? b=some o->H b=none->b∈fs->b ∉ ex->∃ sl,h'.get? b=some { o with slots:=sl }
 free:∀ b o,h.get? b=some o->H b=none->b ∉ ex->H' b=none
 there:∀ b o,h.get? b=some o->b ∉ ex->∃ o',h'.get? b=some o'
 tups:∀ b xs,H b=some (.tup xs)->H' b=some (.tup xs)
 frzs:∀ b o u,H b=some (.frz o u)->H' b=some (.frz o u)
 tbls:∀ b ps,H b=some (.tbl ps)->∃ more,H' b=some (.tbl (ps++more))
section
variable {fs fs' ex ex':List Addr} {H H1 H2:Hp} {h h1 h2 h':Heap}{a x e:Addr}{o:HO}
theorem Un.any (u:Un fs ex H H1 h h1) {b:Addr}{ob:Obj} (q:h.get? b=some ob) (n:H b=none) (hx:b ∉ ex):∃ sl,h1.get? b=some { ob with slots:=sl }:=by
 by_cases hb:b∈fs
 ·exact u.slot b ob q n hb hx
 ·exact ⟨ob.slots,u.keep b ob q n hb hx⟩
theorem Un.kept (k:∀ b u,h.get? b=some u->h'.get? b=some u):Un fs ex H H h h':=
 ⟨λb ob q _ _ _=>k b ob q,λb ob q _ _ _=>⟨ob.slots,k b ob q⟩,λ_ _ _ n _=>n,λb ob q _=>⟨ob,k b ob q⟩,λ_ _ q=>q,λ_ _ _ q=>q,λ_ ps q=>⟨#[],by rw [q];simp⟩⟩
theorem Un.refl:Un fs ex H H h h:=Un.kept λ_ _ q=>q
theorem Un.laid (k:∀ b u,h.get? b=some u->h'.get? b=some u) (hp:h.objs.size<=a) (hn:H a=none):Un fs ex H (upd H a o) h h' where
 keep:=λb u q _ _ _=>k b u q
 slot:=λb u q _ _ _=>⟨u.slots,k b u q⟩
 free:=λb u q n _=>by rw [xH (zW (zQ (Heap.lt_size q) hp))];exact n
 there:=λb u q _=>⟨u,k b u q⟩
 tups:=λb xs q=>by rw [xH (xF q hn)];exact q
 frzs:=λb u xs q=>by rw [xH (xF q hn)];exact q
 tbls:=λb ps q=>⟨#[],by rw [xH (xF q hn),q];simp⟩
theorem Un.write (mu:Mut (H x)) (he:e=x\/H e=some (.own x)) (k:∀ b u,b≠e->h.get? b=some u->h'.get? b=some u) (heo:∃ u,h'.get? e=some u):Un fs ex H (upd H x o) h h':=by
 have hx:∀ b,H b=none->b≠x:=λb n z=>by subst z;rw [n] at mu;exact mu
 have hb:∀ b,H b=none->b≠e:=λb n z=>by
  subst z
  rcases he with r | r
  ·exact hx b n r
  ·rw [n] at r;cases r
 have hm:∀ b u,H b=some u->¬ Mut (some u)->b≠x:=λb u q nm z=>by subst z;rw [q] at mu;exact nm mu
 refine ⟨λb u q n _ _=>k b u (hb b n) q,λb u q n _ _=>⟨u.slots,k b u (hb b n) q⟩,λb u q n _=>by rw [xH (hx b n)];exact n,λb u q _=>?_,
  λb xs q=>by rw [xH (hm b _ q λz=>z)];exact q,λb u xs q=>by rw [xH (hm b _ q λz=>z)];exact q,λb ps q=>⟨#[],by rw [xH (hm b _ q λz=>z),q];simp⟩⟩
 by_cases hbe:b=e
 ·subst hbe;exact heo
 ·exact ⟨u,k b u hbe q⟩
end
def trk (h:Heap) (H:Hp):List Addr:=(List.range h.objs.size).filter λa=>(H a).isSome
def hidT (h:Heap) (H:Hp):Heap:=PySem.W.hideAll h (trk h H)
theorem hidT_size (h:Heap) (H:Hp):(hidT h H).objs.size=h.objs.size:=PySem.W.hideAll_size _ _
theorem hidT_get {h:Heap}{H:Hp}{b:Addr}{o:Obj} (e:h.get? b=some o) (n:H b=none):(hidT h H).get? b=some o:=
 PySem.W.hideAll_get _ e λhm=>by
  have q:(H b).isSome=true:=(List.mem_filter.mp hm).2
  rw [n] at q;simp at q
theorem of_hidT {h:Heap}{H:Hp}{b:Addr}{o:Obj} (e:(hidT h H).get? b=some o):h.get? b=some o/\H b=none:=by
 have e':h.get? b=some o:=PySem.W.of_hideAll (trk h H) e
 refine ⟨e',?_⟩
 cases q:H b with
 | none=>rfl
 | some x=>
  have hm:b∈trk h H:=List.mem_filter.mpr ⟨zk.mpr (Heap.lt_size e'),by simp [q]⟩
  have z:(hidT h H).get? b=none:=PySem.W.hideAll_none (trk h H) hm
  rw [z] at e;cases e
def allNews (g h:Heap) (L:Addr):List (Addr×Obj):=(List.range h.objs.size).filterMap λa=>if a=L\/(g.get? a).isSome=true then none else (h.get? a).map λo=>(a,o)
theorem mem_allNews {g h:Heap}{L a:Addr}{o:Obj} (h1:a≠L) (h2:g.get? a=none) (h3:h.get? a=some o):(a,o)∈allNews g h L:=
 yO.mpr ⟨a,zk.mpr (Heap.lt_size h3),by simp [h1,h2,h3]⟩
theorem of_mem_allNews {g h:Heap}{L:Addr}{p:Addr×Obj} (hp:p∈allNews g h L):p.1≠L/\g.get? p.1=none/\h.get? p.1=some p.2:=by
 obtain ⟨b,_,e⟩:=yO.mp hp
 split at e
 ·cases e
 ·rename_i hn
  cases q:h.get? b with
  | none=>rw [q] at e;simp at e
  | some u=>
   rw [q] at e
   simp only [Option.map_some,Option.some.injEq] at e
   subst e
   refine ⟨λz=>hn (.inl z),?_,q⟩
   show g.get? b=none
   cases r:g.get? b with
   | none=>rfl
   | some v=>exact (hn (.inr (by simp [r]))).elim
theorem news_all {g h:Heap}{L:Addr}:News g L h (allNews g h L):=λp hp=>let ⟨a,b,c⟩:=of_mem_allNews hp;⟨c,a,b⟩
end L2
namespace L2
open PySem PySem.Spec PyProof.Rows
structure Mod (K:PySem.W.Frag) (mg:Str->Option Value) (base:Heap):Prop where
 kin:K.In base
 glob:base.Ns mainGlobals mg
 blt:∃ mb,base.Ns builtinsNs mb/\∀ x:Str,x ≠ "__name__" -> mb x=bootBuiltins x
 nolimit:base.NoLimit
structure Cx where
 prog:Program
 w:World
 K:PySem.W.Frag
 mg:Str->Option Value
 base:Heap
 A:Around
 N:List Str
 s₀:Shared
 H₀:Hp
 env:Env
 outer:List Env
 stack:List Env
 ex:List Addr
 fn:Str->Bool
 calm:Bool
 pn:List (Addr×Obj)
 xe:Value->Shared->Prop
def frs (l:List Env):List Addr:=l.filterMap (·.frame)
abbrev Cx.fs (X:Cx):List Addr:=frs X.outer
def Vis (sc:Scope) (x:Str):Prop:=sc.names.lookup x=some .local\/sc.names.lookup x=some .cell\/sc.names.lookup x=some .free
def Loc (sc:Scope) (x:Str):Prop:=sc.names.lookup x=some .local\/sc.names.lookup x=some .cell
def Look (env:Env) (h:Heap) (m:Str->Option Value) (x:Str) (u:Value):Prop:=
 (env.kindOf x=some .local/\m x=some u)\/((env.kindOf x=some .cell\/env.kindOf x=some .free)/\∃ c,env.cells.lookup x=some c/\h.IsCell c (some u))
structure Cx.Ok (X:Cx):Prop where
 mod:Mod X.K X.mg X.base
 kind:X.env.scope.kind=.function
 glob:X.env.globals=mainGlobals
 blt:X.env.builtins=builtinsNs
 above:X.s₀.heap.objs.size<=X.env.locals
 inj:∀ x y c,X.env.cells.lookup x=some c->X.env.cells.lookup y=some c->x=y
 has:∀ x,(X.env.kindOf x=some .cell\/X.env.kindOf x=some .free)->∃ c,X.env.cells.lookup x=some c
 cab:∀ x c,X.fn x=true->X.env.cells.lookup x=some c->X.s₀.heap.objs.size<=c
 hd:X.calm=true->X.A.handled=none
 frames:X.A.frames=some X.stack
 stk:X.stack=X.outer\/(X.stack=X.env::X.outer/\X.env.frame=some X.env.locals)
 exf:∀ b∈X.ex,b≠X.env.locals/\∀ x c,X.env.cells.lookup x=some c->c≠b
 bs:∀ b o,X.base.get? b=some o->X.s₀.heap.get? b=some o/\X.H₀ b=none
 bsz:X.base.objs.size<=X.s₀.heap.objs.size
 noex:∀ b o,X.base.get? b=some o->b ∉ X.ex
 exfs:∀ b∈X.ex,b ∉ X.fs
 funs:X.s₀.heap.FunFrames X.base X.outer
 frf:∀ b∈X.fs,X.H₀ b=none
structure Inv (X:Cx) (pins:List (Addr×Obj)) (σ:List (Option V)) (H:Hp) (s:Shared):Prop where
 ok:X.Ok
 os:s.os=X.s₀.os
 bare:AllBare s.gens
 base:Un X.fs X.ex X.H₀ H X.s₀.heap s.heap
 loc:∃ m,s.heap.Ns X.env.locals m/\∀ (i:Nat) (x:Str) (v:V),X.N[i]?=some x->σ[i]?=some (some v)->Vis X.env.scope x->∃ u,RelV v u/\Look X.env s.heap m x u
 cell:∀ x c,X.env.cells.lookup x=some c->∃ v,s.heap.IsCell c v
 free:H X.env.locals=none
 freeC:∀ x c,X.env.cells.lookup x=some c->H c=none
 pin:∀ p∈X.pn++pins,s.heap.get? p.1=some p.2/\H p.1=none/\p.1≠X.env.locals/\p.1 ∉ X.fs/\∀ v,p.2.data≠.cell v
 hok:HOk X.prog X.w H s.heap
 len:σ.length=X.N.length
section
variable {X:Cx}{pins:List (Addr×Obj)}{σ:List (Option V)}{H H':Hp}{s:Shared}{h':Heap}
theorem Cx.Ok.nofr (ok:X.Ok) {b:Addr}{o:Obj} (e:X.base.get? b=some o):b ∉ X.fs:=λhb=>by
 have:=(ok.funs.mem hb).1
 rw [e] at this;cases this
theorem Inv.bs (I:Inv X pins σ H s):∀ b o,X.base.get? b=some o->s.heap.get? b=some o/\H b=none:=λb o e=>
 ⟨I.base.keep b o (I.ok.bs b o e).1 (I.ok.bs b o e).2 (I.ok.nofr e) (I.ok.noex b o e),I.base.free b o (I.ok.bs b o e).1 (I.ok.bs b o e).2 (I.ok.noex b o e)⟩
theorem Inv.bk (I:Inv X pins σ H s):∀ b o,X.base.get? b=some o->s.heap.get? b=some o:=λb o e=>(I.bs b o e).1
theorem Inv.mod (I:Inv X pins σ H s):Mod X.K X.mg X.base:=I.ok.mod
theorem Inv.kIn (I:Inv X pins σ H s):X.K.In s.heap:=I.ok.mod.kin.keeps I.bk
theorem Inv.fr (I:Inv X pins σ H s):∃ m,Fr X.base X.env.locals s.heap m:=
 let ⟨m,hn,_⟩:=I.loc
 ⟨m,hn,I.bk,zj I.ok.bsz I.ok.above⟩
theorem Inv.lt (I:Inv X pins σ H s):X.env.locals < s.heap.objs.size:=let ⟨_,hn,_⟩:=I.loc;hn.lt
theorem Inv.sz (I:Inv X pins σ H s):X.s₀.heap.objs.size<=s.heap.objs.size:=zj I.ok.above (yz I.lt)
theorem Inv.nofs (I:Inv X pins σ H s) {a:Addr} (h:s.heap.objs.size<=a):a ∉ X.fs:=λhb=>by
 obtain ⟨_,o,ho,_⟩:=I.ok.funs.mem hb
 exact absurd (zQ (Heap.lt_size ho) (zj I.sz h)) (zw _)
theorem Inv.cne (I:Inv X pins σ H s):∀ x c,X.env.cells.lookup x=some c->c≠X.env.locals:=λx c e z=>by
 obtain ⟨v,o,ho,hd⟩:=I.cell x c e
 obtain ⟨m,⟨o',es,ep,ho',hd',_⟩,_⟩:=I.loc
 rw [z,ho'] at ho;cases ho;rw [hd'] at hd;cases hd
theorem Inv.funs (I:Inv X pins σ H s):s.heap.FunFrames X.base X.outer:=by
 have all:∀ (l:List Env),(∀ b∈frs l,b∈X.fs)->X.s₀.heap.FunFrames X.base l->s.heap.FunFrames X.base l:=by
  intro l
  induction l with
  | nil=>intro _ _;trivial
  | cons env r ih=>
   intro hs hl
   obtain ⟨hk,⟨L,o,hf,hn,ho,hd⟩,hr⟩:=hl
   have hL:L∈X.fs:=hs L (by unfold frs;rw [yn,hf];exact zd)
   obtain ⟨sl,e⟩:=I.base.slot L o ho (I.ok.frf L hL) hL λz=>I.ok.exfs L z hL
   exact ⟨hk,⟨L,_,hf,hn,e,hd⟩,ih (λb hb=>hs b (by unfold frs;rw [yn,hf];exact zb _ hb)) hr⟩
 exact all X.outer (λ_ hb=>hb) I.ok.funs
theorem Inv.stack (I:Inv X pins σ H s):s.heap.FunFrames X.base X.stack:=by
 rcases I.ok.stk with e | ⟨e,hf⟩
 ·rw [e];exact I.funs
 ·rw [e]
  obtain ⟨m,hn,_⟩:=I.loc
  refine .cons (by rw [I.ok.kind];decide) hf hn ?_ I.funs
  exact Heap.get?_none_of_le (zj I.ok.bsz I.ok.above)
theorem Inv.stkSub (I:Inv X pins σ H s):∀ b∈frs X.stack,b∈X.env.locals::X.fs:=λb hb=>by
 rcases I.ok.stk with e | ⟨e,hf⟩
 ·rw [e] at hb;exact zb _ hb
 ·rw [e] at hb
  unfold frs at hb
  rw [yn,hf] at hb
  exact hb
theorem Inv.stkFree (I:Inv X pins σ H s):∀ b∈frs X.stack,H b=none:=λb hb=>by
 rcases zH.mp (I.stkSub b hb) with e | hb
 ·rw [e];exact I.free
 ·obtain ⟨_,o,ho,_⟩:=I.ok.funs.mem hb
  exact I.base.free b o ho (I.ok.frf b hb) λz=>I.ok.exfs b z hb
theorem Inv.step {g':Array GenState}{t':Nat}{d':Drawn}{ch:List Addr} (I:Inv X pins σ H s)
  (hch:∀ b∈ch,(b∈X.ex\/X.s₀.heap.objs.size<=b)/\b≠X.env.locals/\(∀ x c,X.env.cells.lookup x=some c->c≠b)/\∀ p∈X.pn++pins,p.1≠b)
  (keep:∀ b o,b≠X.env.locals->b ∉ X.fs->b ∉ ch->s.heap.get? b=some o->H b=none->h'.get? b=some o)
  (slot:∀ b o,b≠X.env.locals->b∈X.fs->b ∉ ch->s.heap.get? b=some o->H b=none->∃ sl,h'.get? b=some { o with slots:=sl }) (free:∀ b o,b ∉ ch->s.heap.get? b=some o->H b=none->H' b=none)
  (there:∀ b o,b ∉ ch->s.heap.get? b=some o->∃ o',h'.get? b=some o')
  (tups:∀ b xs,H b=some (.tup xs)->H' b=some (.tup xs)) (frzs:∀ b o u,H b=some (.frz o u)->H' b=some (.frz o u)) (tbls:∀ b ps,H b=some (.tbl ps)->∃ more,H' b=some (.tbl (ps++more)))
  (ns:∀ m,s.heap.Ns X.env.locals m->h'.Ns X.env.locals m) (hok:HOk X.prog X.w H' h') (hg:AllBare g') :
  Inv X pins σ H' { s with heap:=h',gens:=g',drawn:=d',toks:=t' }:=by
 have neL:∀ b o,X.s₀.heap.get? b=some o->b≠X.env.locals:=λb o e=>zW (zQ (Heap.lt_size e) I.ok.above)
 have neC:∀ b o,X.s₀.heap.get? b=some o->b ∉ X.ex->b ∉ ch:=λb o e hx hb=>by
  rcases (hch b hb).1 with z | z
  ·exact hx z
  ·exact absurd (zQ (Heap.lt_size e) z) (zw _)
 have cellK:∀ x c,X.env.cells.lookup x=some c->∀ v,s.heap.IsCell c v->h'.IsCell c v:=λx c e v ⟨o,ho,hd⟩=>by
  have nch:c ∉ ch:=λz=>(hch c z).2.2.1 x c e rfl
  by_cases hc:c∈X.fs
  ·obtain ⟨sl,q⟩:=slot c o (I.cne x c e) hc nch ho (I.freeC x c e)
   exact ⟨_,q,hd⟩
  ·exact ⟨o,keep c o (I.cne x c e) hc nch ho (I.freeC x c e),hd⟩
 refine ⟨I.ok,I.os,hg,⟨λb o e n hb hx=>?_,λb o e n hb hx=>?_,λb o e n hx=>?_,λb o e hx=>?_,λb xs e=>tups b xs (I.base.tups b xs e),λb o xs e=>frzs b o xs (I.base.frzs b o xs e),λb ps e=>?_⟩,?_,λx c e=>?_,?_,λx c e=>?_,λp hp=>?_,hok,I.len⟩
 ·exact keep b o (neL b o e) hb (neC b o e hx) (I.base.keep b o e n hb hx) (I.base.free b o e n hx)
 ·obtain ⟨sl,e1⟩:=I.base.slot b o e n hb hx
  obtain ⟨sl',e2⟩:=slot b _ (neL b o e) hb (neC b o e hx) e1 (I.base.free b o e n hx)
  exact ⟨sl',e2⟩
 ·obtain ⟨o',e1⟩:=I.base.there b o e hx
  exact free b o' (neC b o e hx) e1 (I.base.free b o e n hx)
 ·obtain ⟨o',e1⟩:=I.base.there b o e hx
  exact there b o' (neC b o e hx) e1
 ·obtain ⟨m1,e1⟩:=I.base.tbls b ps e
  obtain ⟨m2,e2⟩:=tbls b _ e1
  exact ⟨m1++m2,by rw [e2,Array.append_assoc]⟩
 ·obtain ⟨m,hn,hl⟩:=I.loc
  refine ⟨m,ns m hn,λi x v e1 e2 e3=>?_⟩
  obtain ⟨u,r,l⟩:=hl i x v e1 e2 e3
  refine ⟨u,r,?_⟩
  rcases l with l | ⟨k,c,e,z⟩
  ·exact .inl l
  ·exact .inr ⟨k,c,e,cellK x c e _ z⟩
 ·obtain ⟨v,z⟩:=I.cell x c e
  exact ⟨v,cellK x c e v z⟩
 ·obtain ⟨m,⟨o,_,_,ho,_⟩,_⟩:=I.loc
  exact free _ o (λz=>(hch _ z).2.1 rfl) ho I.free
 ·obtain ⟨v,o,ho,hd⟩:=I.cell x c e
  exact free c o (λz=>(hch c z).2.2.1 x c e rfl) ho (I.freeC x c e)
 ·obtain ⟨e,n,ne,nf,d⟩:=I.pin p hp
  have nch:p.1 ∉ ch:=λz=>(hch p.1 z).2.2.2 p hp rfl
  exact ⟨keep p.1 p.2 ne nf nch e n,free p.1 p.2 nch e n,ne,nf,d⟩
theorem Inv.un {t':Nat} (I:Inv X pins σ H s) (u:Un X.fs [] H H' s.heap h') (hok:HOk X.prog X.w H' h'):Inv X pins σ H' { s with heap:=h',toks:=t' }:=by
 obtain ⟨m,⟨o,es,ep,ho,r⟩,_⟩:=id I.loc
 obtain ⟨sl,hL⟩:=u.any ho I.free (by simp)
 exact I.step (g':=s.gens) (d':=s.drawn) (ch:=[]) (λ_ z=>nomatch z) (λb o _ hb _ e n=>u.keep b o e n hb (by simp)) (λb o _ hb _ e n=>u.slot b o e n hb (by simp)) (λb o _ e n=>u.free b o e n (by simp)) (λb o _ e=>u.there b o e (by simp)) u.tups u.frzs u.tbls (λm' hm=>by
  obtain ⟨o',es',ep',ho',r'⟩:=hm
  rw [ho] at ho';cases ho'
  exact ⟨_,es',ep',hL,r'⟩) hok I.bare
theorem Inv.call {g':Array GenState}{t':Nat}{d':Drawn}{ch:List Addr} (I:Inv X pins σ H s) (u:Un (frs X.stack) ch H H' s.heap h') (hok:HOk X.prog X.w H' h') (hg:AllBare g')
  (hch:∀ b∈ch,(b∈X.ex\/X.s₀.heap.objs.size<=b)/\b≠X.env.locals/\(∀ x c,X.env.cells.lookup x=some c->c≠b)/\∀ p∈X.pn++pins,p.1≠b) :
  Inv X pins σ H' { s with heap:=h',gens:=g',drawn:=d',toks:=t' }:=by
 obtain ⟨m,⟨o,es,ep,ho,r⟩,_⟩:=id I.loc
 obtain ⟨sl,hL⟩:=u.any ho I.free λz=>(hch _ z).2.1 rfl
 exact I.step (ch:=ch) hch (λb o hL hb hc e n=>u.keep b o e n (λz=>(zH.mp (I.stkSub b z)).elim hL hb) hc) (λb o _ _ hc e n=>u.any e n hc) (λb o hc e n=>u.free b o e n hc) (λb o hc e=>u.there b o e hc) u.tups u.frzs u.tbls (λm' hm=>by
  obtain ⟨o',es',ep',ho',r'⟩:=hm
  rw [ho] at ho';cases ho'
  exact ⟨_,es',ep',hL,r'⟩) hok hg
theorem Inv.turned {t':Nat}{it:Addr} (I:Inv X pins σ H s) (k:∀ b o,b≠it->s.heap.get? b=some o->h'.get? b=some o) (hn:H it=none) (hL:it≠X.env.locals)
  (h1:it∈X.ex\/X.s₀.heap.objs.size<=it) (h2:∀ x c,X.env.cells.lookup x=some c->c≠it) (h3:∀ p∈X.pn++pins,p.1≠it):Inv X pins σ H { s with heap:=h',toks:=t' }:=by
 have nit:∀ b u,H b=some u->b≠it:=λb u e z=>by rw [z,hn] at e;cases e
 refine I.step (g':=s.gens) (d':=s.drawn) (ch:=[it]) (λb hb=>?_) (λb o _ _ hc e _=>k b o (λz=>hc (by simp [z])) e) (λb o _ _ hc e _=>⟨o.slots,k b o (λz=>hc (by simp [z])) e⟩) (λ_ _ _ _ n=>n)
  (λb o hc e=>⟨o,k b o (λz=>hc (by simp [z])) e⟩) (λ_ _ e=>e) (λ_ _ _ e=>e) (λb ps e=>⟨#[],by rw [e];simp⟩) (λm hm=>?_) (λb u e=>?_) I.bare
 ·have e:b=it:=by simpa using hb
  subst e
  exact ⟨h1,hL,h2,h3⟩
 ·obtain ⟨o,es,ep,ho,r⟩:=hm
  exact ⟨o,es,ep,k _ o (Ne.symm hL) ho,r⟩
 ·refine (I.hok b u e).stay (λc v hc q=>k c v ?_ q) (λ_ q=>q) λ_ _ q=>q
  rcases hc with z | z
  ·rw [z];exact nit b u e
  ·exact nit c _ z
theorem Inv.tok (I:Inv X pins σ H s) (t:Nat):Inv X pins σ H { s with toks:=t }:=I.un (h':=s.heap) (t':=t) Un.refl I.hok
theorem Inv.kept {t':Nat} (I:Inv X pins σ H s) (k:∀ b u,s.heap.get? b=some u->h'.get? b=some u):Inv X pins σ H { s with heap:=h',toks:=t' }:=I.un (Un.kept k) (I.hok.kept k)
theorem Inv.laid {a:Addr}{o:HO}{t':Nat} (I:Inv X pins σ H s) (k:∀ b u,s.heap.get? b=some u->h'.get? b=some u) (hp:s.heap.objs.size<=a) (new:ObjOk X.prog X.w (upd H a o) h' a o) :
  Inv X pins σ (upd H a o) { s with heap:=h',toks:=t' }:=I.un (Un.laid k hp (I.hok.fresh hp)) (I.hok.laid k hp new)
theorem Inv.write {x e:Addr}{o:HO}{t':Nat} (I:Inv X pins σ H s) (mu:Mut (H x)) (he:e=x\/H e=some (.own x)) (k:∀ b u,b≠e->s.heap.get? b=some u->h'.get? b=some u) (heo:∃ u,h'.get? e=some u)
  (new:ObjOk X.prog X.w (upd H x o) h' x o):Inv X pins σ (upd H x o) { s with heap:=h',toks:=t' }:=I.un (Un.write mu he k heo) (I.hok.write mu he k heo new)
theorem Inv.pins_of {pins':List (Addr×Obj)} (I:Inv X pins σ H s) (h:∀ p∈pins',s.heap.get? p.1=some p.2/\H p.1=none/\p.1≠X.env.locals/\p.1 ∉ X.fs/\∀ v,p.2.data≠.cell v):Inv X pins' σ H s:=
 ⟨I.ok,I.os,I.bare,I.base,I.loc,I.cell,I.free,I.freeC,λp hp=>(zZ.mp hp).elim (λz=>I.pin p (yi _ z)) (h p),I.hok,I.len⟩
theorem nodup_ix {N:List Str} (hN:N.Nodup) {i j:Nat}{x:Str} (a:N[i]?=some x) (b:N[j]?=some x):i=j:=by
 obtain ⟨h1,e1⟩:=zT.mp a
 obtain ⟨h2,e2⟩:=zT.mp b
 exact (List.getElem_inj hN).mp (e1.trans e2.symm)
def locB (sc:Scope) (x:Str):Bool:=match sc.names.lookup x with | some .local=>true | some .cell=>true | _=>false
theorem locB_of {sc:Scope}{x:Str} (h:locB sc x=true):Loc sc x:=by
 unfold locB at h;unfold Loc
 revert h
 cases sc.names.lookup x with
 | none=>intro h;cases h
 | some k=>cases k <;> intro h <;> first | exact .inl rfl | exact .inr rfl | cases h
def fnLoc (X:Cx) (x:Str):Bool:=X.fn x || (match X.env.scope.names.lookup x with | some .local=>true | _=>false)
theorem fnLoc_or {X:Cx}{x:Str} (h:fnLoc X x=true):X.fn x=true\/X.env.scope.names.lookup x=some .local:=by
 unfold fnLoc at h
 cases e:X.fn x with
 | true=>exact .inl rfl
 | false=>
  rw [e,Bool.false_or] at h
  revert h
  cases X.env.scope.names.lookup x with
  | none=>intro h;cases h
  | some k=>cases k <;> intro h <;> first | exact .inr rfl | cases h
def visB (sc:Scope) (x:Str):Bool:=match sc.names.lookup x with | some .local=>true | some .cell=>true | some .free=>true | _=>false
theorem visB_of {sc:Scope}{x:Str} (h:visB sc x=true):Vis sc x:=by
 unfold visB at h;unfold Vis
 revert h
 cases sc.names.lookup x with
 | none=>intro h;cases h
 | some k=>cases k <;> intro h <;> first | exact .inl rfl | exact .inr (.inl rfl) | exact .inr (.inr rfl) | cases h
theorem store_ok2 {M:Model}{A:Around}{E:Value->Shared->Prop}{i:Nat}{x:Str}{v:V}{u:Value}{Q:Unit->Shared->Prop} (I:Inv X pins σ H s) (hN:X.N.Nodup) (hi:X.N[i]?=some x) (hx:Loc X.env.scope x) (r:RelV v u)
  (h:∀ s',Inv X pins (σ.set i (some v)) H s'->(∃ a,Heap.SameBut a s.heap s'.heap/\(a=X.env.locals\/X.env.cells.lookup x=some a))->Q () s') (hf:fnLoc X x=true:=by rfl):wpAny M A (storeName X.env x u) Q E s:=by
 have hf:=fnLoc_or hf
 obtain ⟨m,hn,hl⟩:=id I.loc
 have hcls:(X.env.scope.kind == .class || (X.env.scope.kind == .module && X.env.locals != X.env.globals))=false:=by rw [I.ok.kind];rfl
 have hiσ:i < σ.length:=by rw [I.len];exact (zT.mp hi).1
 have cne:=I.cne
 have tracked:∀ {a:Addr}{h':Heap},(∃ o,s.heap.get? a=some o/\H a=none)->Heap.SameBut a s.heap h'->HOk X.prog X.w H h':=λ{a h'} ha hs b ob e=>by
  obtain ⟨_,_,hfree⟩:=ha
  refine (I.hok b ob e).stay (λc w' hc q=>(hs.2 c ?_).trans q) (λ_ q=>q) λ_ _ q=>q
  rintro rfl
  rcases hc with rfl | hc
  ·rw [hfree] at e;cases e
  ·rw [hfree] at hc;cases hc
 rcases hx with hk | hk
 ·refine wpAny_storeName_local hk hn (λh' hn' hs=>?_) hcls
  obtain ⟨oL,_,_,hoL,_⟩:=id hn
  refine h _ ⟨I.ok,I.os,I.bare,⟨λb o e n hb hx=>?_,λb o e n hb hx=>?_,I.base.free,λb o e hx=>?_,I.base.tups,I.base.frzs,I.base.tbls⟩,⟨_,hn',λj y v' e1 e2 e3=>?_⟩,λy c e=>?_,I.free,I.freeC,λp hp=>?_,tracked ⟨oL,hoL,I.free⟩ hs,by simpa using I.len⟩ ⟨_,hs,.inl rfl⟩
  ·exact (hs.2 b (zW (zQ (Heap.lt_size e) I.ok.above))).trans (I.base.keep b o e n hb hx)
  ·obtain ⟨sl,e1⟩:=I.base.slot b o e n hb hx
   exact ⟨sl,(hs.2 b (zW (zQ (Heap.lt_size e) I.ok.above))).trans e1⟩
  ·obtain ⟨o',e1⟩:=I.base.there b o e hx
   exact ⟨o',(hs.2 b (zW (zQ (Heap.lt_size e) I.ok.above))).trans e1⟩
  ·by_cases hj:j=i
   ·subst hj
    rw [hi] at e1;cases e1
    rw [List.getElem?_set_self hiσ] at e2
    cases e2
    exact ⟨u,r,.inl ⟨hk,by simp⟩⟩
   ·rw [List.getElem?_set_ne (Ne.symm hj)] at e2
    obtain ⟨u',r',q⟩:=hl j y v' e1 e2 e3
    refine ⟨u',r',?_⟩
    rcases q with ⟨k,e⟩ | ⟨k,c,e,z⟩
    ·refine .inl ⟨k,?_⟩
     have:y≠x:=λe=>hj (nodup_ix hN e1 (e ▸ hi))
     simp [this,e]
    ·exact .inr ⟨k,c,e,z.sameBut hs (cne y c e)⟩
  ·obtain ⟨w',z⟩:=I.cell y c e
   exact ⟨w',z.sameBut hs (cne y c e)⟩
  ·obtain ⟨e,n,ne,nf,d⟩:=I.pin p hp
   exact ⟨(hs.2 p.1 ne).trans e,n,ne,nf,d⟩
 ·have hfn:X.fn x=true:=by
   rcases hf with z | z
   ·exact z
   ·rw [z] at hk;cases hk
  obtain ⟨c,hc⟩:=I.ok.has x (.inl hk)
  obtain ⟨w',z⟩:=I.cell x c hc
  refine wpAny_storeName_cell I.ok.kind hk hc z (λh' hc' hs=>?_)
  obtain ⟨oc,hoc,hocd⟩:=id z
  refine h { s with heap:=h' } ⟨I.ok,I.os,I.bare,⟨λb o e n hb hx=>?_,λb o e n hb hx=>?_,I.base.free,λb o e hx=>?_,I.base.tups,I.base.frzs,I.base.tbls⟩,⟨m,hn.sameBut hs (Ne.symm (cne x c hc)),λj y v' e1 e2 e3=>?_⟩,λy c' e=>?_,I.free,I.freeC,λp hp=>?_,tracked ⟨oc,hoc,I.freeC x c hc⟩ hs,by simpa using I.len⟩ ⟨c,hs,.inr hc⟩
  ·exact (hs.2 b (zW (zQ (Heap.lt_size e) (I.ok.cab x c hfn hc)))).trans (I.base.keep b o e n hb hx)
  ·obtain ⟨sl,e1⟩:=I.base.slot b o e n hb hx
   exact ⟨sl,(hs.2 b (zW (zQ (Heap.lt_size e) (I.ok.cab x c hfn hc)))).trans e1⟩
  ·obtain ⟨o',e1⟩:=I.base.there b o e hx
   exact ⟨o',(hs.2 b (zW (zQ (Heap.lt_size e) (I.ok.cab x c hfn hc)))).trans e1⟩
  ·by_cases hj:j=i
   ·subst hj
    rw [hi] at e1;cases e1
    rw [List.getElem?_set_self hiσ] at e2
    cases e2
    exact ⟨u,r,.inr ⟨.inl hk,c,hc,hc'⟩⟩
   ·rw [List.getElem?_set_ne (Ne.symm hj)] at e2
    obtain ⟨u',r',q⟩:=hl j y v' e1 e2 e3
    refine ⟨u',r',?_⟩
    rcases q with q | ⟨k,c',e,z'⟩
    ·exact .inl q
    ·refine .inr ⟨k,c',e,z'.sameBut hs ?_⟩
     rintro rfl
     exact hj (nodup_ix hN e1 (I.ok.inj _ _ _ e hc ▸ hi))
  ·by_cases hcc:c'=c
   ·subst hcc;exact ⟨_,hc'⟩
   ·obtain ⟨w2,z2⟩:=I.cell y c' e
    exact ⟨w2,z2.sameBut hs hcc⟩
  ·obtain ⟨e,n,ne,nf,d⟩:=I.pin p hp
   refine ⟨(hs.2 p.1 ?_).trans e,n,ne,nf,d⟩
   intro q
   rw [q,hoc] at e
   have q':oc=p.2:=Option.some.inj e
   exact d w' (by rw [<-q'];exact hocd)
theorem store_ok {M:Model}{A:Around}{E:Value->Shared->Prop}{i:Nat}{x:Str}{v:V}{u:Value}{Q:Unit->Shared->Prop} (I:Inv X pins σ H s) (hN:X.N.Nodup) (hi:X.N[i]?=some x) (hx:Loc X.env.scope x) (r:RelV v u)
  (h:∀ s',Inv X pins (σ.set i (some v)) H s'->Q () s') (hf:fnLoc X x=true:=by rfl):wpAny M A (storeName X.env x u) Q E s:=
 store_ok2 I hN hi hx r (λs' I' _=>h s' I') hf
theorem Inv.call' {s':Shared}{ch:List Addr} (I:Inv X pins σ H s) (ho:s'.os=s.os) (u:Un (frs X.stack) ch H H' s.heap s'.heap) (hok:HOk X.prog X.w H' s'.heap) (hg:AllBare s'.gens)
  (hch:∀ b∈ch,(b∈X.ex\/X.s₀.heap.objs.size<=b)/\b≠X.env.locals/\(∀ x c,X.env.cells.lookup x=some c->c≠b)/\∀ p∈X.pn++pins,p.1≠b):Inv X pins σ H' s':=by
 obtain ⟨h',g',d',t',o'⟩:=s'
 have e:o'=s.os:=ho
 subst e
 exact I.call (g':=g') (t':=t') (d':=d') u hok hg hch
end
abbrev XK:=Value->Option Addr->Hp->Prop
abbrev St:=List (Option V)
abbrev VK:=V->Hp->Prop
abbrev TE:=St->Hp->VK->Prop
abbrev TT:=St->Hp->(Bool->Hp->Prop)->Prop
abbrev TA:=St->Hp->(List V->Hp->Prop)->Prop
structure Ends where
 nx:St->Hp->Prop
 rt:VK
 bk:St->Hp->Prop:=λ_ _=>False
 ct:St->Hp->Prop:=λ_ _=>False
abbrev Ends.go (D:Ends) (n:St->Hp->Prop):Ends:={ D with nx:=n }
abbrev Ends.lp (D:Ends) (n:St->Hp->Prop):Ends:={ D with nx:=n,ct:=n,bk:=D.nx }
abbrev TS:=Ends->St->Hp->Prop
def EP (X:Cx) (pins:List (Addr×Obj)) (σ:St) (Q:VK) (u:Value) (s':Shared):Prop:=∃ v H',Inv X pins σ H' s'/\RelV v u/\Q v H'
def TP (X:Cx) (pins:List (Addr×Obj)) (σ:St) (Q:Bool->Hp->Prop) (b:Bool) (s':Shared):Prop:=∃ H',Inv X pins σ H' s'/\Q b H'
def AP (X:Cx) (pins:List (Addr×Obj)) (σ:St) (Q:List V->Hp->Prop) (us:List Value) (s':Shared):Prop:=∃ vs H',Inv X pins σ H' s'/\Vals vs us/\Q vs H'
def SP (X:Cx) (pins:List (Addr×Obj)) (D:Ends) (f:Flow) (s':Shared):Prop:=
 match f with
 | .next=>∃ σ' H',Inv X pins σ' H' s'/\D.nx σ' H'
 | .brk=>∃ σ' H',Inv X pins σ' H' s'/\D.bk σ' H'
 | .cont=>∃ σ' H',Inv X pins σ' H' s'/\D.ct σ' H'
 | .ret u=>∃ v σ' H',Inv X pins σ' H' s'/\RelV v u/\D.rt v H'
def PE (X:Cx) (e:Expr) (t:TE):Prop:=
 ∀ (pins:List (Addr×Obj)) (s:Shared) (σ:St) (H:Hp) (Q:VK),Inv X pins σ H s->t σ H Q->wpAny (model X.prog X.w) X.A (eval e X.env) (EP X pins σ Q) X.xe s
def PT (X:Cx) (e:Expr) (t:TT):Prop:=
 ∀ (pins:List (Addr×Obj)) (s:Shared) (σ:St) (H:Hp) (Q:Bool->Hp->Prop),Inv X pins σ H s->t σ H Q->wpAny (model X.prog X.w) X.A (isTrue e X.env (eval e X.env)) (TP X pins σ Q) X.xe s
def PW (X:Cx) (e:Expr) (t:TT):Prop:=
 ∀ (whole:Sem Value) (pins:List (Addr×Obj)) (s:Shared) (σ:St) (H:Hp) (Q:Bool->Hp->Prop),Inv X pins σ H s->t σ H Q->wpAny (model X.prog X.w) X.A (isTrue e X.env whole) (TP X pins σ Q) X.xe s
theorem PW.pt {X:Cx}{e:Expr}{t:TT} (h:PW X e t):PT X e t:=h _
def PA (X:Cx) (es:List Expr) (t:TA):Prop:=
 ∀ (pos:Pos) (pins:List (Addr×Obj)) (s:Shared) (σ:St) (H:Hp) (Q:List V->Hp->Prop),Inv X pins σ H s->t σ H Q->wpAny (model X.prog X.w) X.A (spliced (backTo pos (starEach es X.env))) (AP X pins σ Q) X.xe s
def PS (X:Cx) (st:Stmt) (t:TS):Prop:=
 ∀ (pins:List (Addr×Obj)) (s:Shared) (σ:St) (H:Hp) (D:Ends),Inv X pins σ H s->t D σ H->wpAny (model X.prog X.w) X.A (exec st X.env) (SP X pins D) X.xe s
def PSs (X:Cx) (st:List Stmt) (t:TS):Prop:=
 ∀ (pins:List (Addr×Obj)) (s:Shared) (σ:St) (H:Hp) (D:Ends),Inv X pins σ H s->t D σ H->wpAny (model X.prog X.w) X.A (execs st X.env) (SP X pins D) X.xe s
theorem thn {α:Type}{t:Sem α}{Q Q':α->Shared->Prop}{M:Model}{A:Around}{E:Value->Shared->Prop}{s:Shared} (h:wpAny M A t Q E s) (hQ:∀ a s,Q a s->Q' a s):wpAny M A t Q' E s:=wpAny_mono h hQ λ_ _ x=>x
end L2
namespace L2
open PySem PySem.Spec PyProof.Rows
section
variable {X:Cx}
def tVar (i:Nat):TE:=fun σ H Q=>∃ v,σ[i]?=some (some v)/\Q v H
def tC (v:V):TE:=λ_ H Q=>Q v H
theorem pe_var {i:Nat}{x:Str}{pos:Pos} (hN:X.N[i]?=some x) (hv:Vis X.env.scope x) (hd:(x == ("__debug__" : Str))=false:=by decide) (hcd:(x == ("__classdict__" : Str))=false:=by decide):PE X (.Name x pos) (tVar i):=by
 intro pins s σ H Q I h
 obtain ⟨v,e,h⟩:=h
 obtain ⟨m,hn,hl⟩:=I.loc
 obtain ⟨u,r,l⟩:=hl i x v hN e hv
 have fin:EP X pins σ Q u s:=⟨v,H,I,r,h⟩
 rcases l with ⟨hk,hm⟩ | ⟨hk,c,hc,hcell⟩
 ·exact wpAny_Name (wpAny_loadName_local I.ok.kind hk hn hm fin) hd
 ·rcases hk with hk | hk
  ·exact wpAny_Name (wpAny_loadName_cell I.ok.kind hk hc hcell fin) hd
  ·exact wpAny_Name (wpAny_loadName_free I.ok.kind hk hc hcell fin hcd) hd
theorem xD {i j pos}:PE X (.Constant (.int i) j pos) (tC (.int i)):=λ_ _ _ H _ I h=>wpAny_Constant_int ⟨.int i,H,I.tok _,⟨_,rfl⟩,h⟩
theorem pe_bl {b j pos}:PE X (.Constant (.bool b) j pos) (tC (.bl b)):=λ_ _ _ H _ I h=>Constant_bool ⟨.bl b,H,I,rfl,h⟩
theorem pe_non {j pos}:PE X (.Constant .none j pos) (tC .non):=λ_ _ _ H _ I h=>Constant_none ⟨.non,H,I,rfl,h⟩
theorem xX {x j pos}:PE X (.Constant (.str x) j pos) (tC (.str x)):=λ_ _ _ H _ I h=>Calls.Constant_str ⟨.str x,H,I.tok _,⟨_,rfl⟩,h⟩
def Gl (X:Cx) (x:Str):Prop:=X.env.kindOf x=some .globalImplicit
theorem ld_glob {E:Value->Shared->Prop}{pins:List (Addr×Obj)}{s:Shared}{σ:St}{H:Hp}{x:Str}{u:Value}{pos:Pos}{Q:Value->Shared->Prop} (I:Inv X pins σ H s) (hg:Gl X x) (hm:X.mg x=some u) (h:Q u s)
  (hd:(x == ("__debug__" : Str))=false:=by decide):wpAny (model X.prog X.w) X.A (eval (.Name x pos) X.env) Q E s:=
 Calls.Name_function_global I.ok.kind hg (Calls.loadGlobal_global (by rw [I.ok.glob];exact I.mod.glob.keeps I.bk) hm h) hd
theorem ld_blt {E:Value->Shared->Prop}{pins:List (Addr×Obj)}{s:Shared}{σ:St}{H:Hp}{x:Str}{u:Value}{pos:Pos}{Q:Value->Shared->Prop} (I:Inv X pins σ H s) (hg:Gl X x) (hm:X.mg x=none) (hv:bootBuiltins x=some u) (h:Q u s)
  (hn:x ≠ "__name__" := by decide) (hd:(x == ("__debug__" : Str))=false:=by decide):wpAny (model X.prog X.w) X.A (eval (.Name x pos) X.env) Q E s:=by
 obtain ⟨mb,h1,h2⟩:=I.mod.blt
 exact Calls.Name_function_global I.ok.kind hg (Calls.loadGlobal_builtin (by rw [I.ok.glob];exact I.mod.glob.keeps I.bk) hm (by rw [I.ok.blt];exact h1.keeps I.bk) ((h2 x hn).trans hv) h) hd
theorem wM {x:Str}{v:V}{u:Value}{pos:Pos} (hg:Gl X x) (hm:X.mg x=some u) (r:RelV v u) (hd:(x == ("__debug__" : Str))=false:=by decide):PE X (.Name x pos) (tC v):=
 λ_ _ _ H _ I h=>ld_glob I hg hm ⟨v,H,I,r,h⟩ hd
theorem xv {x:Str}{v:V}{u:Value}{pos:Pos} (hg:Gl X x) (hm:X.mg x=none) (hv:bootBuiltins x=some u) (r:RelV v u) (hn:x ≠ "__name__" := by decide) (hd:(x == ("__debug__" : Str))=false:=by decide):PE X (.Name x pos) (tC v):=
 λ_ _ _ H _ I h=>ld_blt I hg hm hv ⟨v,H,I,r,h⟩ hn hd
variable {a b:Expr}{ta tb:TE}{pos:Pos}
def PC (X:Cx) (op:CmpOp) (a b:Expr) (t:TE):Prop:=
 ∀ (pins:List (Addr×Obj)) (s:Shared) (σ:St) (H:Hp) (Q:VK),Inv X pins σ H s->t σ H Q ->
  wpAny (model X.prog X.w) X.A (eval a X.env) (λv s₁=>wpAny (model X.prog X.w) X.A (eval b X.env) (λu s₂=>wpAny (model X.prog X.w) X.A (compareOp op v u) (EP X pins σ Q) X.xe s₂) X.xe s₁) X.xe s
def tIsN (ta:TE):TE:=fun σ H Q=>ta σ H λx H1=>Q (.bl (decide (x=.non))) H1
theorem RelV.none_iff {x:V}{v:Value} (r:RelV x v):(v == Value.none)=decide (x=.non):=by
 cases x with
 | non=>cases r;rfl
 | bl _=>cases r;rfl
 | int _=>obtain ⟨t,rfl⟩:=r;rfl
 | str _=>obtain ⟨t,rfl⟩:=r;rfl
 | byt _=>obtain ⟨t,rfl⟩:=r;rfl
 | flt _=>obtain ⟨t,rfl⟩:=r;rfl
 | ref _=>cases r;rfl
 | ty _=>cases r;rfl
theorem pc_isN {j pos'} (ha:PE X a ta):PC X .Is a (.Constant .none j pos') (tIsN ta):=by
 intro pins s σ H Q I h
 refine thn (ha pins s σ H _ I h) λv s1 z802=>?_
 obtain ⟨x,H1,I1,r1,q1⟩:=z802
 exact Constant_none (is_none_gen ⟨.bl _,H1,I1,by rw [r1.none_iff];rfl,q1⟩)
def tB (t:TE):TT:=fun σ H Q=>t σ H λx H1=>∃ c,x=.bl c/\Q c H1
theorem pt_cmp {op:CmpOp}{t:TE} (h:PC X op a b t) (h1:behindInMarks op b=false:=by rfl):PT X (.Compare a [op] [b] pos) (tB t):=by
 intro pins s σ H Q I hw
 refine wpAny_isTrue_Compare1 (thn (h pins s σ H _ I hw) λv s1 h1=>thn h1 λu s2 h2=>thn h2 λc s3 z804=>?_) h1
 obtain ⟨x,H1,I1,r1,q1⟩:=z804
 obtain ⟨d,rfl,q⟩:=q1
 cases r1
 exact wpAny_truthy_bool ⟨H1,I1,q⟩
theorem xg {e:Expr}{t:TE} (h:PE X e t) (he:∀ whole,isTrue e X.env whole=(do let v <- whole;standAt e.pos;holding [v] (truthy v)):=by intro _;rfl):PT X e (tB t):=by
 intro pins s σ H Q I hw
 refine isTrue_plain (thn (h pins s σ H _ I hw) λv s1 z805=>?_) (he _)
 obtain ⟨x,H1,I1,r1,q1⟩:=z805
 obtain ⟨d,rfl,q⟩:=q1
 cases r1
 exact wpAny_truthy_bool ⟨H1,I1,q⟩
variable {tA tB':TT}{rest:List Expr}
def tAnd (t u:TT):TT:=fun σ H Q=>t σ H λc H1=>if c=true then u σ H1 Q else Q false H1
def tOr (t u:TT):TT:=fun σ H Q=>t σ H λc H1=>if c=true then Q true H1 else u σ H1 Q
def tNot (t:TT):TT:=fun σ H Q=>t σ H λc H1=>Q (!c) H1
theorem pw_and1 (ha:PT X a tA):PW X (.BoolOp .And [a] pos) tA:=by
 intro wh pins s σ H Q I h
 refine isTrue_and (thn (ha pins s σ H Q I h) λc s1 e=>?_)
 cases c with
 | true=>exact isTrue_and_nil e
 | false=>exact e
theorem wD (ha:PT X a tA):PW X (.BoolOp .Or [a] pos) tA:=by
 intro wh pins s σ H Q I h
 refine isTrue_or (thn (ha pins s σ H Q I h) λc s1 e=>?_)
 cases c with
 | false=>exact isTrue_or_nil e
 | true=>exact e
theorem pw_and (ha:PT X a tA) (hb:PW X (.BoolOp .And (b::rest) pos) tB'):PW X (.BoolOp .And (a::b::rest) pos) (tAnd tA tB'):=by
 intro wh pins s σ H Q I h
 refine isTrue_and (thn (ha pins s σ H _ I h) λc s1 z806=>?_)
 obtain ⟨H1,I1,q1⟩:=z806
 cases c with
 | true=>exact hb wh pins s1 σ H1 Q I1 q1
 | false=>exact ⟨H1,I1,q1⟩
theorem wN (ha:PT X a tA) (hb:PW X (.BoolOp .Or (b::rest) pos) tB'):PW X (.BoolOp .Or (a::b::rest) pos) (tOr tA tB'):=by
 intro wh pins s σ H Q I h
 refine isTrue_or (thn (ha pins s σ H _ I h) λc s1 z807=>?_)
 obtain ⟨H1,I1,q1⟩:=z807
 cases c with
 | true=>exact ⟨H1,I1,q1⟩
 | false=>exact hb wh pins s1 σ H1 Q I1 q1
theorem xf (ha:PT X a tA):PT X (.UnaryOp .Not a pos) (tNot tA):=by
 intro pins s σ H Q I h
 exact isTrue_not (ha pins s σ H (λc H1=>Q (!c) H1) I h)
def tAndV (ta tb:TE):TE:=fun σ H Q=>ta σ H λx H1=>∃ c,x=.bl c/\if c=true then tb σ H1 Q else Q (.bl false) H1
def tOrV (ta tb:TE):TE:=fun σ H Q=>ta σ H λx H1=>∃ c,x=.bl c/\if c=true then Q (.bl true) H1 else tb σ H1 Q
def tNotV (ta:TE):TE:=fun σ H Q=>ta σ H λx H1=>∃ c,x=.bl c/\Q (.bl (!c)) H1
theorem pe_one {op}{t:TE} (h:PE X a t):PE X (.BoolOp op [a] pos) t:=λpins s σ H Q I hw=>BoolOp_one (h pins s σ H Q I hw)
theorem pe_and (ha:PE X a ta) (hb:PE X (.BoolOp .And (b::rest) pos) tb):PE X (.BoolOp .And (a::b::rest) pos) (tAndV ta tb):=by
 intro pins s σ H Q I h
 refine BoolOp_and (thn (ha pins s σ H _ I h) λv s1 z808=>?_)
 obtain ⟨x,H1,I1,r1,q1⟩:=z808
 obtain ⟨c,rfl,q1⟩:=q1
 cases r1
 refine wpAny_truthy_bool ?_
 cases c with
 | true=>exact hb pins s1 σ H1 Q I1 q1
 | false=>exact ⟨.bl false,H1,I1,rfl,q1⟩
theorem pe_not (ha:PE X a ta):PE X (.UnaryOp .Not a pos) (tNotV ta):=by
 intro pins s σ H Q I h
 refine UnaryOp_ (thn (ha pins s σ H _ I h) λv s1 z810=>?_)
 obtain ⟨x,H1,I1,r1,q1⟩:=z810
 obtain ⟨c,rfl,q1⟩:=q1
 cases r1
 exact not_of (wpAny_truthy_bool ⟨.bl (!c),H1,I1,rfl,q1⟩)
def tIf (t:TT) (ta tb:TE):TE:=fun σ H Q=>t σ H λc H1=>if c=true then ta σ H1 Q else tb σ H1 Q
theorem pe_ifExp {c:Expr} (hc:PT X c tA) (ha:PE X a ta) (hb:PE X b tb):PE X (.IfExp c a b pos) (tIf tA ta tb):=by
 intro pins s σ H Q I h
 refine wpAny_IfExp (thn (hc pins s σ H _ I h) λd s1 z811=>?_)
 obtain ⟨H1,I1,q1⟩:=z811
 cases d with
 | true=>exact ha pins s1 σ H1 Q I1 q1
 | false=>exact hb pins s1 σ H1 Q I1 q1
end
end L2
namespace L2
open PySem PySem.Spec PyProof.Rows
def SqL (K:PySem.W.Frag) (H:Hp) (a:Addr) (xs:List V):Prop:=
 Rd H a (.lst xs) \/
  ∃ (o:Obj) (its:Array Value) (n:Nat),K.lookup a=some o/\o.cls=.type "list" /\ o.dict=none/\o.data=.seq its n/\its.size<=sizeLine/\Vals xs its.toList
def SqT (K:PySem.W.Frag) (H:Hp) (a:Addr) (xs:List V):Prop:=
 Rd H a (.tup xs) \/
  ∃ (o:Obj) (its:Array Value) (n:Nat),K.lookup a=some o/\o.cls=.type "tuple" /\ o.data=.seq its n/\its.size<=sizeLine/\Vals xs its.toList
def absV:Value->Option V
 | .none=>some .non
 | .bool b=>some (.bl b)
 | .int i _=>some (.int i)
 | .str x _=>some (.str x)
 | .bytes b _=>some (.byt b)
 | .float b _=>some (.flt b)
 | .ref a=>some (.ref a)
 | .type n=>some (.ty n)
 | _=>none
theorem RelV.abs {x:V}{u:Value} (r:RelV x u):absV u=some x:=by
 cases x with
 | non=>cases r;rfl
 | bl _=>cases r;rfl
 | int _=>obtain ⟨t,rfl⟩:=r;rfl
 | str _=>obtain ⟨t,rfl⟩:=r;rfl
 | byt _=>obtain ⟨t,rfl⟩:=r;rfl
 | flt _=>obtain ⟨t,rfl⟩:=r;rfl
 | ref _=>cases r;rfl
 | ty _=>cases r;rfl
theorem RelV.inj {x y:V}{u:Value} (r:RelV x u) (q:RelV y u):x=y:=Option.some.inj (r.abs.symm.trans q.abs)
theorem Vals.inj:∀ {xs ys:List V}{us:List Value},Vals xs us->Vals ys us->xs=ys
 | _,_,_,.nil,.nil=>rfl
 | _,_,_,.cons r t,.cons r' t'=>by rw [r.inj r',Vals.inj t t']
section
variable {X:Cx}{pins:List (Addr×Obj)}{σ:St}{H:Hp}{s:Shared}{a:Addr}{xs ys:List V}
theorem SqL.of {K:PySem.W.Frag} (h:H a=some (.lst xs)):SqL K H a xs:=.inl (.inl h)
theorem SqT.of {K:PySem.W.Frag} (h:H a=some (.tup xs)):SqT K H a xs:=.inl (.inl h)
theorem Inv.list (I:Inv X pins σ H s) (h:SqL X.K H a xs):∃ its:List Value,Vals xs its/\PlainL s.heap a its.toArray/\xs.length<=sizeLine:=by
 rcases h with h | ⟨o,its,n,hk,hc,hd,hs,hz,r⟩
 ·obtain ⟨z,its,n,r,e⟩:=h.ok I.hok
  exact ⟨its,r,⟨_,n,e,rfl,rfl,rfl⟩,z⟩
 ·refine ⟨its.toList,r,⟨o,n,I.kIn a o hk,hc,hd,by simpa using hs⟩,?_⟩
  have e:=r.length
  simp only [Array.length_toList] at e
  omega
theorem Inv.tuple (I:Inv X pins σ H s) (h:SqT X.K H a xs):∃ its:List Value,Vals xs its/\IsTup s.heap a its.toArray/\xs.length<=sizeLine:=by
 rcases h with h | ⟨o,its,n,hk,hc,hs,hz,r⟩
 ·obtain ⟨z,its,r,p⟩:=h.ok I.hok
  exact ⟨its,r,p,z.1⟩
 ·refine ⟨its.toList,r,⟨o,I.kIn a o hk,hc,n,by simpa using hs⟩,?_⟩
  have e:=r.length
  simp only [Array.length_toList] at e
  omega
theorem Inv.list_inj (I:Inv X pins σ H s) (h:SqL X.K H a xs) (h':SqL X.K H a ys):xs=ys:=by
 obtain ⟨its,r,⟨o,n,e,_,_,d⟩,_⟩:=I.list h
 obtain ⟨its',r',⟨o',n',e',_,_,d'⟩,_⟩:=I.list h'
 rw [e] at e';cases e'
 rw [d] at d'
 injection d' with d1 _
 have:its=its':=by simpa using congrArg Array.toList d1
 subst this
 exact r.inj r'
theorem Inv.tuple_inj (I:Inv X pins σ H s) (h:SqT X.K H a xs) (h':SqT X.K H a ys):xs=ys:=by
 obtain ⟨its,r,⟨o,e,_,n,d⟩,_⟩:=I.tuple h
 obtain ⟨its',r',⟨o',e',_,n',d'⟩,_⟩:=I.tuple h'
 rw [e] at e';cases e'
 rw [d] at d'
 injection d' with d1 _
 have:its=its':=by simpa using congrArg Array.toList d1
 subst this
 exact r.inj r'
end
abbrev Cx.wish (X:Cx) (E:Value->Shared->Prop):Cx:={ X with xe:=E }
abbrev Cx.nox (X:Cx):Cx:=X.wish λ_ _=>False
theorem Cx.Ok.wish {X:Cx} (ok:X.Ok) (E:Value->Shared->Prop):(X.wish E).Ok:=
 ⟨ok.mod,ok.kind,ok.glob,ok.blt,ok.above,ok.inj,ok.has,ok.cab,ok.hd,ok.frames,ok.stk,ok.exf,ok.bs,ok.bsz,ok.noex,ok.exfs,ok.funs,ok.frf⟩
theorem Cx.Ok.unwish {X:Cx}{E:Value->Shared->Prop} (ok:(X.wish E).Ok):X.Ok:=
 ⟨ok.mod,ok.kind,ok.glob,ok.blt,ok.above,ok.inj,ok.has,ok.cab,ok.hd,ok.frames,ok.stk,ok.exf,ok.bs,ok.bsz,ok.noex,ok.exfs,ok.funs,ok.frf⟩
section
variable {X:Cx}{pins:List (Addr×Obj)}{σ:St}{H:Hp}{s:Shared}{E:Value->Shared->Prop}
theorem Inv.wish (I:Inv X pins σ H s) (E:Value->Shared->Prop):Inv (X.wish E) pins σ H s:=⟨I.ok.wish E,I.os,I.bare,I.base,I.loc,I.cell,I.free,I.freeC,I.pin,I.hok,I.len⟩
theorem Inv.unwish (I:Inv (X.wish E) pins σ H s):Inv X pins σ H s:=⟨I.ok.unwish,I.os,I.bare,I.base,I.loc,I.cell,I.free,I.freeC,I.pin,I.hok,I.len⟩
theorem SP.unwish {D:Ends}{f:Flow}{s':Shared} (h:SP (X.wish E) pins D f s'):SP X pins D f s':=by
 cases f with
 | next=>obtain ⟨σ',H',I,q⟩:=h;exact ⟨σ',H',I.unwish,q⟩
 | brk=>obtain ⟨σ',H',I,q⟩:=h;exact ⟨σ',H',I.unwish,q⟩
 | cont=>obtain ⟨σ',H',I,q⟩:=h;exact ⟨σ',H',I.unwish,q⟩
 | ret u=>obtain ⟨v,σ',H',I,r,q⟩:=h;exact ⟨v,σ',H',I.unwish,r,q⟩
theorem PE.nox {e:Expr}{t:TE} (h:PE X.nox e t):PE X e t:=λpins s σ H Q I hw=>
 wpAny_mono (h pins s σ H Q (I.wish _) hw) (λ_ _ ⟨v,H',I',r,q⟩=>⟨v,H',I'.unwish,r,q⟩) λ_ _ z=>False.elim z
theorem PSs.nox {st:List Stmt}{t:TS} (h:PSs X.nox st t):PSs X st t:=λpins s σ H D I hw=>
 wpAny_mono (h pins s σ H D (I.wish _) hw) (λ_ _ q=>q.unwish) λ_ _ z=>False.elim z
end
section
variable {X:Cx}{st:Stmt}{rest:List Stmt}{t u:TS}{e:Expr}{te:TE}{pos:Pos}
def tNext:TS:=λD σ H=>D.nx σ H
def tSeq (t u:TS):TS:=λD σ H=>t (D.go (u D)) σ H
theorem xO:PSs X [] tNext:=λ_ _ σ H _ I h=>wpAny_execs_nil ⟨σ,H,I,h⟩
theorem pss_cons (h1:PS X st t) (h2:PSs X rest u):PSs X (st::rest) (tSeq t u):=by
 intro pins s σ H D I h
 refine wpAny_execs_cons (thn (h1 pins s σ H (D.go (u D)) I h) λf s1 q=>?_)
 cases f with
 | next=>
  obtain ⟨σ',H',I',q⟩:=q
  exact h2 pins s1 σ' H' D I' q
 | ret v=>exact q
 | brk=>exact q
 | cont=>exact q
theorem pss_one (h1:PS X st t):PSs X [st] t:=by
 intro pins s σ H D I h
 refine wpAny_execs_cons (thn (h1 pins s σ H D I h) λf s1 q=>?_)
 cases f with
 | next=>exact wpAny_execs_nil q
 | ret v=>exact q
 | brk=>exact q
 | cont=>exact q
theorem Inv.quiet {pins:List (Addr×Obj)}{σ:St}{H:Hp}{s:Shared} (I:Inv X pins σ H s):interactive X.env=false:=by simp [interactive,I.ok.kind]
def tDrop (te:TE):TS:=λD σ H=>te σ H λ_ H1=>D.nx σ H1
theorem xx (he:PE X e te) (hs:swapsWith e none pos.line X.env=pure false:=by rfl):PS X (.Expr e pos) (tDrop te):=by
 intro pins s σ H D I h
 exact wpAny_Expr_any (thn (he pins s σ H _ I h) λv s1 ⟨x,H1,I1,r1,q1⟩=>⟨σ,H1,I1,q1⟩) I.quiet hs
def tRet (te:TE):TS:=λD σ H=>te σ H D.rt
theorem xR (he:PE X e te):PS X (.Return (some e) pos) (tRet te):=by
 intro pins s σ H D I h
 exact wpAny_Return_some (thn (he pins s σ H _ I h) λv s1 ⟨x,H1,I1,r1,q1⟩=>⟨x,σ,H1,I1,r1,q1⟩)
def tIfS (c:TT) (t u:TS):TS:=λD σ H=>c σ H λb H1=>if b=true then t D σ H1 else u D σ H1
theorem xY {c:Expr}{a b:List Stmt}{tc:TT} (hc:PT X c tc) (ha:PSs X a t) (hb:PSs X b u):PS X (.If c a b pos) (tIfS tc t u):=by
 intro pins s σ H D I h
 refine wpAny_If (thn (hc pins s σ H _ I h) λd s1 z812=>?_)
 obtain ⟨H1,I1,q1⟩:=z812
 cases d with
 | true=>exact ha pins s1 σ H1 D I1 q1
 | false=>exact hb pins s1 σ H1 D I1 q1
def tNever:TS:=λ_ _ _=>False
theorem wE:PS X st tNever:=λ_ _ _ _ _ _ h=>h.elim
theorem pss_never {sts:List Stmt}:PSs X sts tNever:=λ_ _ _ _ _ _ h=>h.elim
end
abbrev TG:=V->St->Hp->(St->Hp->Prop)->Prop
abbrev TGs:=List V->St->Hp->(St->Hp->Prop)->Prop
def PG (X:Cx) (target:Expr) (t:TG):Prop:=
 ∀ (pins:List (Addr×Obj)) (s:Shared) (σ:St) (H:Hp) (v:V) (u:Value) (Q:St->Hp->Prop),Inv X pins σ H s->RelV v u->t v σ H Q ->
  wpAny (model X.prog X.w) X.A (assign target X.env u) (λ_ s'=>∃ σ' H',Inv X pins σ' H' s'/\Q σ' H') X.xe s
def PGs (X:Cx) (ts:List Expr) (t:TGs):Prop:=
 ∀ (pins:List (Addr×Obj)) (s:Shared) (σ:St) (H:Hp) (vs:List V) (us:List Value) (Q:St->Hp->Prop),Inv X pins σ H s->Vals vs us->t vs σ H Q ->
  wpAny (model X.prog X.w) X.A (assignInOrder ((assignEach ts X.env).map (·.2)) us) (λ_ s'=>∃ σ' H',Inv X pins σ' H' s'/\Q σ' H') X.xe s
abbrev TSet:=V->V->V->Hp->(Hp->Prop)->Prop
def PSet (X:Cx) (t:TSet):Prop:=
 ∀ (pins:List (Addr×Obj)) (s:Shared) (σ:St) (H:Hp) (o i v:V) (ov iv u:Value) (Q:Hp->Prop),Inv X pins σ H s->RelV o ov->RelV i iv->RelV v u->t o i v H Q ->
  wpAny (model X.prog X.w) X.A (setItem ov iv u) (λ_ s'=>∃ H',Inv X pins σ H' s'/\Q H') X.xe s
abbrev TIp:=V->V->Hp->VK->Prop
def PIp (X:Cx) (op:Operator) (t:TIp):Prop:=
 ∀ (pins:List (Addr×Obj)) (s:Shared) (σ:St) (H:Hp) (x y:V) (v u:Value) (Q:VK),Inv X pins σ H s->RelV x v->RelV y u->t x y H Q ->
  wpAny (model X.prog X.w) X.A (inplaceOp op v u) (EP X pins σ Q) X.xe s
section
variable {X:Cx}{pos:Pos}
def gName (i:Nat):TG:=λv σ H Q=>Q (σ.set i (some v)) H
theorem xI {i:Nat}{x:Str} (hN:X.N.Nodup) (hi:X.N[i]?=some x) (hx:locB X.env.scope x=true) (hf:fnLoc X x=true:=by rfl):PG X (.Name x pos) (gName i):=by
 have hx:=locB_of hx
 intro pins s σ H v u Q I r h
 exact wpAny_assign_Name (store_ok I hN hi hx r (λs' I'=>⟨_,H,I',h⟩) hf)
def gNil:TGs:=λvs σ H Q=>vs=[]/\Q σ H
def gCons (t:TG) (u:TGs):TGs:=λvs σ H Q=>∃ v r,vs=v::r/\t v σ H fun σ' H'=>u r σ' H' Q
theorem xi:PGs X [] gNil:=by
 intro pins s σ H vs us Q I r h
 obtain ⟨e,h⟩:=h
 subst e
 cases r
 exact assignInOrder_nil ⟨σ,H,I,h⟩
theorem xK {e:Expr}{es:List Expr}{t:TG}{u:TGs} (h1:PG X e t) (h2:PGs X es u)
  (hs:(assignEach (e::es) X.env).map (·.2)=assign e X.env::(assignEach es X.env).map (·.2):=by rfl):PGs X (e::es) (gCons t u):=by
 intro pins s σ H vs us Q I r h
 obtain ⟨v,vr,e1,h⟩:=h
 subst e1
 cases r with
 | cons r rr=>
  rw [hs]
  refine assignInOrder_cons (thn (h1 pins s σ H _ _ _ I r h) λ_ s1 z813=>?_)
  obtain ⟨σ1,H1,I1,q1⟩:=z813
  exact h2 pins s1 σ1 H1 _ _ Q I1 rr q1
def gTup (K:PySem.W.Frag) (n:Nat) (t:TGs):TG:=λv σ H Q=>∃ a xs,v=.ref a/\SqT K H a xs/\xs.length=n/\t xs σ H Q
theorem pg_tup {es:List Expr}{k:Nat}{t:TGs}{n:Nat} (hc:X.calm=true) (h:PGs X es t)
  (hn:(assignEach es X.env).length=n:=by rfl) (hst:(assignEach es X.env).findIdx? (·.1)=none:=by rfl):PG X (.Tuple es k pos) (gTup X.K n t):=by
 intro pins s σ H v u Q I r hw
 obtain ⟨a,xs,e1,hq,hl,hw⟩:=hw
 subst e1
 cases r
 obtain ⟨its,rv,ht,hz⟩:=I.tuple hq
 refine assign_Tuple_tuple (I.ok.hd hc) ht (by simp [hn,<- hl,rv.length]) hst λh' hx=>?_
 have I1:Inv X pins σ H { s with heap:=h' }:=I.kept (t':=s.toks) λb o e=>hx b o (zW (Heap.lt_size e)) e
 exact h pins _ σ H xs _ Q I1 (by simpa using rv) hw
def gSub (to ti:TE) (t:TSet):TG:=λv σ H Q=>to σ H λo H1=>ti σ H1 λi H2=>t o i v H2 λH3=>Q σ H3
theorem pg_sub {o i:Expr}{to ti:TE}{t:TSet} (ho:PE X o to) (hi:PE X i ti) (hs:PSet X t)
  (ha:∀ v,assign (.Subscript o i pos) X.env v=(do
   let ov <- holding [v] (eval o X.env)
   let iv <- holding [v,ov] (eval i X.env)
   standAt pos
   holding [v,ov,iv] (setItem ov iv v)
   release [v,ov,iv] []):=by intro _;rfl):PG X (.Subscript o i pos) (gSub to ti t):=by
 intro pins s σ H v u Q I r h
 rw [ha]
 refine wpAny_bind (wpAny_holding (thn (ho pins s σ H _ I h) λov s1 z814=>?_))
 obtain ⟨x,H1,I1,r1,q1⟩:=z814
 refine wpAny_bind (wpAny_holding (thn (hi pins s1 σ H1 _ I1 q1) λiv s2 z815=>?_))
 obtain ⟨y,H2,I2,r2,q2⟩:=z815
 refine wpAny_bind (wpAny_standAt (wpAny_bind (wpAny_holding (thn (hs pins s2 σ H2 x y v ov iv u _ I2 r1 r2 r q2) λ_ s3 z816=>?_))))
 obtain ⟨H3,I3,q3⟩:=z816
 exact wpAny_release ⟨σ,H3,I3,q3⟩
def tAsg (te:TE) (g:TG):TS:=λD σ H=>te σ H λx H1=>g x σ H1 D.nx
theorem ps_asg {tg e:Expr}{te:TE}{g:TG} (he:PE X e te) (hg:PG X tg g) (hs:swapsWithSole [tg] e pos.line X.env=pure false:=by rfl) (hw:swappedStores [tg] e X.env=pure none:=by rfl)
  (h1:(assignEach [tg] X.env).map (·.2)=[assign tg X.env]:=by rfl):PS X (.Assign [tg] e pos) (tAsg te g):=by
 intro pins s σ H D I h
 refine wpAny_Assign_stores (thn (he pins s σ H _ I h) λv s1 z817=>?_) hs hw
 obtain ⟨x,H1,I1,r1,q1⟩:=z817
 rw [h1]
 exact thn (hg pins s1 σ H1 x v _ I1 r1 q1) λ_ s2 q=>q
theorem xM {i:Nat}{x:Str}{e:Expr}{te:TE}{pos':Pos} (hN:X.N.Nodup) (hi:X.N[i]?=some x) (hx:locB X.env.scope x=true) (he:PE X e te) (hs:swapsWith e (some (.Name x pos')) pos.line X.env=pure false:=by rfl) (hf:fnLoc X x=true:=by rfl) :
  PS X (.Assign [.Name x pos'] e pos) (tAsg te (gName i)):=by
 have hx:=locB_of hx
 intro pins s σ H D I h
 refine wpAny_Assign_Name (thn (he pins s σ H _ I h) λv s1 z818=>?_) hs
 obtain ⟨y,H1,I1,r1,q1⟩:=z818
 exact store_ok I1 hN hi hx r1 (λs2 I2=>⟨_,H1,I2,q1⟩) hf
def tAug (i:Nat) (te:TE) (ti:TIp):TS:=λD σ H=>∃ x,σ[i]?=some (some x)/\te σ H λy H1=>ti x y H1 λz H2=>D.nx (σ.set i (some z)) H2
theorem ps_aug {i:Nat}{x:Str}{e:Expr}{te:TE}{op:Operator}{ti:TIp}{pos':Pos} (hN:X.N.Nodup) (hi:X.N[i]?=some x) (hx:locB X.env.scope x=true) (he:PE X e te) (ho:PIp X op ti) (hf:fnLoc X x=true:=by rfl) :
  PS X (.AugAssign (.Name x pos') op e pos) (tAug i te ti):=by
 have hx:=locB_of hx
 intro pins s σ H D I h
 obtain ⟨v,e1,h⟩:=h
 obtain ⟨m,hn,hl⟩:=I.loc
 have vis:Vis X.env.scope x:=by rcases hx with k | k;exact .inl k;exact .inr (.inl k)
 obtain ⟨u,r,l⟩:=hl i x v hi e1 vis
 refine wpAny_AugAssign_Name ?_
 have go:wpAny (model X.prog X.w) X.A (eval e X.env) (λw s₂=>wpAny (model X.prog X.w) X.A (inplaceOp op u w) (λr s₃=>wpAny (model X.prog X.w) X.A (storeName X.env x r) (λ_=>SP X pins D .next) X.xe s₃) X.xe s₂) X.xe s:=by
  refine thn (he pins s σ H _ I h) λw s1 z820=>?_
  obtain ⟨y,H1,I1,r1,q1⟩:=z820
  refine thn (ho pins s1 σ H1 v y u w _ I1 r r1 q1) λz s2 z821=>?_
  obtain ⟨zv,H2,I2,r2,q2⟩:=z821
  exact store_ok I2 hN hi hx r2 (λs3 I3=>⟨_,H2,I3,q2⟩) hf
 rcases l with ⟨hk,hm⟩ | ⟨hk,c,hc,hcell⟩
 ·exact wpAny_loadName_local I.ok.kind hk hn hm go
 ·rcases hk with hk | hk
  ·exact wpAny_loadName_cell I.ok.kind hk hc hcell go
  ·rcases hx with k | k
   ·have:X.env.scope.names.lookup x=some .free:=hk
    rw [k] at this;cases this
   ·have:X.env.scope.names.lookup x=some .free:=hk
    rw [k] at this;cases this
def tAugS (to ti te:TE) (tget:V->V->Hp->VK->Prop) (tip:TIp) (tset:TSet):TS:=λD σ H=>to σ H λo H1=>ti σ H1 λi H2=>tget o i H2 λx H3=>te σ H3 λy H4=>tip x y H4 λz H5=>tset o i z H5 λH6=>D.nx σ H6
def PGet (X:Cx) (t:V->V->Hp->VK->Prop):Prop:=
 ∀ (pins:List (Addr×Obj)) (s:Shared) (σ:St) (H:Hp) (o i:V) (ov iv:Value) (Q:VK),Inv X pins σ H s->RelV o ov->RelV i iv->t o i H Q ->
  wpAny (model X.prog X.w) X.A (getItem ov iv) (EP X pins σ Q) X.xe s
theorem ps_augS {o i e:Expr}{to ti te:TE}{tget:V->V->Hp->VK->Prop}{tip:TIp}{tset:TSet}{op:Operator}{tpos:Pos} (ho:PE X o to) (hi:PE X i ti) (hg:PGet X tget) (he:PE X e te) (hp:PIp X op tip) (hs:PSet X tset)
  (ha:∀ ov iv new,augStore i ov iv new=(do holding [new,ov,iv] (setItem ov iv new);release [new,ov,iv] [];pure .next):=by intros;rfl):PS X (.AugAssign (.Subscript o i tpos) op e pos) (tAugS to ti te tget tip tset):=by
 intro pins s σ H D I h
 refine wpAny_AugAssign_SubscriptAny (thn (ho pins s σ H _ I h) λov s1 z822=>?_) ha
 obtain ⟨x1,H1,I1,r1,q1⟩:=z822
 refine thn (hi pins s1 σ H1 _ I1 q1) λiv s2 z823=>?_
 obtain ⟨x2,H2,I2,r2,q2⟩:=z823
 refine thn (hg pins s2 σ H2 x1 x2 ov iv _ I2 r1 r2 q2) λold s3 z824=>?_
 obtain ⟨x3,H3,I3,r3,q3⟩:=z824
 refine thn (he pins s3 σ H3 _ I3 q3) λv s4 z825=>?_
 obtain ⟨x4,H4,I4,r4,q4⟩:=z825
 refine thn (hp pins s4 σ H4 x3 x4 old v _ I4 r3 r4 q4) λnew s5 z826=>?_
 obtain ⟨x5,H5,I5,r5,q5⟩:=z826
 exact thn (hs pins s5 σ H5 x1 x2 x5 ov iv new _ I5 r1 r2 r5 q5) λ_ s6 ⟨H6,I6,q6⟩=>⟨σ,H6,I6,q6⟩
def ipI (f:Int->Int->Int):TIp:=λx y H Q=>∃ i j,x=.int i/\y=.int j/\Q (.int (f i j)) H
theorem ip_add:PIp X .Add (ipI λi j=>i + j):=by
 intro pins s σ H x y v u Q I r1 r2 h
 obtain ⟨i,j,e1,e2,q⟩:=h
 subst e1;subst e2
 obtain ⟨t,rfl⟩:=r1
 obtain ⟨t',rfl⟩:=r2
 exact iadd_int ⟨.int _,H,I.tok _,⟨_,rfl⟩,q⟩
end
section
variable {X:Cx}{pos:Pos}
end
structure It where
 go:Nat->Hp->Prop
 yld:Nat->Hp->V->Hp->Prop
 stop:Nat->Hp->Prop
def FpOk (X:Cx) (pins:List (Addr×Obj)) (H:Hp) (b:Addr):Prop:=
 H b=none/\b≠X.env.locals/\b ∉ X.fs/\(b∈X.ex\/X.s₀.heap.objs.size<=b)/\(∀ x c,X.env.cells.lookup x=some c->c≠b)/\∀ p∈X.pn++pins,p.1≠b
theorem Inv.fpOk {X:Cx}{pins:List (Addr×Obj)}{σ:St}{H H':Hp}{s:Shared}{b:Addr} (I:Inv X pins σ H s) (hb:s.heap.objs.size<=b) (hn:H' b=none):FpOk X pins H' b:=by
 refine ⟨hn,yA (zQ I.lt hb),I.nofs hb,.inr (zj I.sz hb),λx c e z=>?_,λp hp z=>?_⟩
 ·obtain ⟨v,q⟩:=I.cell x c e
  exact absurd (zQ q.lt (by rw [z];exact hb)) (zw _)
 ·exact absurd (zQ (Heap.lt_size (I.pin p hp).1) (by rw [z];exact hb)) (zw _)
structure Turn (P:Program) (w:World) (K:PySem.W.Frag) (tg:Expr) (J:It) (fp:List Addr) (it:Addr) (tn:Nat->Heap->Prop):Prop where
 mem:it∈fp
 obj:∀ i h,tn i h->∀ b∈fp,∃ o,h.get? b=some o/\∀ v,o.data≠.cell v
 keep:∀ i h h',tn i h->(∀ b∈fp,∀ o,h.get? b=some o->h'.get? b=some o)->tn i h'
 item:∀ (X:Cx),X.prog=P->X.w=w->X.K=K->X.calm=true->∀ (i:Nat) (pins:List (Addr×Obj)) (s:Shared) (σ:St) (H:Hp) (E:Value->Shared->Prop),Inv X pins σ H s->(∀ b∈fp,FpOk X pins H b)->tn i s.heap->J.go i H ->
  wpAny (model P w) X.A (pyNext (.ref it)) (λr s1=>∃ u,r=some u /\
   wpAny (model P w) X.A (letOwnedTupleGo tg (.ref it) u) (λ_ s2=>∃ x H',Inv X pins σ H' s2/\RelV x u/\J.yld i H x H'/\tn (i + 1) s2.heap/\∀ b∈fp,H' b=none) E s1) E s
 done:∀ (X:Cx),X.prog=P->X.w=w->X.K=K->X.calm=true->∀ (i:Nat) (pins:List (Addr×Obj)) (s:Shared) (σ:St) (H:Hp) (E:Value->Shared->Prop),Inv X pins σ H s->(∀ b∈fp,FpOk X pins H b)->tn i s.heap->J.stop i H ->
  wpAny (model P w) X.A (pyNext (.ref it)) (λr s1=>r=none/\Inv X pins σ H s1) E s
 self:∀ (A:Around) (i:Nat) (s:Shared) (Q:Value->Shared->Prop) (E:Value->Shared->Prop),tn i s.heap->Q (.ref it) s->wpAny (model P w) A (pyIter (.ref it)) Q E s
abbrev TI:=St->Hp->(It->Hp->Prop)->Prop
def PIE (X:Cx) (pins:List (Addr×Obj)) (σ:St) (tg:Expr) (R:It->Hp->Prop) (itv:Value) (s2:Shared):Prop:=
 ∃ (it:Addr) (fp:List Addr) (tn:Nat->Heap->Prop) (J:It) (H':Hp),itv=.ref it/\Inv X pins σ H' s2/\Turn X.prog X.w X.K tg J fp it tn/\tn 0 s2.heap/\(∀ b∈fp,FpOk X pins H' b)/\R J H'
def PI (X:Cx) (tg iter:Expr) (wi:TI):Prop:=
 ∀ (pins:List (Addr×Obj)) (s:Shared) (σ:St) (H:Hp) (R:It->Hp->Prop),Inv X pins σ H s->wi σ H R ->
  wpAny (model X.prog X.w) X.A (eval iter X.env) (λv s1=>wpAny (model X.prog X.w) X.A (pyIter v) (PIE X pins σ tg R) X.xe s1) X.xe s
theorem go_of {M:Model}{A:Around}{E:Value->Shared->Prop}{s:Shared}{tg:Expr}{it:Addr}{u:Value}{o:Obj}{n:String}{vs:Array Value}{Q:Unit->Shared->Prop} (ho:s.heap.get? it=some o) (hc:o.cls=.type n) (hd:o.data=.fields vs)
    (hn:["enumerate", "zip", "dict_itemiterator", "dict_reverseitemiterator", "odict_iterator", "itertools.zip_longest", "itertools.pairwise"].contains n=false) (hQ:Q () s):wpAny M A (letOwnedTupleGo tg (.ref it) u) Q E s:=by
  unfold letOwnedTupleGo
  cases tg <;> first
    | exact wpAny_pure hQ
    | (cases u <;> first
        | exact wpAny_pure hQ
        | (refine wpAny_bind (wpAny_load ho ?_)
           rw [hc,hd]
           show wpAny M A (if (["enumerate", "zip", "dict_itemiterator", "dict_reverseitemiterator", "odict_iterator", "itertools.zip_longest", "itertools.pairwise"].contains n && vs[0]? == some (rawInt _))=true then _ else _) Q E s
           rw [if_neg (by intro h;rw [hn,yM] at h;cases h)]
           exact wpAny_pure hQ))
def Itl (K:PySem.W.Frag) (a:Addr):It:=
 ⟨λi H=>∃ xs x,SqL K H a xs/\xs[i]?=some x,λi H x H'=>H'=H/\∀ xs,SqL K H a xs->xs[i]?=some x,λi H=>∃ xs,SqL K H a xs/\xs.length<=i⟩
def Itt (K:PySem.W.Frag) (a:Addr):It:=
 ⟨λi H=>∃ xs x,SqT K H a xs/\xs[i]?=some x,λi H x H'=>H'=H/\∀ xs,SqT K H a xs->xs[i]?=some x,λi H=>∃ xs,SqT K H a xs/\xs.length<=i⟩
def Itr (lo:Int) (n:Nat):It:=⟨λi _=>i < n,λi H x H'=>H'=H/\x=.int (lo + i),λi _=>n<=i⟩
theorem turn_list {P:Program}{w:World}{K:PySem.W.Frag}{tg:Expr} (a it:Addr):Turn P w K tg (Itl K a) [it] it (λi h=>h.IsListIter it a i) where
 mem:=by simp
 obj:=λi h st b hb=>by
  have e:b=it:=by simpa using hb
  subst e
  obtain ⟨o,e,c,d⟩:=st
  exact ⟨o,e,λv z=>by rw [d] at z;cases z⟩
 keep:=λi h h' st k=>st.at λo e=>k it (by simp) o e
 item:=by
  intro X hP hw hK hc i pins s σ H E I hf st hg
  subst hP hw hK
  obtain ⟨xs,x,hq,hx⟩:=hg
  obtain ⟨its,rv,p,hz⟩:=I.list hq
  obtain ⟨u,hu,ru⟩:=rv.get hx
  obtain ⟨f0,f1,f2,f3,f4,f5⟩:=hf it (by simp)
  refine wpAny_pyNext_list_item st p.isList (x:=u) (by simpa using hu) λh' st' sb=>?_
  have I1:Inv X pins σ H { s with heap:=h' }:=I.turned (t':=s.toks) (λb o hb e=>(sb.2 b hb).trans e) f0 f1 f3 f4 f5
  obtain ⟨o,e,c,d⟩:=id st'
  exact ⟨u,rfl,go_of (s:={ s with heap:=h' }) e c d (by decide) ⟨x,H,I1,ru,⟨rfl,λys hy=>by rw [I.list_inj hy hq];exact hx⟩,st',λb hb=>(hf b hb).1⟩⟩
 done:=by
  intro X hP hw hK hc i pins s σ H E I hf st hg
  subst hP hw hK
  obtain ⟨xs,hq,hx⟩:=hg
  obtain ⟨its,rv,p,hz⟩:=I.list hq
  obtain ⟨f0,f1,f2,f3,f4,f5⟩:=hf it (by simp)
  have hl:=rv.length
  exact wpAny_pyNext_list_end (I.ok.hd hc) st p.isList (by simp;omega) λh' eb=>⟨rfl,I.turned (t':=s.toks) (λb o hb e=>eb b o hb e) f0 f1 f3 f4 f5⟩
 self:=λ_ _ _ _ _ st h=>wpAny_pyIter_listiter st h
theorem turn_tuple {P:Program}{w:World}{K:PySem.W.Frag}{tg:Expr} (a it:Addr):Turn P w K tg (Itt K a) [it] it (λi h=>h.IsTupleIter it a i) where
 mem:=by simp
 obj:=λi h st b hb=>by
  have e:b=it:=by simpa using hb
  subst e
  obtain ⟨o,e,c,d⟩:=st
  exact ⟨o,e,λv z=>by rw [d] at z;cases z⟩
 keep:=λi h h' st k=>st.at λo e=>k it (by simp) o e
 item:=by
  intro X hP hw hK hc i pins s σ H E I hf st hg
  subst hP hw hK
  obtain ⟨xs,x,hq,hx⟩:=hg
  obtain ⟨its,rv,p,hz⟩:=I.tuple hq
  obtain ⟨u,hu,ru⟩:=rv.get hx
  obtain ⟨f0,f1,f2,f3,f4,f5⟩:=hf it (by simp)
  refine wpAny_pyNext_tuple_item st (show s.heap.IsTuple a its.toArray from p) (x:=u) (by simpa using hu) λh' st' sb=>?_
  have I1:Inv X pins σ H { s with heap:=h' }:=I.turned (t':=s.toks) (λb o hb e=>(sb.2 b hb).trans e) f0 f1 f3 f4 f5
  obtain ⟨o,e,c,d⟩:=id st'
  exact ⟨u,rfl,go_of (s:={ s with heap:=h' }) e c d (by decide) ⟨x,H,I1,ru,⟨rfl,λys hy=>by rw [I.tuple_inj hy hq];exact hx⟩,st',λb hb=>(hf b hb).1⟩⟩
 done:=by
  intro X hP hw hK hc i pins s σ H E I hf st hg
  subst hP hw hK
  obtain ⟨xs,hq,hx⟩:=hg
  obtain ⟨its,rv,p,hz⟩:=I.tuple hq
  obtain ⟨f0,f1,f2,f3,f4,f5⟩:=hf it (by simp)
  have hl:=rv.length
  exact wpAny_pyNext_tuple_end (I.ok.hd hc) st (show s.heap.IsTuple a its.toArray from p) (by simp;omega) λh' eb=>⟨rfl,I.turned (t':=s.toks) (λb o hb e=>eb b o hb e) f0 f1 f3 f4 f5⟩
 self:=λ_ _ _ _ _ st h=>wpAny_pyIter_tupleiter st h
theorem turn_range {P:Program}{w:World}{K:PySem.W.Frag}{tg:Expr} (it:Addr) (lo:Int) (n:Nat):Turn P w K tg (Itr lo n) [it] it (λi h=>IsRangeIter h it (lo + (i:Nat) * 1) ((n:Int) - (i:Nat)) 1) where
 mem:=by simp
 obj:=λi h st b hb=>by
  have e:b=it:=by simpa using hb
  subst e
  exact ⟨_,st,λv z=>by
   have z':Data.fields _=Data.cell v:=z
   cases z'⟩
 keep:=λi h h' st k=>k it (by simp) _ st
 item:=by
  intro X hP hw hK hc i pins s σ H E I hf st hg
  subst hP hw hK
  obtain ⟨f0,f1,f2,f3,f4,f5⟩:=hf it (by simp)
  have W:=Walks.range (prog:=X.prog) (w:=X.w) (I.ok.hd hc) it lo 1 n
  refine W.item i s _ _ hg st λv h' tk hv st' kk=>?_
  obtain ⟨t,rfl⟩:=hv
  have I1:Inv X pins σ H { s with heap:=h',toks:=tk }:=I.turned (λb o hb e=>kk b o (by simpa using hb) e) f0 f1 f3 f4 f5
  refine ⟨_,rfl,go_of (s:={ s with heap:=h',toks:=tk }) (n := "range_iterator") st' rfl rfl (by decide) ⟨.int (lo + i),H,I1,⟨t,?_⟩,⟨rfl,rfl⟩,st',λb hb=>(hf b hb).1⟩⟩
  rw [Int.mul_one]
 done:=by
  intro X hP hw hK hc i pins s σ H E I hf st hg
  subst hP hw hK
  obtain ⟨f0,f1,f2,f3,f4,f5⟩:=hf it (by simp)
  exact wpAny_pyNext_range_end (I.ok.hd hc) st (by have:n<=i:=hg;omega) λh' eb=>⟨rfl,I.turned (t':=s.toks) (λb o hb e=>eb b o hb e) f0 f1 f3 f4 f5⟩
 self:=λ_ _ _ _ _ st h=>wpAny_pyIter_rangeiter st h
end L2
namespace L2
open PySem PySem.Spec PyProof.Rows
section
variable {X:Cx}{tg:Expr}
def iList (K:PySem.W.Frag) (tl:TE):TI:=fun σ H R=>tl σ H λx H1=>∃ a,x=.ref a/\(∃ xs,SqL K H1 a xs)/\R (Itl K a) H1
def iTup (K:PySem.W.Frag) (tl:TE):TI:=fun σ H R=>tl σ H λx H1=>∃ a,x=.ref a/\(∃ xs,SqT K H1 a xs)/\R (Itt K a) H1
theorem pi_list {l:Expr}{tl:TE} (hl:PE X l tl):PI X tg l (iList X.K tl):=by
 intro pins s σ H R I h
 refine thn (hl pins s σ H _ I h) λv s1 z828=>?_
 obtain ⟨x,H1,I1,r1,q1⟩:=z828
 obtain ⟨a,e,⟨xs,hq⟩,q⟩:=q1
 subst e
 cases r1
 obtain ⟨its,rv,p,hz⟩:=I1.list hq
 refine wpAny_pyIter_list p.isList ?_
 refine ⟨s1.heap.objs.size,[s1.heap.objs.size],_,_,H1,rfl,I1.kept (t':=s1.toks) λb o e=>Heap.get?_push_of_some _ e,turn_list a _,⟨_,Heap.get?_push_size _ rfl,rfl,rfl⟩,λb hb=>?_,q⟩
 have e:b=s1.heap.objs.size:=by simpa using hb
 subst e
 exact I1.fpOk (zD _) (I1.hok.fresh (zD _))
theorem pi_tup {l:Expr}{tl:TE} (hl:PE X l tl):PI X tg l (iTup X.K tl):=by
 intro pins s σ H R I h
 refine thn (hl pins s σ H _ I h) λv s1 z829=>?_
 obtain ⟨x,H1,I1,r1,q1⟩:=z829
 obtain ⟨a,e,⟨xs,hq⟩,q⟩:=q1
 subst e
 cases r1
 obtain ⟨its,rv,p,hz⟩:=I1.tuple hq
 refine wpAny_pyIter_tuple (show s1.heap.IsTuple a its.toArray from p) ?_
 refine ⟨s1.heap.objs.size,[s1.heap.objs.size],_,_,H1,rfl,I1.kept (t':=s1.toks) λb o e=>Heap.get?_push_of_some _ e,turn_tuple a _,⟨_,Heap.get?_push_size _ rfl,rfl,rfl⟩,λb hb=>?_,q⟩
 have e:b=s1.heap.objs.size:=by simpa using hb
 subst e
 exact I1.fpOk (zD _) (I1.hok.fresh (zD _))
theorem range_it {pins:List (Addr×Obj)}{σ:St}{H:Hp}{s:Shared}{R:It->Hp->Prop}{E:Value->Shared->Prop}{lo hi:Int}{t u v:Tok}{tk:Nat} (I:Inv X pins σ H s) (h1:-(2 ^ 62)<=lo) (h2:lo < 2 ^ 62) (h3:-(2 ^ 62)<=hi) (h4:hi < 2 ^ 62)
  (q:R (Itr lo (hi - lo).toNat) H):wpAny (model X.prog X.w) X.A (pyIter (.ref s.heap.objs.size)) (PIE X pins σ tg R) E { s with heap:=s.heap.push { cls:=.type "range", data:=.fields #[.int lo t,.int hi u,.int 1 v] },toks:=tk }:=by
 refine wpAny_pyIter_range (IsRange.new ..) (small_one h1 h2 h3 h4) ?_
 have I1:Inv X pins σ H { s with heap:=s.heap.push { cls:=.type "range", data:=.fields #[.int lo t,.int hi u,.int 1 v] },toks:=tk }:=I.kept λb o e=>Heap.get?_push_of_some _ e
 refine ⟨(s.heap.push { cls:=.type "range", data:=.fields #[.int lo t,.int hi u,.int 1 v] }).objs.size,[(s.heap.push { cls:=.type "range", data:=.fields #[.int lo t,.int hi u,.int 1 v] }).objs.size],_,_,H,rfl,
  I1.kept (t':=tk) λb o e=>Heap.get?_push_of_some _ e,turn_range _ lo (hi - lo).toNat,?_,λb hb=>?_,q⟩
 ·have e1:lo + ((0:Nat):Int) * 1=lo:=by simp
  have e2:(((hi - lo).toNat:Nat):Int) - ((0:Nat):Int)=Builtin.Range.rangeSize lo hi 1:=by rw [rangeSize_one];split <;> omega
  show IsRangeIter _ _ (lo + ((0:Nat):Int) * 1) ((((hi - lo).toNat:Nat):Int) - ((0:Nat):Int)) 1
  rw [e1,e2]
  exact Heap.get?_push_size _ rfl
 ·have e:b=(s.heap.push { cls:=.type "range", data:=.fields #[.int lo t,.int hi u,.int 1 v] }).objs.size:=by simpa using hb
  subst e
  exact I1.fpOk (zD _) (I1.hok.fresh (zD _))
def iRng1 (ta:TA):TI:=fun σ H R=>ta σ H λvs H1=>∃ j:Int,vs=[.int j]/\-(2 ^ 62)<=j/\j < 2 ^ 62/\R (Itr 0 j.toNat) H1
def iRng2 (ta:TA):TI:=fun σ H R=>ta σ H λvs H1=>∃ i j:Int,vs=[.int i,.int j]/\(-(2 ^ 62)<=i/\i < 2 ^ 62/\-(2 ^ 62)<=j/\j < 2 ^ 62)/\R (Itr i (j - i).toNat) H1
theorem pi_range1 {a:Expr}{ta:TA}{p pos:Pos} (hg:Gl X "range") (hm:X.mg "range" = none) (ha:PA X [a] ta) (hs:starEach [a] X.env=[(false,eval a X.env)]:=by rfl):PI X tg (.Call (.Name "range" p) [a] [] pos) (iRng1 ta):=by
 intro pins s σ H R I h
 refine Call_ (ld_blt I hg hm boot_range (yQ (thn (ha pos pins s σ H _ I h) λus s1 z830=>?_) hs rfl))
 obtain ⟨vs,H1,I1,r1,q1⟩:=z830
 obtain ⟨j,e,q1,q2,q⟩:=q1
 subst e
 cases r1 with
 | cons r rr=>
  cases rr
  obtain ⟨t,rfl⟩:=r
  exact call_range_1 (range_it I1 (by omega) (by omega) q1 q2 (by simpa using q))
theorem pi_range2 {a b:Expr}{ta:TA}{p pos:Pos} (hg:Gl X "range") (hm:X.mg "range" = none) (ha:PA X [a,b] ta) (hs:starEach [a,b] X.env=[(false,eval a X.env),(false,eval b X.env)]:=by rfl) (hs2:starEach [b] X.env=[(false,eval b X.env)]:=by rfl) :
  PI X tg (.Call (.Name "range" p) [a,b] [] pos) (iRng2 ta):=by
 intro pins s σ H R I h
 refine Call_ (ld_blt I hg hm boot_range (yQ (thn (ha pos pins s σ H _ I h) λus s1 z831=>?_) (by rw [hs,hs2]) (by rw [hs2];rfl)))
 obtain ⟨vs,H1,I1,r1,q1⟩:=z831
 obtain ⟨i,j,e,⟨q1,q2,q3,q4⟩,q⟩:=q1
 subst e
 cases r1 with
 | cons r rr=>
  cases rr with
  | cons r' rr=>
   cases rr
   obtain ⟨t,rfl⟩:=r
   obtain ⟨t',rfl⟩:=r'
   exact call_range_2 (range_it I1 q1 q2 q3 q4 q)
def tFor (wi:TI) (g:TG) (tb:TS):TS:=λD σ H=>wi σ H λJ H1=>∃ W:Nat->Nat->St->Hp->Prop,(∃ m,W 0 m σ H1)/\∀ i m σ H,W i m σ H ->
 (J.stop i H/\D.nx σ H)\/(J.go i H/\∃ N:St->Hp->Prop,(∀ σ' H',N σ' H'->∃ m',m' < m/\W (i + 1) m' σ' H')/\∀ x H',J.yld i H x H'->g x σ H' fun σ2 H2=>tb (D.lp N) σ2 H2)
def pinsAt (fp:List Addr) (h:Heap):List (Addr×Obj):=fp.filterMap λb=>(h.get? b).map λo=>(b,o)
theorem wK {fp:List Addr}{h:Heap}{b:Addr}{o:Obj} (hb:b∈fp) (e:h.get? b=some o):(b,o)∈pinsAt fp h:=yO.mpr ⟨b,hb,by rw [e];rfl⟩
theorem of_pinsAt {fp:List Addr}{h:Heap}{p:Addr×Obj} (hp:p∈pinsAt fp h):p.1∈fp/\h.get? p.1=some p.2:=by
 obtain ⟨b,hb,e⟩:=yO.mp hp
 cases q:h.get? b with
 | none=>rw [q] at e;cases e
 | some o=>
  rw [q] at e
  have e':(b,o)=p:=Option.some.inj e
  subst e'
  exact ⟨hb,q⟩
theorem Inv.pinned {pins:List (Addr×Obj)}{σ:St}{H:Hp}{s:Shared}{fp:List Addr} (I:Inv X pins σ H s) (hf:∀ b∈fp,FpOk X pins H b) (ho:∀ b∈fp,∃ o,s.heap.get? b=some o/\∀ v,o.data≠.cell v):Inv X (pins++pinsAt fp s.heap) σ H s:=
 I.pins_of λp hp=>(zZ.mp hp).elim (λz=>I.pin p (zN _ z)) λz=>by
  obtain ⟨hb,e⟩:=of_pinsAt z
  obtain ⟨f0,f1,f2,_⟩:=hf p.1 hb
  obtain ⟨o,e',d⟩:=ho p.1 hb
  rw [e] at e';cases e'
  exact ⟨e,f0,f1,f2,d⟩
theorem Inv.unpinned {pins pl:List (Addr×Obj)}{σ:St}{H:Hp}{s:Shared} (I:Inv X (pins++pl) σ H s):Inv X pins σ H s:=I.pins_of λp hp=>I.pin p (zN _ (yi _ hp))
theorem wO {iter:Expr}{body:List Stmt}{wi:TI}{g:TG}{tb:TS}{pos:Pos} (hp:PassesOwn (model X.prog X.w) X.A X.env X.xe) (hc:X.calm=true) (hi:PI X tg iter wi) (hg:PG X tg g) (hb:PSs X body tb)
  (hs:∀ x,foldedSetIterable iter X.env x=pure x:=by intro _;rfl):PS X (.For tg iter body [] pos) (tFor wi g tb):=by
 intro pins s σ H D I h
 refine wpAny_For (thn (hi pins s σ H _ I h) λv s1 h1=>thn h1 λitv s2 h2=>?_) hs
 obtain ⟨it,fp,tn,J,H2,e,I2,T,st2,f2,W,⟨m0,w0⟩,turn⟩:=h2
 subst e
 -- what stays true of the iterator's objects through the loop
 have stat:∀ {H':Hp},(∀ b∈fp,H' b=none)->∀ b∈fp,FpOk X pins H' b:=λhn b hb=>⟨hn b hb,(f2 b hb).2⟩
 refine codeAny_forLoop_any (λn s'=>∃ i σ' H',Inv X pins σ' H' s'/\tn i s'.heap/\(∀ b∈fp,H' b=none)/\W i n σ' H') ?_ m0 ⟨0,σ,H2,I2,st2,λb hb=>(f2 b hb).1,w0⟩
 rintro n s3 ⟨i,σ3,H3,I3,st3,fr3,w3⟩
 rcases turn i n σ3 H3 w3 with ⟨stop,qn⟩ | ⟨go,N,hN,step⟩
 ·refine wpAny_passesOwn hp (thn (T.done X rfl rfl rfl hc i pins s3 σ3 H3 X.xe I3 (stat fr3) st3 stop) λr s4 ⟨hr,I4⟩=>?_)
  subst hr
  exact wpAny_execs_nil ⟨σ3,H3,I4,qn⟩
 ·refine wpAny_passesOwn hp (thn (T.item X rfl rfl rfl hc i pins s3 σ3 H3 X.xe I3 (stat fr3) st3 go) λr s4 ⟨u,hr,h4⟩=>?_)
  subst hr
  refine wpAny_passesOwn hp (thn h4 λ_ s5 z832=>?_)
  obtain ⟨x,H5,I5,r5,y5,st5,fr5⟩:=z832
  have I5':=I5.pinned (stat fr5) (T.obj _ _ st5)
  refine wpAny_passesOwn hp (thn (hg _ s5 σ3 H5 x u _ I5' r5 (step x H5 y5)) λ_ s6 z833=>?_)
  obtain ⟨σ6,H6,I6,q6⟩:=z833
  refine wpAny_passesOwn hp (thn (hb _ s6 σ6 H6 _ I6 q6) λf s7 q7=>?_)
  have again:∀ {σ7:St} {H7:Hp},Inv X (pins++pinsAt fp s5.heap) σ7 H7 s7->N σ7 H7->∃ m,m < n/\∃ i σ' H',Inv X pins σ' H' s7/\tn i s7.heap/\(∀ b∈fp,H' b=none)/\W i m σ' H':=λ{σ7 H7} I7 n7=>by
   obtain ⟨m',hm,w7⟩:=hN σ7 H7 n7
   refine ⟨m',hm,i + 1,σ7,H7,I7.unpinned,T.keep _ _ _ st5 λb hb o e=>(I7.pin (b,o) (zN _ (zN _ (wK hb e)))).1,λb hb=>?_,w7⟩
   obtain ⟨o,e,d⟩:=T.obj _ _ st5 b hb
   exact (I7.pin (b,o) (zN _ (zN _ (wK hb e)))).2.1
  cases f with
  | next=>obtain ⟨σ7,H7,I7,n7⟩:=q7;exact again I7 n7
  | cont=>obtain ⟨σ7,H7,I7,n7⟩:=q7;exact again I7 n7
  | brk=>obtain ⟨σ7,H7,I7,q7⟩:=q7;exact ⟨σ7,H7,I7.unpinned,q7⟩
  | ret v=>obtain ⟨x7,σ7,H7,I7,r7,q7⟩:=q7;exact ⟨x7,σ7,H7,I7.unpinned,r7,q7⟩
end
theorem for_list {K:PySem.W.Frag}{a:Addr}{xs:List V}{g:TG}{tb:TS}{D:Ends}{σ:St}{H:Hp} (Pv:Nat->St->Hp->Prop) (h0:Pv 0 σ H) (hl:∀ i σ H,i<=xs.length->Pv i σ H->SqL K H a xs)
  (hs:∀ i x σ H,xs[i]?=some x->Pv i σ H->g x σ H fun σ2 H2=>tb (D.lp (Pv (i + 1))) σ2 H2) (hd:∀ σ H,Pv xs.length σ H->D.nx σ H) :
  ∃ W:Nat->Nat->St->Hp->Prop,(∃ m,W 0 m σ H)/\∀ i m σ H,W i m σ H ->
   ((Itl K a).stop i H/\D.nx σ H)\/((Itl K a).go i H/\∃ N:St->Hp->Prop,(∀ σ' H',N σ' H'->∃ m',m' < m/\W (i + 1) m' σ' H')/\∀ x H',(Itl K a).yld i H x H'->g x σ H' fun σ2 H2=>tb (D.lp N) σ2 H2):=by
 refine ⟨λi m σ H=>m=xs.length - i/\i<=xs.length/\Pv i σ H,⟨xs.length,by simp,zf _,h0⟩,?_⟩
 rintro i m σ H ⟨rfl,hi,p⟩
 have q:=hl i σ H hi p
 by_cases hlt:i < xs.length
 ·refine .inr ⟨⟨xs,xs[i],q,by simp [hlt]⟩,Pv (i + 1),fun σ' H' p'=>⟨xs.length - (i + 1),by omega,rfl,hlt,p'⟩,λx H' y=>?_⟩
  obtain ⟨e,y⟩:=y
  subst e
  exact hs i x σ _ (y xs q) p
 ·have e:i=xs.length:=by omega
  subst e
  exact .inl ⟨⟨xs,q,zD _⟩,hd σ H p⟩
theorem for_tup {K:PySem.W.Frag}{a:Addr}{xs:List V}{g:TG}{tb:TS}{D:Ends}{σ:St}{H:Hp} (Pv:Nat->St->Hp->Prop) (h0:Pv 0 σ H) (hl:∀ i σ H,i<=xs.length->Pv i σ H->SqT K H a xs)
  (hs:∀ i x σ H,xs[i]?=some x->Pv i σ H->g x σ H fun σ2 H2=>tb (D.lp (Pv (i + 1))) σ2 H2) (hd:∀ σ H,Pv xs.length σ H->D.nx σ H) :
  ∃ W:Nat->Nat->St->Hp->Prop,(∃ m,W 0 m σ H)/\∀ i m σ H,W i m σ H ->
   ((Itt K a).stop i H/\D.nx σ H)\/((Itt K a).go i H/\∃ N:St->Hp->Prop,(∀ σ' H',N σ' H'->∃ m',m' < m/\W (i + 1) m' σ' H')/\∀ x H',(Itt K a).yld i H x H'->g x σ H' fun σ2 H2=>tb (D.lp N) σ2 H2):=by
 refine ⟨λi m σ H=>m=xs.length - i/\i<=xs.length/\Pv i σ H,⟨xs.length,by simp,zf _,h0⟩,?_⟩
 rintro i m σ H ⟨rfl,hi,p⟩
 have q:=hl i σ H hi p
 by_cases hlt:i < xs.length
 ·refine .inr ⟨⟨xs,xs[i],q,by simp [hlt]⟩,Pv (i + 1),fun σ' H' p'=>⟨xs.length - (i + 1),by omega,rfl,hlt,p'⟩,λx H' y=>?_⟩
  obtain ⟨e,y⟩:=y
  subst e
  exact hs i x σ _ (y xs q) p
 ·have e:i=xs.length:=by omega
  subst e
  exact .inl ⟨⟨xs,q,zD _⟩,hd σ H p⟩
theorem for_range {lo:Int}{n:Nat}{g:TG}{tb:TS}{D:Ends}{σ:St}{H:Hp} (Pv:Nat->St->Hp->Prop) (h0:Pv 0 σ H)
  (hs:∀ i σ H,i < n->Pv i σ H->g (.int (lo + i)) σ H fun σ2 H2=>tb (D.lp (Pv (i + 1))) σ2 H2) (hd:∀ σ H,Pv n σ H->D.nx σ H) :
  ∃ W:Nat->Nat->St->Hp->Prop,(∃ m,W 0 m σ H)/\∀ i m σ H,W i m σ H ->
   ((Itr lo n).stop i H/\D.nx σ H)\/((Itr lo n).go i H/\∃ N:St->Hp->Prop,(∀ σ' H',N σ' H'->∃ m',m' < m/\W (i + 1) m' σ' H')/\∀ x H',(Itr lo n).yld i H x H'->g x σ H' fun σ2 H2=>tb (D.lp N) σ2 H2):=by
 refine ⟨λi m σ H=>m=n - i/\i<=n/\Pv i σ H,⟨n,by simp,zf _,h0⟩,?_⟩
 rintro i m σ H ⟨rfl,hi,p⟩
 by_cases hlt:i < n
 ·refine .inr ⟨hlt,Pv (i + 1),fun σ' H' p'=>⟨n - (i + 1),by omega,rfl,hlt,p'⟩,λx H' y=>?_⟩
  obtain ⟨e,y⟩:=y
  subst e y
  exact hs i σ _ hlt p
 ·have e:i=n:=by omega
  subst e
  exact .inl ⟨zD _,hd σ H p⟩
end L2
namespace L2
open PySem PySem.Spec PyProof.Rows
abbrev R2:=V->V->Hp->VK->Prop
def OpR (X:Cx) (f:Value->Value->Sem Value) (r:R2):Prop:=
 ∀ (pins:List (Addr×Obj)) (s:Shared) (σ:St) (H:Hp) (x y:V) (v u:Value) (Q:VK),Inv X pins σ H s->RelV x v->RelV y u->r x y H Q ->
  wpAny (model X.prog X.w) X.A (f v u) (EP X pins σ Q) X.xe s
def UnR (X:Cx) (f:Value->Sem Value) (r:V->Hp->VK->Prop):Prop:=
 ∀ (pins:List (Addr×Obj)) (s:Shared) (σ:St) (H:Hp) (x:V) (v:Value) (Q:VK),Inv X pins σ H s->RelV x v->r x H Q ->
  wpAny (model X.prog X.w) X.A (f v) (EP X pins σ Q) X.xe s
def CallR (X:Cx) (f:Value) (r:List V->Hp->VK->Prop):Prop:=
 ∀ (pins:List (Addr×Obj)) (s:Shared) (σ:St) (H:Hp) (xs:List V) (us:List Value) (Q:VK),Inv X pins σ H s->Vals xs us->r xs H Q ->
  wpAny (model X.prog X.w) X.A (call f us) (EP X pins σ Q) X.xe s
def tOp (r:R2) (ta tb:TE):TE:=fun σ H Q=>ta σ H λx H1=>tb σ H1 λy H2=>r x y H2 Q
def tUn (r:V->Hp->VK->Prop) (ta:TE):TE:=fun σ H Q=>ta σ H λx H1=>r x H1 Q
def rI (C:Int->Int->Prop) (g:Int->Int->V):R2:=λx y H Q=>∃ i j,x=.int i/\y=.int j/\C i j/\Q (g i j) H
def rI0 (g:Int->Int->V):R2:=λx y H Q=>∃ i j,x=.int i/\y=.int j/\Q (g i j) H
def rU (g:Int->V):V->Hp->VK->Prop:=λx H Q=>∃ i,x=.int i/\Q (g i) H
section
variable {X:Cx}{a b c:Expr}{ta tb tc:TE}{pos:Pos}
theorem binT (ha:PE X a ta) (hb:PE X b tb) {pins:List (Addr×Obj)}{s:Shared}{σ:St}{H:Hp}{R:V->V->Hp->Prop} (I:Inv X pins σ H s)
  (h:ta σ H λx H1=>tb σ H1 λy H2=>R x y H2) {Q:Value->Shared->Prop}{f:Value->Value->Sem Value}
  (hf:∀ v u s2 x y H2,Inv X pins σ H2 s2->RelV x v->RelV y u->R x y H2->wpAny (model X.prog X.w) X.A (f v u) Q X.xe s2) :
  wpAny (model X.prog X.w) X.A (eval a X.env) (λv s₁=>wpAny (model X.prog X.w) X.A (eval b X.env) (λu s₂=>wpAny (model X.prog X.w) X.A (f v u) Q X.xe s₂) X.xe s₁) X.xe s:=by
 refine thn (ha pins s σ H _ I h) λv s1 z834=>?_
 obtain ⟨x,H1,I1,r1,q1⟩:=z834
 refine thn (hb pins s1 σ H1 _ I1 q1) λu s2 z835=>?_
 obtain ⟨y,H2,I2,r2,q2⟩:=z835
 exact hf v u s2 x y H2 I2 r1 r2 q2
theorem xQ {op:Operator}{r:R2} (ho:OpR X (binaryOp op) r) (ha:PE X a ta) (hb:PE X b tb):PE X (.BinOp a op b pos) (tOp r ta tb):=by
 intro pins s σ H Q I h
 exact wpAny_BinOp (binT ha hb I h λv u s2 x y H2 I2 rx ry q=>ho pins s2 σ H2 x y v u Q I2 rx ry q)
theorem pe_un {op:UnaryOp}{r:V->Hp->VK->Prop} (ho:UnR X (unaryOp op) r) (ha:PE X a ta):PE X (.UnaryOp op a pos) (tUn r ta):=by
 intro pins s σ H Q I h
 exact UnaryOp_ (thn (ha pins s σ H _ I h) λv s1 ⟨x,H1,I1,r1,q1⟩=>ho pins s1 σ H1 x v Q I1 r1 q1)
theorem opI {f:Value->Value->Sem Value}{C:Int->Int->Prop}{g:Int->Int->Int}
  (rule:∀ (i j:Int) (t u:Tok) (s:Shared) (Q:Value->Shared->Prop) (E:Value->Shared->Prop),C i j->Q (.int (g i j) s.toks) { s with toks:=s.toks + 1 }->wpAny (model X.prog X.w) X.A (f (.int i t) (.int j u)) Q E s) :
  OpR X f (rI C λi j=>.int (g i j)):=by
 intro pins s σ H x y v u Q I rx ry h
 obtain ⟨i,j,rfl,rfl,hc,q⟩:=h
 obtain ⟨t,rfl⟩:=rx
 obtain ⟨t',rfl⟩:=ry
 exact rule i j t t' s _ _ hc ⟨.int (g i j),H,I.tok _,⟨_,rfl⟩,q⟩
theorem opI0 {f:Value->Value->Sem Value}{g:Int->Int->Int}
  (rule:∀ (i j:Int) (t u:Tok) (s:Shared) (Q:Value->Shared->Prop) (E:Value->Shared->Prop),Q (.int (g i j) s.toks) { s with toks:=s.toks + 1 }->wpAny (model X.prog X.w) X.A (f (.int i t) (.int j u)) Q E s) :
  OpR X f (rI0 λi j=>.int (g i j)):=by
 intro pins s σ H x y v u Q I rx ry h
 obtain ⟨i,j,rfl,rfl,q⟩:=h
 obtain ⟨t,rfl⟩:=rx
 obtain ⟨t',rfl⟩:=ry
 exact rule i j t t' s _ _ ⟨.int (g i j),H,I.tok _,⟨_,rfl⟩,q⟩
theorem opB0 {f:Value->Value->Sem Value}{g:Int->Int->Bool}
  (rule:∀ (i j:Int) (t u:Tok) (s:Shared) (Q:Value->Shared->Prop) (E:Value->Shared->Prop),Q (.bool (g i j)) s->wpAny (model X.prog X.w) X.A (f (.int i t) (.int j u)) Q E s) :
  OpR X f (rI0 λi j=>.bl (g i j)):=by
 intro pins s σ H x y v u Q I rx ry h
 obtain ⟨i,j,rfl,rfl,q⟩:=h
 obtain ⟨t,rfl⟩:=rx
 obtain ⟨t',rfl⟩:=ry
 exact rule i j t t' s _ _ ⟨.bl (g i j),H,I,rfl,q⟩
def CPow (i j:Int):Prop:=0<=j/\j<=1000000/\i.natAbs < 2 ^ 64
def CMul (i j:Int):Prop:=(-(2 ^ 64) < i/\i < 2 ^ 64)\/(-(2 ^ 64) < j/\j < 2 ^ 64)
theorem CMul.ok {i j:Int} (h:CMul i j):IntMulOk i j:=by
 rcases h with ⟨h1,h2⟩ | ⟨h1,h2⟩
 ·exact .of_left (intBits_le_64 h1 h2)
 ·exact .of_right (intBits_le_64 h1 h2)
theorem xj:OpR X (binaryOp .Add) (rI0 λi j=>.int (i + j)):=opI0 λ_ _ _ _ _ _ _ q=>add_int q
theorem op_sub:OpR X (binaryOp .Sub) (rI0 λi j=>.int (i - j)):=opI0 λ_ _ _ _ _ _ _ q=>sub_int q
theorem op_mul:OpR X (binaryOp .Mult) (rI CMul λi j=>.int (i * j)):=opI λ_ _ _ _ _ _ _ hc q=>mul_int q hc.ok
theorem op_mod:OpR X (binaryOp .Mod) (rI (λ_ j=>0 < j) λi j=>.int (i % j)):=opI λi j _ _ _ _ _ hc q=>by
 have h1:(0:Int) < j:=hc
 exact mod_int' (by omega) (by rw [Int.fmod_eq_emod_of_nonneg i (by omega)];exact q)
theorem op_pow:OpR X (binaryOp .Pow) (rI CPow λi j=>.int (i ^ j.toNat)):=opI λ_ _ _ _ _ _ _ hc q=>pow_int_small hc.1 hc.2.1 hc.2.2 q
theorem op_xor:OpR X (binaryOp .BitXor) (rI0 λi j=>.int (Builtin.bitXor i j)):=opI0 λ_ _ _ _ _ _ _ q=>xor_int q
theorem unI {f:Value->Sem Value}{g:Int->Int}
  (rule:∀ (i:Int) (t:Tok) (s:Shared) (Q:Value->Shared->Prop) (E:Value->Shared->Prop),Q (.int (g i) s.toks) { s with toks:=s.toks + 1 }->wpAny (model X.prog X.w) X.A (f (.int i t)) Q E s) :
  UnR X f (rU λi=>.int (g i)):=by
 intro pins s σ H x v Q I rx h
 obtain ⟨i,rfl,q⟩:=h
 obtain ⟨t,rfl⟩:=rx
 exact rule i t s _ _ ⟨.int (g i),H,I.tok _,⟨_,rfl⟩,q⟩
theorem un_neg:UnR X (unaryOp .USub) (rU λi=>.int (-i)):=unI λ_ _ _ _ _ q=>neg_int q
end
def scN:V->Bool
 | .non=>true | .int _=>true | .bl _=>true | .str _=>true | _=>false
def scI:V->Bool
 | .non=>true | .int _=>true | .str _=>true | _=>false
def scB:V->Bool
 | .non=>true | .bl _=>true | .str _=>true | _=>false
def scY:V->Bool
 | .byt _=>true | _=>false
def scal:V->V->Bool
 | .non,y=>scN y | .int _,y=>scI y | .bl _,y=>scB y | .str _,y=>scN y | .byt _,y=>scY y | _,_=>false
def rEq:R2:=λx y H Q=>scal x y=true/\Q (.bl (decide (x=y))) H
def rNe:R2:=λx y H Q=>scal x y=true/\Q (.bl (!decide (x=y))) H
theorem dec_int {i j:Int}:decide (V.int i=V.int j)=(i == j):=by
 rw [Bool.eq_iff_iff]
 simp
theorem dec_bl {i j:Bool}:decide (V.bl i=V.bl j)=(i == j):=by
 rw [Bool.eq_iff_iff]
 simp
theorem dec_str {i j:Str}:decide (V.str i=V.str j)=(i == j):=by
 rw [Bool.eq_iff_iff]
 simp
theorem dec_byt {i j:Array UInt8}:decide (V.byt i=V.byt j)=(i.toList == j.toList):=by
 rw [Bool.eq_iff_iff]
 cases i
 cases j
 simp
section
variable {X:Cx}{a b c:Expr}{ta tb tc:TE}{pos:Pos}
theorem xc {pins:List (Addr×Obj)}{σ:St}{H:Hp}{s:Shared}{Q:VK}{k k':Bool} (I:Inv X pins σ H s) (q:Q (.bl k) H) (e:k=k'):EP X pins σ Q (.bool k') s:=by
 subst e
 exact ⟨.bl k,H,I,rfl,q⟩
theorem op_eq:OpR X (compareOp .Eq) rEq:=by
 intro pins s σ H x y v u Q I rx ry h
 obtain ⟨hs,q⟩:=h
 cases x with
 | non=>
  cases rx
  cases y with
  | non=>cases ry;exact PySem.EqNone.eq_none_none (xc I q (by simp))
  | bl j=>cases ry;exact PySem.EqNone.eq_none_bool (xc I q (by simp))
  | int j=>obtain ⟨t',rfl⟩:=ry;exact PySem.EqNone.eq_none_int (xc I q (by simp))
  | str j=>obtain ⟨t',rfl⟩:=ry;exact PySem.EqNone.eq_none_str (xc I q (by simp))
  | _=>exact absurd (show false=true from hs) zL
 | bl i=>
  cases rx
  cases y with
  | non=>cases ry;exact PySem.EqNone.eq_bool_none (xc I q (by simp))
  | bl j=>cases ry;exact eq_bool (xc I q dec_bl)
  | str j=>obtain ⟨t',rfl⟩:=ry;exact PySem.EqMixed.eq_bool_str (xc I q (by simp))
  | _=>exact absurd (show false=true from hs) zL
 | int i=>
  obtain ⟨t,rfl⟩:=rx
  cases y with
  | non=>cases ry;exact PySem.EqNone.eq_int_none (xc I q (by simp))
  | int j=>obtain ⟨t',rfl⟩:=ry;exact eq_int (xc I q dec_int)
  | str j=>obtain ⟨t',rfl⟩:=ry;exact PySem.EqMixed.eq_int_str (xc I q (by simp))
  | _=>exact absurd (show false=true from hs) zL
 | str i=>
  obtain ⟨t,rfl⟩:=rx
  cases y with
  | non=>cases ry;exact PySem.EqNone.eq_str_none (xc I q (by simp))
  | bl j=>cases ry;exact PySem.EqMixed.eq_str_bool (xc I q (by simp))
  | int j=>obtain ⟨t',rfl⟩:=ry;exact PySem.EqMixed.eq_str_int (xc I q (by simp))
  | str j=>obtain ⟨t',rfl⟩:=ry;exact eq_str (xc I q dec_str)
  | _=>exact absurd (show false=true from hs) zL
 | byt i=>
  obtain ⟨t,rfl⟩:=rx
  cases y with
  | byt j=>obtain ⟨t',rfl⟩:=ry;exact PySem.W.eq_bytes (xc I q dec_byt)
  | _=>exact absurd (show false=true from hs) zL
 | _=>cases y <;> exact absurd (show false=true from hs) zL
theorem op_ne:OpR X (compareOp .NotEq) rNe:=by
 intro pins s σ H x y v u Q I rx ry h
 obtain ⟨hs,q⟩:=h
 cases x with
 | non=>
  cases rx
  cases y with
  | non=>cases ry;exact PySem.EqNone.ne_none_none (xc I q (by simp))
  | bl j=>cases ry;exact PySem.EqNone.ne_none_bool (xc I q (by simp))
  | int j=>obtain ⟨t',rfl⟩:=ry;exact PySem.EqNone.ne_none_int (xc I q (by simp))
  | str j=>obtain ⟨t',rfl⟩:=ry;exact PySem.EqNone.ne_none_str (xc I q (by simp))
  | _=>exact absurd (show false=true from hs) zL
 | bl i=>
  cases rx
  cases y with
  | non=>cases ry;exact PySem.EqNone.ne_bool_none (xc I q (by simp))
  | bl j=>cases ry;exact ne_bool (xc I q (congrArg not dec_bl))
  | str j=>obtain ⟨t',rfl⟩:=ry;exact PySem.EqMixed.ne_bool_str (xc I q (by simp))
  | _=>exact absurd (show false=true from hs) zL
 | int i=>
  obtain ⟨t,rfl⟩:=rx
  cases y with
  | non=>cases ry;exact PySem.EqNone.ne_int_none (xc I q (by simp))
  | int j=>obtain ⟨t',rfl⟩:=ry;exact ne_int (xc I q (congrArg not dec_int))
  | str j=>obtain ⟨t',rfl⟩:=ry;exact PySem.EqMixed.ne_int_str (xc I q (by simp))
  | _=>exact absurd (show false=true from hs) zL
 | str i=>
  obtain ⟨t,rfl⟩:=rx
  cases y with
  | non=>cases ry;exact PySem.EqNone.ne_str_none (xc I q (by simp))
  | bl j=>cases ry;exact PySem.EqMixed.ne_str_bool (xc I q (by simp))
  | int j=>obtain ⟨t',rfl⟩:=ry;exact PySem.EqMixed.ne_str_int (xc I q (by simp))
  | str j=>obtain ⟨t',rfl⟩:=ry;exact ne_str (xc I q (congrArg not dec_str))
  | _=>exact absurd (show false=true from hs) zL
 | byt i=>
  obtain ⟨t,rfl⟩:=rx
  cases y with
  | byt j=>obtain ⟨t',rfl⟩:=ry;exact PySem.W.ne_bytes (xc I q (congrArg not dec_byt))
  | _=>exact absurd (show false=true from hs) zL
 | _=>cases y <;> exact absurd (show false=true from hs) zL
theorem op_lt:OpR X (compareOp .Lt) (rI0 λi j=>.bl (decide (i < j))):=opB0 λ_ _ _ _ _ _ _ q=>lt_int q
theorem op_le:OpR X (compareOp .LtE) (rI0 λi j=>.bl (decide (i<=j))):=opB0 λ_ _ _ _ _ _ _ q=>le_int q
theorem op_gt:OpR X (compareOp .Gt) (rI0 λi j=>.bl (decide (j < i))):=opB0 λ_ _ _ _ _ _ _ q=>gt_int q
theorem op_ge:OpR X (compareOp .GtE) (rI0 λi j=>.bl (decide (j<=i))):=opB0 λ_ _ _ _ _ _ _ q=>ge_int q
theorem nomark (b:Expr) {op:CmpOp} (h:op≠.In:=by decide) (h2:op≠.NotIn:=by decide):behindInMarks op b=false:=by
 have e1:(op == CmpOp.In)=false:=by cases op <;> first | rfl | exact absurd rfl h
 have e2:(op == CmpOp.NotIn)=false:=by cases op <;> first | rfl | exact absurd rfl h2
 cases b <;> simp [behindInMarks,e1,e2]
theorem pe_cmpR {op:CmpOp}{r:R2} (ho:OpR X (compareOp op) r) (ha:PE X a ta) (hb:PE X b tb) (hm:behindInMarks op b=false):PE X (.Compare a [op] [b] pos) (tOp r ta tb):=by
 intro pins s σ H Q I h
 exact wpAny_Compare1 (binT ha hb I h λv u s2 x y H2 I2 rx ry q=>ho pins s2 σ H2 x y v u Q I2 rx ry q) hm
def tTest (t:TE):TT:=fun σ H Q=>t σ H λx H'=>∃ k,x=.bl k/\Q k H'
theorem xS {op:CmpOp}{r:R2} (ho:OpR X (compareOp op) r) (ha:PE X a ta) (hb:PE X b tb) (hm:behindInMarks op b=false):PT X (.Compare a [op] [b] pos) (tTest (tOp r ta tb)):=by
 intro pins s σ H Q I h
 refine wpAny_isTrue_Compare1 (thn (ha pins s σ H _ I h) λv s1 z836=>?_) hm
 obtain ⟨x,H1,I1,r1,q1⟩:=z836
 refine thn (hb pins s1 σ H1 _ I1 q1) λu s2 z837=>?_
 obtain ⟨y,H2,I2,r2,q2⟩:=z837
 refine thn (ho pins s2 σ H2 x y v u _ I2 r1 r2 q2) λc s3 z838=>?_
 obtain ⟨z,H3,I3,r3,k,e,q3⟩:=z838
 subst e
 cases r3
 exact wpAny_truthy_bool ⟨H3,I3,q3⟩
def tChain (r r':R2) (ta tb tc:TE):TE:=fun σ H Q=>ta σ H λx H1=>tb σ H1 λy H2=>r x y H2 λz H3=>∃ k,z=.bl k /\
 (if k=true then tc σ H3 λw' H4=>r' y w' H4 Q else Q (.bl false) H3)
theorem pe_chain {op op':CmpOp}{r r':R2} (ho:OpR X (compareOp op) r) (ho':OpR X (compareOp op') r') (ha:PE X a ta) (hb:PE X b tb) (hc:PE X c tc)
  (hm:lastMarks [op,op'] [b,c]=false:=by with_unfolding_all rfl):PE X (.Compare a [op,op'] [b,c] pos) (tChain r r' ta tb tc):=by
 intro pins s σ H Q I h
 refine Compare_chain (thn (ha pins s σ H _ I h) λv s1 z839=>?_) hm
 obtain ⟨x,H1,I1,r1,q1⟩:=z839
 refine chain_link (thn (hb pins s1 σ H1 _ I1 q1) λu s2 z840=>?_)
 obtain ⟨y,H2,I2,r2,q2⟩:=z840
 refine thn (ho pins s2 σ H2 x y v u _ I2 r1 r2 q2) λd s3 z841=>?_
 obtain ⟨z,H3,I3,r3,k,e,q3⟩:=z841
 subst e
 cases r3
 refine wpAny_truthy_bool ?_
 cases k with
 | false=>exact ite_ff ⟨.bl false,H3,I3,rfl,q3⟩
 | true=>exact ite_tt (chain_last (thn (hc pins s3 σ H3 _ I3 q3) λw' s4 ⟨z',H4,I4,r4,q4⟩=>ho' pins s4 σ H4 y z' u w' Q I4 r2 r4 q4))
theorem pt_chain {op op':CmpOp}{r r':R2} (ho:OpR X (compareOp op) r) (ho':OpR X (compareOp op') r') (ha:PE X a ta) (hb:PE X b tb) (hc:PE X c tc)
  (hm:lastMarks [op,op'] [b,c]=false:=by with_unfolding_all rfl):PT X (.Compare a [op,op'] [b,c] pos) (tTest (tChain r r' ta tb tc)):=by
 intro pins s σ H Q I h
 refine isTrue_chain (thn (ha pins s σ H _ I h) λv s1 z842=>?_) hm
 obtain ⟨x,H1,I1,r1,q1⟩:=z842
 refine test_link (thn (hb pins s1 σ H1 _ I1 q1) λu s2 z843=>?_)
 obtain ⟨y,H2,I2,r2,q2⟩:=z843
 refine thn (ho pins s2 σ H2 x y v u _ I2 r1 r2 q2) λd s3 z844=>?_
 obtain ⟨z,H3,I3,r3,k,e,q3⟩:=z844
 subst e
 cases r3
 refine wpAny_truthy_bool ?_
 cases k with
 | false=>
  obtain ⟨k',e',q'⟩:=q3
  cases e'
  exact ite_ff ⟨H3,I3,q'⟩
 | true=>
  refine ite_tt (test_last (thn (hc pins s3 σ H3 _ I3 q3) λw' s4 z845=>?_))
  obtain ⟨z',H4,I4,r4,q4⟩:=z845
  refine thn (ho' pins s4 σ H4 y z' u w' _ I4 r2 r4 q4) λd' s5 z846=>?_
  obtain ⟨z2,H5,I5,r5,k2,e2,q5⟩:=z846
  subst e2
  cases r5
  exact wpAny_truthy_bool ⟨H5,I5,q5⟩
theorem line63:(sizeLine:Nat) < 2 ^ 63:=by rw [sizeLine_eq];decide
theorem op_add_str:OpR X (binaryOp .Add) (λx y H Q=>∃ i j,x=.str i/\y=.str j/\i.length + j.length<=sizeLine/\Q (.str (i++j)) H):=by
 intro pins s σ H x y v u Q I rx ry h
 obtain ⟨i,j,rfl,rfl,hz,q⟩:=h
 obtain ⟨t,rfl⟩:=rx
 obtain ⟨t',rfl⟩:=ry
 exact add_str (λt' tk=>⟨.str (i++j),H,I.tok _,⟨_,rfl⟩,q⟩) hz
theorem vals1 {x:V}{us:List Value} (r:Vals [x] us):∃ u,us=[u]/\RelV x u:=by
 cases r with
 | cons r1 r2=>cases r2;exact ⟨_,rfl,r1⟩
theorem vals2 {x y:V}{us:List Value} (r:Vals [x,y] us):∃ u w',us=[u,w']/\RelV x u/\RelV y w':=by
 cases r with
 | cons r1 r2=>
  cases r2 with
  | cons r3 r4=>cases r4;exact ⟨_,_,rfl,r1,r3⟩
theorem call_max2 (hc:X.calm=true):CallR X (.builtin "max") (λxs H Q=>∃ i j,xs=[.int i,.int j]/\Q (.int (if j > i then j else i)) H):=by
 intro pins s σ H xs us Q I r h
 obtain ⟨i,j,rfl,q⟩:=h
 obtain ⟨u,w',rfl,⟨t,rfl⟩,⟨t',rfl⟩⟩:=vals2 r
 refine max_two_ints (I.ok.hd hc) λh' tk k=>⟨_,H,I.kept k,?_,q⟩
 by_cases hj:j > i
 ·rw [if_pos hj,if_pos hj];exact ⟨_,rfl⟩
 ·rw [if_neg hj,if_neg hj];exact ⟨_,rfl⟩
theorem call_min2 (hc:X.calm=true):CallR X (.builtin "min") (λxs H Q=>∃ i j,xs=[.int i,.int j]/\Q (.int (if j < i then j else i)) H):=by
 intro pins s σ H xs us Q I r h
 obtain ⟨i,j,rfl,q⟩:=h
 obtain ⟨u,w',rfl,⟨t,rfl⟩,⟨t',rfl⟩⟩:=vals2 r
 refine min_two_ints (I.ok.hd hc) λh' tk k=>⟨_,H,I.kept k,?_,q⟩
 by_cases hj:j < i
 ·rw [if_pos hj,if_pos hj];exact ⟨_,rfl⟩
 ·rw [if_neg hj,if_neg hj];exact ⟨_,rfl⟩
theorem call_int1:CallR X (.type "int") (λxs H Q=>(∃ i,xs=[.int i]/\Q (.int i) H)\/∃ k,xs=[.bl k]/\Q (.int (if k then 1 else 0)) H):=by
 intro pins s σ H xs us Q I r h
 rcases h with ⟨i,rfl,q⟩ | ⟨k,rfl,q⟩
 ·obtain ⟨u,rfl,t,rfl⟩:=vals1 r
  exact call_int_int ⟨.int i,H,I,⟨_,rfl⟩,q⟩
 ·obtain ⟨u,rfl,r1⟩:=vals1 r
  cases r1
  exact call_int_bool ⟨.int (if k then 1 else 0),H,I.tok _,⟨_,rfl⟩,q⟩
theorem xy:CallR X (.type "str") (λxs H Q=>∃ i,xs=[.int i]/\i.natAbs.log2 < 1920/\Q (.str (toString i)) H):=by
 intro pins s σ H xs us Q I r h
 obtain ⟨i,rfl,hz,q⟩:=h
 obtain ⟨u,rfl,t,rfl⟩:=vals1 r
 exact PySem.P.str_of_int hz ⟨.str _,H,I.tok _,⟨_,rfl⟩,q⟩
end
end L2
namespace L2
open PySem PySem.Spec PyProof.Rows
structure ObjM (h:Heap) (x dx C:Addr) (mA:Str->Option Value):Prop where
 obj:h.get? x=some (PySem.W.instObj C dx)
 ns:h.Ns1 dx mA
 ne:dx≠x
theorem lookIn_ns {h:Heap}{dx:Addr}{mA:Str->Option Value} (n:h.Ns1 dx mA):∃ od,h.get? dx=some od/\∀ name,PySem.W.lookIn name od=some (mA name):=by
 obtain ⟨o,es,ep,ho,hd,hk,_,hm⟩:=n
 refine ⟨o,ho,λname=>?_⟩
 have e:=hm name
 unfold nsFind findBy at e
 rw [<-Array.find?_toList] at e
 unfold PySem.W.lookIn
 rw [hd]
 dsimp only
 split
 ·rename_i y q
  rw [q] at e
  exact congrArg some e
 ·rename_i q
  rw [q] at e
  have a:es.toList.any (·.refKey)=false:=by
   rw [List.any_eq_false]
   intro y hy
   obtain ⟨z,t,hkey⟩:=hk y (Array.mem_toList_iff.mp hy)
   simp [DictEntry.refKey,hkey]
  have a':¬ es.toList.any (·.refKey)=true:=by rw [a];exact zL
  rw [if_neg a']
  exact congrArg some e
theorem ObjM.look {h:Heap}{x dx C:Addr}{mA:Str->Option Value} (I:ObjM h x dx C mA):∃ od,PySem.W.InstAt h x (PySem.W.instObj C dx) C (some od)/\∀ name,PySem.W.lookIn name od=some (mA name):=
 let ⟨od,ho,hl⟩:=lookIn_ns I.ns
 ⟨od,⟨I.obj,rfl,rfl,ho⟩,hl⟩
section
variable {prog:Program}{w:World}{A:Around}{E:Value->Shared->Prop}{s:Shared}{K:PySem.W.Frag}{x dx C f:Addr}{mA:Str->Option Value}{name:Str}{v:Value}
end
section
variable {P:Program}{w:World}{H H':Hp}{h h':Heap}{a C dx:Addr}{fs fs':List (Str×V)}
theorem ins_get (hok:HOk P w H h) (e:H a=some (.ins C dx fs)):∃ mA,ObjM h a dx C mA/\(∀ f,RelO (fs.lookup f) (mA f))/\PySem.Within mA (fs.map (·.1))/\fs.length<=1000/\H dx=some (.own a):=by
 obtain ⟨d,z,ne,ob,mA,n,r,q⟩:=(show ObjOk P w H h a (.ins C dx fs) from hok a _ e)
 exact ⟨mA,⟨ob,n,ne⟩,r,q,z,d⟩
end
structure Cls (K:PySem.W.Frag) (C:Addr):Prop where
 pg:PySem.W.plainGet K C Str.empty=true
 hd:PySem.W.hasDictIn K C=true
 po:PySem.W.plainOver K C=true
 sa:PySem.W.findIn K (.ref C) "__setattr__" = some (some (.builtin "object.__setattr__"))
theorem Cls.get {K:PySem.W.Frag}{C:Addr} (c:Cls K C) (f:Str):PySem.W.plainGet K C f=true:=c.pg
section
variable {X:Cx}{pins:List (Addr×Obj)}{σ:St}{H:Hp}{s:Shared}{a C dx:Addr}{fs:List (Str×V)}{f:Str}{v:V}{A:Around}{E:Value->Shared->Prop}
end
section
variable {X:Cx}{o e value:Expr}{f:Str}{pos pos' tpos:Pos}{ta tv:TE}
end
section
variable {X:Cx}{pins:List (Addr×Obj)}{σ:St}{H:Hp}{s:Shared}{A:Around}{E:Value->Shared->Prop}{Q:Value->Shared->Prop}{c:Value}{b:Bool}
inductive TyOf (K:PySem.W.Frag) (H:Hp):V->Value->Prop where
 | non:TyOf K H .non (.type "NoneType")
 | bl (x:Bool):TyOf K H (.bl x) (.type "bool")
 | int (i:Int):TyOf K H (.int i) (.type "int")
 | str (x:Str):TyOf K H (.str x) (.type "str")
 | flt (x:UInt64):TyOf K H (.flt x) (.type "float")
 | lst {a:Addr}{xs:List V} (e:H a=some (.lst xs)):TyOf K H (.ref a) (.type "list")
 | frz {a:Addr}{o:Obj}{xs:List V} (e:H a=some (.frz o (.lst xs))):TyOf K H (.ref a) (.type "list")
 | tup {a:Addr}{xs:List V} (e:H a=some (.tup xs)):TyOf K H (.ref a) (.type "tuple")
 | dK {a:Addr}{kvs:List (Key×V)} (e:H a=some (.dK kvs)):TyOf K H (.ref a) (.type "dict")
 | dT {a:Addr}{kvs:List (List Key×V)} (e:H a=some (.dT kvs)):TyOf K H (.ref a) (.type "dict")
 | ins {a C dx:Addr}{fs:List (Str×V)} (e:H a=some (.ins C dx fs)) (cl:Cls K C) (ha:PySem.W.findIn K (.ref C) "__class__" = some (some (.builtin "object.__class__")))
   (hn:PySem.W.specialIn K (.builtin "object.__class__") "__get__" = some (some (.builtin "getset_descriptor.__get__"))) (htk:PySem.W.takesIn K (.builtin "object.__class__")=some true)
   (hm:PySem.W.mroIn K C (.type "object")=some true):TyOf K H (.ref a) (.ref C)
theorem isinst_ok {x:V}{u t:Value} (I:Inv X pins σ H s) (rx:RelV x u) (ty:TyOf X.K H x t) (e:PySem.W.kitOne X.K t c=some b) (h:∀ tk,Q (.bool b) { s with toks:=tk }) :
  wpAny (model X.prog X.w) A (call (.builtin "isinstance") [u,c]) Q E s:=by
 cases ty with
 | non=>cases (show u=Value.none from rx);exact yH PySem.W.kitx_none I.kIn True.intro e (λz=>nomatch z) h
 | bl y=>cases (show u=Value.bool y from rx);exact yH PySem.W.kitx_bool I.kIn True.intro e (λz=>nomatch z) h
 | int i=>obtain ⟨t,q⟩:=(show ∃ t,u=Value.int i t from rx);cases q;exact yH PySem.W.kitx_int I.kIn True.intro e (λz=>nomatch z) h
 | str y=>obtain ⟨t,q⟩:=(show ∃ t,u=Value.str y t from rx);cases q;exact yH PySem.W.kitx_str I.kIn True.intro e (λz=>nomatch z) h
 | flt y=>obtain ⟨t,q⟩:=(show ∃ t,u=Value.float y t from rx);cases q;exact yH PySem.W.kitx_float I.kIn True.intro e (λz=>nomatch z) h
 | @lst a xs ea=>
  cases (show u=Value.ref a from rx)
  obtain ⟨_,_,n,_,h1⟩:=(show ObjOk X.prog X.w H s.heap a (.lst xs) from I.hok a _ ea)
  exact yH PySem.W.kitx_list I.kIn ⟨_,h1,rfl⟩ e (λz=>nomatch z) h
 | @frz a ob xs ea=>
  cases (show u=Value.ref a from rx)
  obtain ⟨_,_,_,n,_,h1⟩:=(show ObjOk X.prog X.w H s.heap a (.frz ob (.lst xs)) from I.hok a _ ea)
  exact yH PySem.W.kitx_list I.kIn ⟨_,h1,rfl⟩ e (λz=>nomatch z) h
 | @tup a xs ea=>
  cases (show u=Value.ref a from rx)
  obtain ⟨_,_,_,p⟩:=(show ObjOk X.prog X.w H s.heap a (.tup xs) from I.hok a _ ea)
  obtain ⟨o,h1,h2,_⟩:=p
  exact yH PySem.W.kitx_tuple I.kIn ⟨o,h1,h2⟩ e (λz=>nomatch z) h
 | @dK a kvs ea=>
  cases (show u=Value.ref a from rx)
  obtain ⟨_,_,vs,_,p⟩:=(show ObjOk X.prog X.w H s.heap a (.dK kvs) from I.hok a _ ea)
  obtain ⟨o,es,ep,h1,h2,_⟩:=p
  exact yH PySem.W.kitx_dict I.kIn ⟨o,h1,h2.1⟩ e (λz=>nomatch z) h
 | @dT a kvs ea=>
  cases (show u=Value.ref a from rx)
  obtain ⟨_,_,xs,_,o,es,ep,h1,h2,_⟩:=(show ObjOk X.prog X.w H s.heap a (.dT kvs) from I.hok a _ ea)
  exact yH PySem.W.kitx_dict I.kIn ⟨o,h1,h2.1⟩ e (λz=>nomatch z) h
 | @ins a C dx fs ea cl ha hn htk hm=>
  cases (show u=Value.ref a from rx)
  obtain ⟨mA,O,_⟩:=ins_get I.hok ea
  obtain ⟨od,J,_⟩:=O.look
  exact yH (PySem.W.kitx_own (cl.get _) cl.hd ha hn htk hm) I.kIn J e (λz=>nomatch z) h
end
end L2
namespace L2
open PySem PySem.Spec PyProof.Rows
structure Room (k:Nat) (A:Around):Prop where
 hd:A.handled=none
 dp:A.depth + 3 * k + 5 < recursionLimit
 un:A.units + 16 * k + 200 < cLine
 gd:A.guards=some []
theorem Room.mono {j k:Nat}{A:Around} (r:Room k A) (h:j<=k):Room j A:=⟨r.hd,by have:=r.dp;omega,by have:=r.un;omega,r.gd⟩
theorem Room.deeper {k:Nat}{A:Around} (r:Room (k + 1) A) (env:Env):Room k (A.deeper env):=
 ⟨r.hd,by have:=r.dp;show A.depth + 1 + 3 * k + 5 < _;omega,by have:=r.un;show A.units + 3 + 16 * k + 200 < _;omega,r.gd⟩
theorem Room.in1 {k:Nat}{A:Around} (r:Room (k + 1) A):Room k A.in1:=
 ⟨r.hd,by have:=r.dp;show A.depth + 3 * k + 5 < _;omega,by have:=r.un;show A.units + 1 + 16 * k + 200 < _;omega,r.gd⟩
theorem Room.depth {k:Nat}{A:Around} (r:Room k A):A.depth < recursionLimit:=by have:=r.dp;omega
theorem Room.units {k:Nat}{A:Around} (r:Room k A):A.units + 64 < cLine:=by have:=r.un;omega
def tNil:TA:=λ_ H Q=>Q [] H
def tCons (ta:TE) (tr:TA):TA:=fun σ H Q=>ta σ H λx H1=>tr σ H1 λxs H2=>Q (x::xs) H2
section
variable {X:Cx}{e:Expr}{es:List Expr}{te:TE}{t:TA}{pos:Pos}
theorem pa_nil:PA X [] tNil:=λ_ _ _ _ H Q I h=>Calls.spliced_nil ⟨[],H,I,.nil,h⟩
theorem pa_cons (ha:PE X e te) (hr:PA X es t) (hs:starEach (e::es) X.env=(false,eval e X.env)::starEach es X.env:=by rfl):PA X (e::es) (tCons te t):=by
 intro pos pins s σ H Q I h
 rw [hs]
 show wpAny _ _ (spliced ((false,eval e X.env)::backTo pos (starEach es X.env))) _ _ s
 refine Calls.spliced_cons (thn (ha pins s σ H _ I h) λu s1 z855=>?_)
 obtain ⟨x,H1,I1,r1,q1⟩:=z855
 exact thn (hr pos pins s1 σ H1 _ I1 q1) λus s2 ⟨xs,H2,I2,r2,q2⟩=>⟨x::xs,H2,I2,.cons r1 r2,q2⟩
def tTup (t:TA):TE:=fun σ H Q=>t σ H λxs H1=>xs.length<=sizeLine/\∀ p,H1 p=none->Q (.ref p) (upd H1 p (.tup xs))
def tLst (t:TA):TE:=fun σ H Q=>t σ H λxs H1=>xs.length<=sizeLine/\∀ p,H1 p=none->Q (.ref p) (upd H1 p (.lst xs))
theorem wF {x1} (h:PA X es t):PE X (.Tuple es x1 pos) (tTup t):=by
 intro pins s σ H Q I hq
 refine wpAny_Tuple_spliced (thn (h pos pins s σ H _ I hq) λus s1 z856=>?_)
 obtain ⟨xs,H1,I1,r,z,q⟩:=z856
 refine ⟨by rw [<-r.length];exact z,?_⟩
 have hf:H1 s1.heap.objs.size=none:=I1.hok.fresh (zD _)
 refine ⟨.ref s1.heap.objs.size,upd H1 s1.heap.objs.size (.tup xs),I1.laid (t':=s1.toks) (λb u e=>Heap.get?_push_of_some _ e) (zD _) ?_,rfl,q _ hf⟩
 exact ⟨⟨z,new_bare⟩,us,r,⟨_,Heap.get?_push_size _ rfl,rfl,_,rfl⟩⟩
theorem xl (h:PA X es t):PE X (.List es pos) (tLst t):=by
 intro pins s σ H Q I hq
 refine wpAny_List_spliced (thn (h pos pins s σ H _ I hq) λus s1 z857=>?_)
 obtain ⟨xs,H1,I1,r,z,q⟩:=z857
 refine ⟨by rw [<-r.length];exact z,?_⟩
 have hf:H1 s1.heap.objs.size=none:=I1.hok.fresh (zD _)
 refine ⟨.ref s1.heap.objs.size,upd H1 s1.heap.objs.size (.lst xs),I1.laid (t':=s1.toks) (λb u e=>Heap.get?_push_of_some _ e) (zD _) ?_,rfl,q _ hf⟩
 exact ⟨z,us,0,r,Heap.get?_push_size _ rfl⟩
end
abbrev Sp:=List V->Hp->VK->XK->Prop
abbrev CXT:=List Env->Hp->Shared->XK->Value->Shared->Prop
structure Env0 (P:Program) (w:World) (K:PySem.W.Frag) (mg:Str->Option Value) (base:Heap) (A:Around) (outer:List Env) (s:Shared) (H:Hp):Prop where
 frames:A.frames=some outer
 mod:Mod K mg base
 bs:∀ b o,base.get? b=some o->s.heap.get? b=some o/\H b=none
 bsz:base.objs.size<=s.heap.objs.size
 funs:s.heap.FunFrames base outer
 frf:∀ b∈frs outer,H b=none
 hok:HOk P w H s.heap
 bare:AllBare s.gens
def CE (outer:List Env) (P:Program) (w:World) (H:Hp) (s:Shared) (Q:VK) (u:Value) (s':Shared):Prop:=
 ∃ v H',s'.os=s.os/\AllBare s'.gens/\Un (frs outer) [] H H' s.heap s'.heap/\HOk P w H' s'.heap/\RelV v u/\Q v H'
def CR (CX:CXT) (outer:List Env) (P:Program) (w:World) (H:Hp) (s:Shared) (Q:VK) (E:XK) (r:Result) (s':Shared):Prop:=
 match r with
 | .ok (.ret u)=>CE outer P w H s Q u s'
 | .ok _=>False
 | .error e=>CX outer H s E e s'
structure FnOk (P:Program) (w:World) (K:PySem.W.Frag) (mg:Str->Option Value) (base:Heap) (CX:CXT) (k:Nat) (f:Addr) (fd:FuncData) (ps:List Str) (sp:Sp):Prop where
 len:∀ vs H Q E,sp vs H Q E->vs.length=ps.length
 run:∀ (A:Around) (outer:List Env) (s:Shared) (H:Hp) (args:Args) (us:List Value) (vs:List V) (Q:VK) (E:XK),Room k A->Env0 P w K mg base A outer s H->BindsTo s fd args (ps.zip us)->Vals vs us->sp vs H Q E ->
  codeAny (model P w) A (.call (.ref f) args) (CR CX outer P w H s Q E) s
theorem Env0.in1 {P:Program}{w:World}{K:PySem.W.Frag}{mg:Str->Option Value}{base:Heap}{A:Around}{outer:List Env}{s:Shared}{H:Hp} (e:Env0 P w K mg base A outer s H) :
  Env0 P w K mg base A.in1 outer s H:=⟨e.frames,e.mod,e.bs,e.bsz,e.funs,e.frf,e.hok,e.bare⟩
section
variable {X:Cx}{pins:List (Addr×Obj)}{σ:St}{H:Hp}{s s':Shared}
theorem Inv.env0 (I:Inv X pins σ H s):Env0 X.prog X.w X.K X.mg X.base X.A X.stack s H:=
 ⟨I.ok.frames,I.ok.mod,I.bs,zj I.ok.bsz I.sz,I.stack,I.stkFree,I.hok,I.bare⟩
theorem Inv.after {Q:VK}{u:Value} (I:Inv X pins σ H s) (h:CE X.stack X.prog X.w H s Q u s'):EP X pins σ Q u s':=by
 obtain ⟨v,H',os,bare,un,hok,r,q⟩:=h
 obtain ⟨hh,g,d,t,os'⟩:=s'
 obtain rfl:os'=s.os:=os
 exact ⟨v,H',I.call (h':=hh) (g':=g) (d':=d) (t':=t) (ch:=[]) un hok bare (λb z=>absurd z (by simp)),r,q⟩
end
def tCall (sp:Sp) (dvs:List V) (E:XK) (t:TA):TE:=fun σ H Q=>t σ H λvs H1=>sp (vs++dvs) H1 Q E
def Binds (K:PySem.W.Frag) (fd:FuncData) (ps:List Str) (ds:List Value):Prop:=
 ∀ (s:Shared) (us:List Value),K.In s.heap->(us++ds).length=ps.length->BindsTo s fd ⟨us,[]⟩ (ps.zip (us++ds))
theorem Binds.all {K:PySem.W.Frag}{fd:FuncData}{ps:List Str} (h:∀ us:List Value,us.length=ps.length->bindArgs fd ⟨us,[]⟩=pure (ps.zip us)):Binds K fd ps []:=λs us _ hl=>by
 rw [zi] at hl ⊢
 exact .of_eq (h us hl)
def Passes (CX:CXT) (X:Cx) (E:XK):Prop:=∀ (pins:List (Addr×Obj)) (σ:St) (H:Hp) (s:Shared) (e:Value) (s':Shared),Inv X pins σ H s->CX X.stack H s E e s'->X.xe e s'
section
variable {X:Cx}{CX:CXT}{k:Nat}{f C:Addr}{fd:FuncData}{ps:List Str}{sp:Sp}{dvs:List V}{ds:List Value}{E:XK}{x m:Str}{p pos apos:Pos}{e o:Expr}{es:List Expr}{ta:TE}{t:TA}
theorem run_fn {pins:List (Addr×Obj)}{σ:St}{H:Hp}{s:Shared}{Q:VK}{us:List Value}{vs:List V} (F:FnOk X.prog X.w X.K X.mg X.base CX k f fd ps sp) (hr:Room k X.A) (hb:Binds X.K fd ps ds) (hd:Vals dvs ds) (hx:Passes CX X E)
  (I:Inv X pins σ H s) (r:Vals vs us) (h:sp (vs++dvs) H Q E):wpAny (model X.prog X.w) X.A (call (.ref f) us) (EP X pins σ Q) X.xe s:=by
 have r2:Vals (vs++dvs) (us++ds):=r.append hd
 have hl:(us++ds).length=ps.length:=by rw [<-r2.length];exact F.len _ _ _ _ h
 refine wpAny_call (codeAny_mono (F.run X.A X.stack s H ⟨us,[]⟩ (us++ds) (vs++dvs) Q E hr I.env0 (hb s us I.kIn hl) r2 h) λr s' hq=>?_)
 cases r with
 | error e=>exact hx pins σ H s e s' I hq
 | ok fl=>
  cases fl with
  | ret u=>exact I.after hq
  | next=>exact False.elim hq
  | brk=>exact False.elim hq
  | cont=>exact False.elim hq
theorem pe_call (F:FnOk X.prog X.w X.K X.mg X.base CX k f fd ps sp) (hr:Room k X.A) (hg:Gl X x) (hm:X.mg x=some (.ref f)) (hk:PySem.W.keepIn X.K (.ref f)=true) (hb:Binds X.K fd ps ds) (hd:Vals dvs ds) (hx:Passes CX X E)
  (ha:PA X (e::es) t) (hdb:(x == ("__debug__" : Str))=false:=by decide) (he:starEach (e::es) X.env=(false,eval e X.env)::starEach es X.env:=by rfl) (hpl:(backTo pos (starEach es X.env)).any (·.1)=false:=by rfl) :
  PE X (.Call (.Name x p) (e::es) [] pos) (tCall sp dvs E t):=by
 intro pins s σ H Q I h
 refine wpAny_Call_Name_kw (ld_glob I hg hm ?_ hdb)
 refine PySem.W.callWith_K (h₀:=X.base) I.ok.mod.kin hk (thn (ha pos pins s σ H _ I h) λus s1 z858=>?_) he hpl
 obtain ⟨vs,H1,I1,r,q⟩:=z858
 refine ⟨I1.kIn,?_⟩
 exact run_fn F hr hb hd hx I1 r q
end
section
variable {X:Cx}{CX:CXT}{k:Nat}{f C:Addr}{fd:FuncData}{ps ks:List Str}{sp:Sp}{E:XK}{x m:Str}{p pos apos kpos:Pos}{e o:Expr}{es:List Expr}{kws:List Keyword}{te ta:TE}{t tk:TA}{nm:Option Str}
variable {g:List Value->List Value->List Value}{gV:List V->List V->List V}
end
structure FnScope (N P:List Str) (sc:Scope):Prop where
 kind:sc.kind=.function
 co:sc.isCoroutine=false
 gen:sc.isGenerator=false
 nd:N.Nodup
 pre:N.take P.length=P
 par:∀ x∈P,sc.names.lookup x=some .local\/sc.names.lookup x=some .cell
 nofree:∀ y∈sc.names,y.2≠.free
theorem bindL_out {kindOf:Str->Option NameKind}{x:Str}:∀ {binds:List (Str×Value)}{m:Str->Option Value},(∀ v,(x,v) ∉ binds)->bindL kindOf binds m x=m x
 | [],_,_=>rfl
 | (n,v)::r,m,h=>by
  unfold bindL
  rw [bindL_out λw hw=>h w (zb _ hw)]
  split
  ·have:x≠n:=by rintro rfl;exact h v zd
   simp [this]
  ·rfl
theorem bindC_out {kindOf:Str->Option NameKind}{x:Str}:∀ {binds:List (Str×Value)}{m:Str->Option Value},(∀ v,(x,v) ∉ binds)->bindC kindOf binds m x=m x
 | [],_,_=>rfl
 | (n,v)::r,m,h=>by
  unfold bindC
  rw [bindC_out λw hw=>h w (zb _ hw)]
  split
  ·rfl
  ·have:x≠n:=by rintro rfl;exact h v zd
   simp [this]
theorem bindL_get {kindOf:Str->Option NameKind}{x:Str}{v:Value}:∀ {P:List Str}{vs:List Value}{i:Nat}{m:Str->Option Value},P.Nodup->P[i]?=some x->vs[i]?=some v->kindOf x=some .local ->
  bindL kindOf (P.zip vs) m x=some v
 | [],_,_,_,_,h,_,_=>by simp at h
 | _::_,[],_,_,_,_,h,_=>by simp at h
 | p::P,w::vs,0,m,nd,h1,h2,hk=>by
  simp at h1 h2;subst h1;subst h2
  show bindL kindOf ((p,w)::P.zip vs) m p=_
  unfold bindL
  rw [bindL_out λv hv=>(List.nodup_cons.mp nd).1 (yy hv).1,if_pos hk]
  simp
 | p::P,w::vs,i + 1,m,nd,h1,h2,hk=>by
  show bindL kindOf ((p,w)::P.zip vs) m x=_
  unfold bindL
  exact bindL_get (i:=i) (List.nodup_cons.mp nd).2 (by simpa using h1) (by simpa using h2) hk
theorem bindC_get {kindOf:Str->Option NameKind}{x:Str}{v:Value}:∀ {P:List Str}{vs:List Value}{i:Nat}{m:Str->Option Value},P.Nodup->P[i]?=some x->vs[i]?=some v->kindOf x≠some .local ->
  bindC kindOf (P.zip vs) m x=some v
 | [],_,_,_,_,h,_,_=>by simp at h
 | _::_,[],_,_,_,_,h,_=>by simp at h
 | p::P,w::vs,0,m,nd,h1,h2,hk=>by
  simp at h1 h2;subst h1;subst h2
  show bindC kindOf ((p,w)::P.zip vs) m p=_
  unfold bindC
  rw [bindC_out λv hv=>(List.nodup_cons.mp nd).1 (yy hv).1,if_neg hk]
  simp
 | p::P,w::vs,i + 1,m,nd,h1,h2,hk=>by
  show bindC kindOf ((p,w)::P.zip vs) m x=_
  unfold bindC
  exact bindC_get (i:=i) (List.nodup_cons.mp nd).2 (by simpa using h1) (by simpa using h2) hk
def start (N:List Str) (vs:List V):St:=vs.map some++List.replicate (N.length - vs.length) none
def cxOf (CX:CXT) (P:Program) (w:World) (K:PySem.W.Frag) (mg:Str->Option Value) (base:Heap) (N:List Str) (qual:Str) (scope:Scope) (f:Addr) (cd:Value) (A:Around) (outer:List Env) (s:Shared) (H:Hp) (E:XK):Cx where
 prog:=P
 w:=w
 K:=K
 mg:=mg
 base:=base
 A:=A.deeper (envOfC qual scope s.heap.objs.size f cd)
 N:=N
 s₀:=s
 H₀:=H
 env:=envOfC qual scope s.heap.objs.size f cd
 outer:=outer
 stack:=envOfC qual scope s.heap.objs.size f cd::outer
 ex:=[]
 calm:=true
 fn:=λ_=>true
 pn:=[]
 xe:=λe s'=>wpAny (model P w) (A.deeper (envOfC qual scope s.heap.objs.size f cd)) (leaving (envOfC qual scope s.heap.objs.size f cd) e) (λ_ s''=>CX outer H s E e s'') (λe' s''=>CX outer H s E e' s'') s'
theorem cell_has {sc:Scope}{n:Nat}{x:Str} (h:sc.names.lookup x=some .cell):∃ c,(cellsFrom n sc.names []).lookup x=some c:=by
 have q:=PySem.W.cellsFrom_some sc.names n [] (.inl h)
 exact Option.isSome_iff_exists.mp q
theorem inv_start {CX:CXT}{P:Program}{w:World}{K:PySem.W.Frag}{mg:Str->Option Value}{base:Heap}{N ps:List Str}{qual:Str}{scope:Scope}{f:Addr}{cd:Value}{A:Around}{outer:List Env} {s s1:Shared}{H:Hp}{E:XK}{us:List Value}{vs:List V}
  (S:FnScope N ps scope) (hd:A.handled=none) (e0:Env0 P w K mg base A outer s H) (hl:vs.length=ps.length) (r:Vals vs us)
  (x:InCallC s s.heap.objs.size (bindL (envOfC qual scope s.heap.objs.size f cd).kindOf (ps.zip us) λ_=>none) (cellsFrom (s.heap.objs.size + 1) scope.names []) (bindC (envOfC qual scope s.heap.objs.size f cd).kindOf (ps.zip us) λ_=>none) s1) :
  Inv (cxOf CX P w K mg base N qual scope f cd A outer s H E) [] (start N vs) H s1:=by
 have hpl:ps.length<=N.length:=by have:=congrArg List.length S.pre;rw [zY] at this;omega
 obtain ⟨h1,tk,rfl,hk⟩:=x.done
 have noA:∀ b:Addr,b ∉ (cxOf CX P w K mg base N qual scope f cd A outer s H E).ex:=λb z=>absurd (show b∈([]:List Addr) from z) (by simp)
 refine ⟨⟨e0.mod,S.kind,rfl,rfl,zD _,λy z c h1 h2=>?_,λy hy=>?_,λy c _ h=>?_,λ_=>hd,Around.frames_deeper e0.frames,.inr ⟨rfl,rfl⟩,λb z=>absurd z (noA b),e0.bs,e0.bsz,λb _ _=>noA b,λb z=>absurd z (noA b),e0.funs,e0.frf⟩,
  rfl,e0.bare,Un.kept hk,⟨_,x.toInCall.ns,λi y v h1 h2 h3=>?_⟩,λy c h=>⟨_,x.cell y c h⟩,e0.hok.fresh (zD _),λy c h=>?_,λp hp=>absurd (show p∈([]:List (Addr×Obj)) from hp) (by simp),e0.hok.kept hk,?_⟩
 ·exact name_of_addr x.apart (yL h1) (yL h2)
 ·have hy:scope.names.lookup y=some .cell\/scope.names.lookup y=some .free:=hy
  rcases hy with hy | hy
  ·exact cell_has hy
  ·exact absurd rfl (S.nofree _ (yL hy))
 ·exact yz (x.above y c (yL h))
 ·have hi:i < vs.length:=by
   unfold start at h2
   by_cases hi:i < vs.length
   ·exact hi
   ·rw [yG (by simpa using hi)] at h2
    rw [List.getElem?_replicate] at h2
    split at h2 <;> cases h2
  have ha:vs[i]?=some v:=by
   unfold start at h2
   rw [yK (by simpa using hi),zX] at h2
   cases e:vs[i]? with
   | none=>rw [e] at h2;cases h2
   | some a=>rw [e] at h2;cases h2;rfl
  obtain ⟨u,hu,rv⟩:=r.get ha
  have hp:ps[i]?=some y:=by
   rw [<-S.pre,List.getElem?_take_of_lt (by omega)];exact h1
  have ndP:ps.Nodup:=by rw [<-S.pre];exact S.nd.sublist (List.take_sublist _ _)
  refine ⟨u,rv,?_⟩
  rcases S.par y (zB hp) with k | k
  ·exact .inl ⟨k,bindL_get ndP hp hu k⟩
  ·obtain ⟨c,e⟩:=cell_has (n:=s.heap.objs.size + 1) k
   refine .inr ⟨.inl k,c,e,?_⟩
   have q:=x.cell y c e
   rw [bindC_get ndP hp hu (by show scope.names.lookup y≠_;rw [k];decide)] at q
   exact q
 ·exact e0.hok.fresh (yz (x.above y c (yL h)))
 ·unfold start
  show _=N.length
  rw [zI,zA,yf]
  omega
theorem fn_of {CX:CXT}{P:Program}{w:World}{K:PySem.W.Frag}{mg:Str->Option Value}{base:Heap}{k:Nat}{f:Addr}{name qual:Str}{params:Arguments}{body:List Stmt}{scope:Scope}{dV kV doc pm cdv ct oc:Value}{an od:Option Addr}
  {osl:Array (Option Value)}{N ps:List Str}{sp:Sp} (lk:K.lookup f=some ⟨oc,od,.func (yu name qual params body scope dV kV doc pm an cdv ct),osl⟩) (hcd:PySem.W.codeIn K cdv qual=true) (S:FnScope N ps scope)
  (len:∀ vs H Q E,sp vs H Q E->vs.length=ps.length)
  (hbody:∀ (A:Around) (outer:List Env) (s:Shared) (H:Hp) (vs:List V) (Q:VK) (E:XK),Room k (A.deeper (envOfC qual scope s.heap.objs.size f cdv))->sp vs H Q E ->
   ∃ t,PSs (cxOf CX P w K mg base N qual scope f cdv A outer s H E) body t/\t { nx:=λ_ H'=>Q .non H',rt:=Q } (start N vs) H) :
  FnOk P w K mg base CX (k + 1) f (yu name qual params body scope dV kV doc pm an cdv ct) ps sp:=by
 refine ⟨len,λA outer s H args us vs Q E hr e0 hb r hsp=>?_⟩
 have hl:=len _ _ _ _ hsp
 have KX:K.In s.heap:=e0.mod.kin.keeps λb o e=>(e0.bs b o e).1
 have lim:s.heap.NoLimit:=e0.mod.nolimit.keeps λb o e=>(e0.bs b o e).1
 have hkind:∀ y∈ps.zip us,scope.names.lookup y.1=some .local\/(scope.names.lookup y.1=some .cell/\((cellsFrom (s.heap.objs.size + 1) scope.names []).lookup y.1).isSome=true):=λ⟨n,v⟩ hy=>by
  rcases S.par n (yy hy).1 with q | q
  ·exact .inl q
  ·exact .inr ⟨q,PySem.W.cellsFrom_some _ _ _ (.inl q)⟩
 refine codeAny_call_function hr.depth (KX _ _ lk) rfl S.co S.gen rfl (PySem.W.codeRec_of KX hcd) (hb _ _ _ _ ?_)
 refine wpAny_newFunctionEnv_cells S.kind hkind λenv he s1 x=>?_
 subst he
 refine ⟨lim.keeps x.toInCall.keep,codeAny_func ?_⟩
 obtain ⟨t,ht,hq⟩:=hbody A outer s H vs Q E (hr.deeper _) hsp
 have I:Inv (cxOf CX P w K mg base N qual scope f cdv A outer s H E) [] (start N vs) H s1:=inv_start S hr.hd e0 hl r x
 refine wpAny_mono (ht [] s1 (start N vs) H _ I hq) (λfl s' hs=>?_) λe s' hs=>hs
 have fin:∀ {σ':St}{H':Hp}{v:V}{u:Value},Inv (cxOf CX P w K mg base N qual scope f cdv A outer s H E) [] σ' H' s'->RelV v u->Q v H'->CE outer P w H s Q u s':=
  λ{σ' H' v u} J rv q=>⟨v,H',J.os,J.bare,J.base,J.hok,rv,q⟩
 cases fl with
 | ret u=>
  obtain ⟨v,σ',H',J,rv,q⟩:=hs
  exact fin J rv q
 | next=>
  obtain ⟨σ',H',J,q⟩:=hs
  exact fin (v:=V.non) (u:=Value.none) J rfl q
 | brk=>
  obtain ⟨_,_,_,q⟩:=hs
  exact False.elim q
 | cont=>
  obtain ⟨_,_,_,q⟩:=hs
  exact False.elim q
end L2
namespace L2
open PySem PySem.Spec PyProof.Rows
section
variable {X:Cx}{x:Str}{p pos:Pos}{e:Expr}{es:List Expr}{t:TA}{id T:String}{r:List V->Hp->VK->Prop}
def tCB (r:List V->Hp->VK->Prop) (t:TA):TE:=fun σ H Q=>t σ H λvs H1=>r vs H1 Q
theorem xL (hc:CallR X (.builtin id) r) (hg:Gl X x) (hm:X.mg x=none) (hv:bootBuiltins x=some (.builtin id)) (ha:PA X (e::es) t) (hn:x ≠ "__name__" := by decide) (hdb:(x == ("__debug__" : Str))=false:=by decide)
  (he:starEach (e::es) X.env=(false,eval e X.env)::starEach es X.env:=by rfl) (hpl:(backTo pos (starEach es X.env)).any (·.1)=false:=by rfl):PE X (.Call (.Name x p) (e::es) [] pos) (tCB r t):=by
 intro pins s σ H Q I h
 refine wpAny_Call_Name_kw (ld_blt I hg hm hv ?_ hn hdb)
 exact PyProof.Rows.callWith_builtin1 (thn (ha pos pins s σ H _ I h) λus s1 ⟨vs,H1,I1,r1,q1⟩=>hc pins s1 σ H1 vs us Q I1 r1 q1) he hpl
theorem xh (hc:CallR X (.type T) r) (hg:Gl X x) (hm:X.mg x=none) (hv:bootBuiltins x=some (.type T)) (ha:PA X (e::es) t) (hn:x ≠ "__name__" := by decide) (hdb:(x == ("__debug__" : Str))=false:=by decide)
  (he:starEach (e::es) X.env=(false,eval e X.env)::starEach es X.env:=by rfl) (hpl:(backTo pos (starEach es X.env)).any (·.1)=false:=by rfl):PE X (.Call (.Name x p) (e::es) [] pos) (tCB r t):=by
 intro pins s σ H Q I h
 refine wpAny_Call_Name_kw (ld_blt I hg hm hv ?_ hn hdb)
 exact yQ (thn (ha pos pins s σ H _ I h) λus s1 ⟨vs,H1,I1,r1,q1⟩=>hc pins s1 σ H1 vs us Q I1 r1 q1) he hpl
theorem pe_callTy0 (hc:CallR X (.type T) r) (hg:Gl X x) (hm:X.mg x=none) (hv:bootBuiltins x=some (.type T)) (hn:x ≠ "__name__" := by decide) (hdb:(x == ("__debug__" : Str))=false:=by decide) :
  PE X (.Call (.Name x p) [] [] pos) (tCB r tNil):=by
 intro pins s σ H Q I h
 refine wpAny_Call_Name_kw (ld_blt I hg hm hv ?_ hn hdb)
 exact PyProof.Rows.callWith_type0 (hc pins s σ H [] [] Q I .nil h)
end
end L2
namespace L2
open PySem PySem.Spec PyProof.Rows
section
variable {κ:Type} [DecidableEq κ]
end
theorem kV_is {P:Program}{w:World}{k:Key}{u:Value} (r:RelV (kV k) u):(mixKind P w).is k u=true:=by
 cases k with
 | inl i=>obtain ⟨t,e⟩:=(show ∃ t,u=Value.int i t from r);subst e;exact mixKind_int P w i t
 | inr x=>obtain ⟨t,e⟩:=(show ∃ t,u=Value.str x t from r);subst e;exact mixKind_str P w x t
theorem items_are {P:Program}{w:World}:∀ {ks:List Key}{us:List Value},Vals (ks.map kV) us->ItemsAre (mixKind P w) ks us
 | [],_,r=>by rw [yX] at r;cases r;exact .nil
 | k::ks,_,r=>by
  rw [zu] at r
  cases r with
  | cons h t=>exact .cons (kV_is h) (items_are t)
section
variable {P:Program}{w:World}{H:Hp}{h:Heap}{a:Addr}
theorem key_of {ks:List Key} (ok:HOk P w H h) (e:H a=some (.tup (ks.map kV))):(tupleKind (mixKind P w)).is h ks a:=by
 obtain ⟨_,its,r,o,h1,h2,n,h3⟩:=(show ObjOk P w H h a (.tup (ks.map kV)) from ok a _ e)
 exact ⟨o,its.toArray,n,h1,h2,h3,by simpa using items_are r⟩
end
section
variable {X:Cx}{pins:List (Addr×Obj)}{σ:St}{H:Hp}{s:Shared}{a:Addr}{y v:V}{u r:Value}{o:Option V}{A:Around}{E:Value->Shared->Prop}
end
section
variable {X:Cx}{pins:List (Addr×Obj)}{σ:St}{H:Hp}{s:Shared}{a:Addr}{kvs:List (Key×V)}{k:Key}{u:Value}{A:Around}{E:Value->Shared->Prop}
end
section
variable {X:Cx}{o i e value:Expr}{pos pos' tpos:Pos}{td ty tv:TE}
end
section
variable {X:Cx}{pos:Pos}
end
section
variable {X:Cx}{pins:List (Addr×Obj)}{σ:St}{H:Hp}{s:Shared}{a:Addr}{y d:V}{u r:Value}{o:Option V}{A:Around}{E:Value->Shared->Prop}
end
section
variable {X:Cx}{o e f:Expr}{apos cpos:Pos}{td ty tx:TE}
end
section
variable {X:Cx}{pins:List (Addr×Obj)}{σ:St}{H:Hp}{s:Shared}{a:Addr}{kvs:List (Key×V)}{A:Around}{E:Value->Shared->Prop}
end
section
variable {X:Cx}{pins:List (Addr×Obj)}{σ:St}{H:Hp}{s:Shared}{a:Addr}{y:V}{u:Value}{A:Around}{E:Value->Shared->Prop}
end
end L2
namespace HT
open PySem PyProof.Rows
section
open PySem.SeqAt
open PySem.AutoSeq1 (wpAny_loadPart')
open PySem.MeetsSeq PySem.MeetsSeq2 PySem.MeetsSeq3
end
section
variable {prog:Program}{w:World}{A:Around}{E:Value->Shared->Prop}{s:Shared}
def sIx (n d:Nat):Option Int->Nat
 | none=>d
 | some v=>if v < 0 then (v + (n:Int)).toNat else min v.toNat n
theorem sIx_nat (n d k:Nat):sIx n d (some (k:Int))=min k n:=by
 show (if (k:Int) < 0 then ((k:Int) + (n:Int)).toNat else min (k:Int).toNat n)=min k n
 rw [if_neg (by omega),yC]
end
end HT
namespace L2
open PySem PySem.Spec PyProof.Rows
abbrev TO:=St->Hp->(Option Int->Hp->Prop)->Prop
def PO (X:Cx) (e:Option Expr) (t:TO):Prop:=
 ∀ (pins:List (Addr×Obj)) (s:Shared) (σ:St) (H:Hp) (Q:Option Int->Hp->Prop),Inv X pins σ H s->t σ H Q ->
  wpAny (model X.prog X.w) X.A (evalPart e X.env) (λu s'=>∃ o H',Inv X pins σ H' s'/\IsPart u o/\Q o H') X.xe s
def tNoPart:TO:=λ_ H Q=>Q none H
def tPart (t:TE):TO:=fun σ H Q=>t σ H λx H1=>∃ i,x=.int i/\Q (some i) H1
theorem intsAre_of {ns:List Int}:∀ {us:List Value},Vals (ns.map V.int) us->IntsAre us ns:=by
 induction ns with
 | nil=>intro us r;rw [yX] at r;cases r;exact .nil
 | cons n ns ih=>
  intro us r
  rw [zu] at r
  cases r with
  | cons r1 r2=>
   obtain ⟨t,e⟩:=r1
   subst e
   exact .cons n t (ih r2)
section
variable {X:Cx}{e:Expr}{te:TE}{lo hi:Option Expr}{tl th:TO} {pos p2:Pos}
theorem po_none:PO X none tNoPart:=by
 intro pins s σ H Q I h
 rw [evalPart_none]
 exact wpAny_pure ⟨none,H,I,.none,h⟩
theorem po_some (h:PE X e te):PO X (some e) (tPart te):=by
 intro pins s σ H Q I hw
 rw [evalPart_some]
 refine thn (h pins s σ H _ I hw) λu s1 z888=>?_
 obtain ⟨x,H1,I1,r1,q1⟩:=z888
 obtain ⟨i,rfl,q⟩:=q1
 obtain ⟨t,rfl⟩:=r1
 exact ⟨some i,H1,I1,.int i t,q⟩
def SlR (X:Cx) (r:V->Option Int->Option Int->Hp->VK->Prop):Prop:=
 ∀ (pins:List (Addr×Obj)) (s:Shared) (σ:St) (H:Hp) (x:V) (v vl vu:Value) (lo hi:Option Int) (sl:Addr) (Q:VK),Inv X pins σ H s->RelV x v->s.heap.IsSliceOf sl vl vu .none->IsPart vl lo->IsPart vu hi->r x lo hi H Q ->
  ∃ T id,typeLookup (.type T) "__getitem__" = pure (some (.builtin id))/\s.TypeIs v T/\wpAny (model X.prog X.w) X.A (getItem v (.ref sl)) (EP X pins σ Q) X.xe s
def tSl (r:V->Option Int->Option Int->Hp->VK->Prop) (te:TE) (tl th:TO):TE:=fun σ H Q=>te σ H λx H1=>tl σ H1 λl H2=>th σ H2 λu H3=>r x l u H3 Q
theorem pe_slice {r:V->Option Int->Option Int->Hp->VK->Prop} (hr:SlR X r) (he:PE X e te) (hl:PO X lo tl) (hu:PO X hi th):PE X (.Subscript e (.Slice lo hi none p2) pos) (tSl r te tl th):=by
 intro pins s σ H Q I h
 refine Subscript_ (thn (he pins s σ H _ I h) λv s1 z889=>?_)
 obtain ⟨x,H1,I1,r1,q1⟩:=z889
 refine wpAny_Slice (thn (hl pins s1 σ H1 _ I1 q1) λvl s2 z890=>?_)
 obtain ⟨l,H2,I2,pl,q2⟩:=z890
 refine thn (hu pins s2 σ H2 _ I2 q2) λvu s3 z891=>?_
 obtain ⟨u,H3,I3,pu,q3⟩:=z891
 rw [evalPart_none]
 refine wpAny_pure ?_
 have I4:Inv X pins σ H3 { s3 with heap:=s3.heap.push { cls:=.type "slice", data:=.fields #[vl,vu,.none] } }:=I3.kept (t':=s3.toks) λb ob q=>Heap.get?_push_of_some _ q
 obtain ⟨T,id,hT,ht,hg⟩:=hr pins { s3 with heap:=s3.heap.push { cls:=.type "slice", data:=.fields #[vl,vu,.none] } } σ H3 x v vl vu l u s3.heap.objs.size Q I4 r1 (Heap.IsSliceOf.new ..) pl pu q3
 show wpAny (model X.prog X.w) X.A (subscriptTail e (.Slice lo hi none p2) v (.ref s3.heap.objs.size)) (EP X pins σ Q) X.xe { s3 with heap:=s3.heap.push { cls:=.type "slice", data:=.fields #[vl,vu,.none] } }
 exact tail_any (ops:=[.ref s3.heap.objs.size,v]) ht hT hg (by with_unfolding_all rfl)
def cutV (xs:List V) (lo hi:Option Int):List V:=(xs.drop (HT.sIx xs.length 0 lo)).take (HT.sIx xs.length xs.length hi - HT.sIx xs.length 0 lo)
theorem cutV_length (xs:List V) (lo hi:Option Int):(cutV xs lo hi).length<=xs.length:=by
 unfold cutV
 rw [zY,ya]
 omega
end
end L2
namespace L2
open PySem PySem.Spec PyProof.Rows
def ixN (n:Nat) (i:Int):Option Nat:=if 0<=i then (if i < n then some i.toNat else none) else if -(n:Int)<=i then some (i + n).toNat else none
def atI {α:Type} (xs:List α) (i:Int):Option α:=(ixN xs.length i).bind λj=>xs[j]?
theorem ixN_seq {n:Nat}{i:Int}{j:Nat} (h:ixN n i=some j):seqIndex? i n=some j/\j < n/\-(n:Int)<=i/\i < n:=by
 unfold ixN at h
 by_cases h0:0<=i
 ·rw [if_pos h0] at h
  by_cases h1:i < n
  ·rw [if_pos h1] at h
   have e:i.toNat=j:=Option.some.inj h
   exact ⟨by rw [seqIndex_of h0 h1,e],by omega,by omega,h1⟩
  ·rw [if_neg h1] at h;cases h
 ·rw [if_neg h0] at h
  by_cases h1:-(n:Int)<=i
  ·rw [if_pos h1] at h
   have e:(i + n).toNat=j:=Option.some.inj h
   exact ⟨by rw [seqIndex_neg (by omega) h1,e],by omega,h1,by omega⟩
  ·rw [if_neg h1] at h;cases h
theorem atI_get {α:Type}{xs:List α}{i:Int}{v:α} (h:atI xs i=some v):∃ j,seqIndex? i xs.length=some j/\xs[j]?=some v/\j < xs.length/\-(xs.length:Int)<=i/\i < xs.length:=by
 unfold atI at h
 cases e:ixN xs.length i with
 | none=>rw [e] at h;cases h
 | some j=>
  rw [e] at h
  obtain ⟨h1,h2,h3,h4⟩:=ixN_seq e
  exact ⟨j,h1,h,h2,h3,h4⟩
theorem wB {α:Type}{xs:List α}{j:Nat}{v:α} (h:xs[j]?=some v):atI xs (j:Int)=some v:=by
 have hj:j < xs.length:=(zT.mp h).1
 have e:ixN xs.length (j:Int)=some j:=by
  unfold ixN
  rw [if_pos (by omega),if_pos (by omega)];simp
 unfold atI;rw [e];exact h
def PlainIx (b:Expr):Prop:=∀ o i,subscripted b false o i=operate [o,i] (getItem o i)
def IxR (X:Cx) (r:R2):Prop:=
 ∀ (value slice:Expr) (pins:List (Addr×Obj)) (s:Shared) (σ:St) (H:Hp) (x y:V) (v u:Value) (Q:VK),Inv X pins σ H s->RelV x v->RelV y u->r x y H Q ->
  subscripted slice false v u=operate [v,u] (getItem v u)->wpAny (model X.prog X.w) X.A (subscriptTail value slice v u) (EP X pins σ Q) X.xe s
def MtR (X:Cx) (id:String) (r:V->List V->Hp->VK->Prop):Prop:=
 ∀ (pins:List (Addr×Obj)) (s:Shared) (σ:St) (H:Hp) (x:V) (xs:List V) (v:Value) (us:List Value) (Q:VK),Inv X pins σ H s->RelV x v->Vals xs us->r x xs H Q ->
  wpAny (model X.prog X.w) X.A (call (.builtin id) (v::us)) (EP X pins σ Q) X.xe s
section
variable {X:Cx}{a b:Expr}{ta tb:TE}{pos:Pos}
theorem xU {r:R2} (hr:IxR X r) (ha:PE X a ta) (hb:PE X b tb) (hs:PlainIx b):PE X (.Subscript a b pos) (tOp r ta tb):=by
 intro pins s σ H Q I h
 exact Subscript_ (binT ha hb I h λv u s2 x y H2 I2 rx ry q=>hr a b pins s2 σ H2 x y v u Q I2 rx ry q (hs _ _))
def rIxL (K:PySem.W.Frag):R2:=λx y H Q=>∃ p xs i v,x=.ref p/\y=.int i/\SqL K H p xs/\atI xs i=some v/\Q v H
def rIxT (K:PySem.W.Frag):R2:=λx y H Q=>∃ p xs i v,x=.ref p/\y=.int i/\SqT K H p xs/\atI xs i=some v/\Q v H
def rIxS:R2:=λx y H Q=>∃ z i c,x=.str z/\y=.int i/\z.length<=sizeLine/\atI z.cps.toList i=some c/\Q (.str ⟨#[c]⟩) H
theorem ix_list:IxR X (rIxL X.K):=by
 intro value slice pins s σ H x y v u Q I rx ry h hs
 obtain ⟨p,xs,i,z,rfl,rfl,hq,he,q⟩:=h
 cases rx
 obtain ⟨t,rfl⟩:=ry
 obtain ⟨its,r,pl,hz⟩:=I.list hq
 obtain ⟨j,h1,h2,h3,h4,h5⟩:=atI_get he
 obtain ⟨w,ew,rw'⟩:=r.get h2
 have hl:=r.length
 have hn:=line63
 have fin:EP X pins σ Q w s:=⟨z,H,I,rw',q⟩
 by_cases h0:0<=i
 ·have hj:i.toNat=j:=by
   rw [seqIndex_of h0 h5] at h1
   exact Option.some.inj h1
  exact item_listR pl.isList h0 (by omega) (by rw [hj];simpa using ew) fin hs
 ·have hj:(i + (its.toArray.size:Int)).toNat=j:=by
   rw [seqIndex_neg (by omega) h4] at h1
   rw [zF,<- hl]
   exact Option.some.inj h1
  exact subscriptTail_builtinR (x:=w) pl.isList.typeIs slot_list_getitem.lookup
   (wpAny_getItem_list_neg (Q:=λr s'=>r=w/\EP X pins σ Q r s') pl.isList (by omega) (by rw [zF] <;> omega) (by omega) (by rw [hj];simpa using ew) ⟨rfl,fin⟩) hs
theorem ix_tup:IxR X (rIxT X.K):=by
 intro value slice pins s σ H x y v u Q I rx ry h hs
 obtain ⟨p,xs,i,z,rfl,rfl,hq,he,q⟩:=h
 cases rx
 obtain ⟨t,rfl⟩:=ry
 obtain ⟨its,r,pl,hz⟩:=I.tuple hq
 obtain ⟨j,h1,h2,h3,h4,h5⟩:=atI_get he
 obtain ⟨w,ew,rw'⟩:=r.get h2
 have hl:=r.length
 have hn:=line63
 have fin:EP X pins σ Q w s:=⟨z,H,I,rw',q⟩
 exact subscriptTail_builtinR (x:=w) pl.typeIs slot_tuple_getitem.lookup
  (getItem_tuple (j:=j) (Q:=λr s'=>r=w/\EP X pins σ Q r s') pl (by omega) (by omega) (by rw [zF,<- hl];exact h1) (by simpa using ew) ⟨rfl,fin⟩) hs
theorem ix_str:IxR X rIxS:=by
 intro value slice pins s σ H x y v u Q I rx ry h hs
 obtain ⟨z,i,c,rfl,rfl,hz,he,q⟩:=h
 obtain ⟨t,rfl⟩:=rx
 obtain ⟨t',rfl⟩:=ry
 obtain ⟨j,h1,h2,h3,h4,h5⟩:=atI_get he
 have hl:z.cps.toList.length=z.length:=by simp [Str.length]
 rw [hl] at h1 h4 h5
 have hn:=line63
 exact tail_any (typeIs_str s z t) slot_str_getitem.lookup (getItem_str (c:=c) (by
  have e1:decide (i < -(2 ^ 63:Int))=false:=decide_eq_false (by omega)
  have e2:decide (i ≥ 2 ^ 63)=false:=decide_eq_false (by omega)
  rw [e1,e2,Bool.or_false]) (by rw [h1];simpa using h2) ⟨.str ⟨#[c]⟩,H,I.tok _,⟨_,rfl⟩,q⟩) hs
theorem mapSeq_set (its:List Value) (n j:Nat) (u:Value):Obj.mapSeq (·.setIfInBounds j u) { cls:=.type "list", data:=.seq its.toArray n }={ cls:=.type "list", data:=.seq (its.set j u).toArray n }:=by
 simp [Obj.mapSeq]
theorem Inv.lst {pins:List (Addr×Obj)}{σ:St}{H:Hp}{s:Shared}{p:Addr}{xs:List V} (I:Inv X pins σ H s) (h:H p=some (.lst xs)) :
  ∃ (its:List Value) (n:Nat),Vals xs its/\s.heap.get? p=some { cls:=.type "list", data:=.seq its.toArray n }/\xs.length<=sizeLine:=by
 obtain ⟨z,its,n,r,e⟩:=I.hok p _ h
 exact ⟨its,n,r,e,z⟩
theorem Inv.lstUpd {pins:List (Addr×Obj)}{σ:St}{H:Hp}{s:Shared}{p:Addr}{xs ys:List V}{its its':List Value}{n n':Nat}{f:Obj->Obj} (I:Inv X pins σ H s) (h:H p=some (.lst xs))
  (ho:s.heap.get? p=some { cls:=.type "list", data:=.seq its.toArray n }) (hf:f { cls:=.type "list", data:=.seq its.toArray n }={ cls:=.type "list", data:=.seq its'.toArray n' }) (r:Vals ys its') (hz:ys.length<=sizeLine) (t:Nat) :
  Inv X pins σ (upd H p (.lst ys)) { s with heap:=s.heap.update p f,toks:=t }:=by
 have e:(s.heap.update p f).get? p=some { cls:=.type "list", data:=.seq its'.toArray n' }:=by
  rw [Heap.get?_update_self f ho (by rw [hf] <;> rfl),hf]
 refine I.write (x:=p) (e:=p) (by rw [h];trivial) (.inl rfl) (λb u hb q=>(Heap.get?_update_other _ _ (Ne.symm hb)).trans q) ⟨_,e⟩ ?_
 exact ⟨hz,its',n',r,e⟩
def rSetL:V->V->V->Hp->(Hp->Prop)->Prop:=λo i v H Q=>∃ p xs k j,o=.ref p/\i=.int k/\H p=some (.lst xs)/\ixN xs.length k=some j/\Q (upd H p (.lst (xs.set j v)))
theorem set_list:PSet X rSetL:=by
 intro pins s σ H o i v ov iv u Q I ro ri rv h
 obtain ⟨p,xs,k,j,rfl,rfl,hp,hj,q⟩:=h
 cases ro
 obtain ⟨t,rfl⟩:=ri
 obtain ⟨its,n,r,ho,hz⟩:=I.lst hp
 obtain ⟨h1,h2,h3,h4⟩:=ixN_seq hj
 have hl:=r.length
 have hn:=line63
 have I':Inv X pins σ (upd H p (.lst (xs.set j v))) { s with heap:=s.heap.update p (Obj.mapSeq (·.setIfInBounds j u)) }:=
  I.lstUpd hp ho (mapSeq_set its n j u) (r.set rv j) (by rw [List.length_set];exact hz) s.toks
 by_cases h0:0<=k
 ·have hk:k.toNat=j:=by
   rw [seqIndex_of h0 h4] at h1
   exact Option.some.inj h1
  exact PySem.W.ki_setAt ho h0 (by omega) (by rw [zF,<- hl];exact h4) (by rw [hk];exact ⟨_,I',q⟩)
 ·have hk:(k + (its.toArray.size:Int)).toNat=j:=by
   rw [seqIndex_neg (by omega) h3] at h1
   rw [zF,<- hl]
   exact Option.some.inj h1
  exact PySem.W.ki_setBack ho (by omega) (by rw [zF,<- hl];exact h3) (by omega) (by rw [hk];exact ⟨_,I',q⟩)
theorem slice_bounds (lo hi:Option Int) (n:Nat):(sliceBounds lo hi none n).1=((HT.sIx n 0 lo:Nat):Int)/\(sliceBounds lo hi none n).2.1=((HT.sIx n n hi:Nat):Int)/\(sliceBounds lo hi none n).2.2=1:=by
 refine ⟨?_,?_,rfl⟩
 ·cases lo with
  | none=>simp [sliceBounds,HT.sIx]
  | some i=>
   simp only [sliceBounds,HT.sIx,Option.getD_none,show (1:Int) > 0 by decide,if_true]
   by_cases h:i < 0
   ·simp only [h,if_true] <;> omega
   ·simp only [h,if_false] <;> omega
 ·cases hi with
  | none=>simp [sliceBounds,HT.sIx]
  | some i=>
   simp only [sliceBounds,HT.sIx,Option.getD_none,show (1:Int) > 0 by decide,if_true]
   by_cases h:i < 0
   ·simp only [h,if_true] <;> omega
   ·simp only [h,if_false] <;> omega
theorem slicePick_cut (its:List Value) (lo hi:Option Int):slicePick its.toArray lo hi none=((its.drop (HT.sIx its.length 0 lo)).take (HT.sIx its.length its.length hi - HT.sIx its.length 0 lo)).toArray:=by
 obtain ⟨h1,h2,h3⟩:=slice_bounds lo hi its.toArray.size
 unfold slicePick
 rw [h1,h2,h3]
 simp only [sliceRange_one,pick_run,zF] <;> rfl
def rSlL (K:PySem.W.Frag):V->Option Int->Option Int->Hp->VK->Prop:=λx lo hi H Q=>∃ a xs,x=.ref a/\SqL K H a xs/\∀ p,H p=none->Q (.ref p) (upd H p (.lst (cutV xs lo hi)))
theorem sl_list:SlR X (rSlL X.K):=by
 intro pins s σ H x v vl vu lo hi sl Q I rx hs pl pu h
 obtain ⟨a,xs,rfl,hx,q⟩:=h
 cases rx
 obtain ⟨its,r,ht,hz⟩:=I.list hx
 have hlen:=r.length
 refine ⟨"list", _,slot_list_getitem.lookup,ht.isList.typeIs,?_⟩
 refine wpAny_getItem_list_slice ht.isList hs pl pu .none (by simp) ?_ (by rw [zF] <;> omega)
 rw [slicePick_cut,<- hlen]
 refine ⟨.ref s.heap.objs.size,_,I.laid (t':=s.toks) (o:=.lst (cutV xs lo hi)) (λb ob q=>Heap.get?_push_of_some _ q) (zD _) ?_,rfl,q _ (I.hok.fresh (zD _))⟩
 exact ⟨zj (cutV_length xs lo hi) hz,_,0,(r.drop (HT.sIx xs.length 0 lo)).take (HT.sIx xs.length xs.length hi - HT.sIx xs.length 0 lo),Heap.get?_push_size _ rfl⟩
def flatV:V->Bool
 | .non=>true
 | .bl _=>true
 | .int _=>true
 | .str _=>true
 | _=>false
def eqV:V->V->Bool
 | .non,.non=>true
 | .bl a,.bl b=>a == b
 | .bl a,.int b=>(if a then 1 else 0) == b
 | .int a,.bl b=>a == (if b then 1 else 0)
 | .int a,.int b=>a == b
 | .str a,.str b=>a == b
 | _,_=>false
theorem eqAt_V {A:Around}{s:Shared}{y x:V}{u v:Value} (ry:RelV y u) (rx:RelV x v) (fy:flatV y=true) (fx:flatV x=true):SeqAt.EqAt A s u v (eqV y x):=by
 cases y with
 | non=>
  cases ry
  cases x with
  | non=>cases rx;exact SeqAt.EqAt.same _
  | bl b=>cases rx;exact SeqAt.EqAt.none_bool b
  | int b=>obtain ⟨t,rfl⟩:=rx;exact SeqAt.EqAt.none_int b t
  | str b=>obtain ⟨t,rfl⟩:=rx;exact SeqAt.EqAt.none_str b t
  | _=>exact absurd (show false=true from fx) zL
 | bl a=>
  cases ry
  cases x with
  | non=>cases rx;exact SeqAt.EqAt.bool_none a
  | bl b=>cases rx;exact SeqAt.EqAt.bool_bool a b
  | int b=>obtain ⟨t,rfl⟩:=rx;exact SeqAt.EqAt.bool_int a b t
  | str b=>obtain ⟨t,rfl⟩:=rx;exact SeqAt.EqAt.bool_str a b t
  | _=>exact absurd (show false=true from fx) zL
 | int a=>
  obtain ⟨t',rfl⟩:=ry
  cases x with
  | non=>cases rx;exact SeqAt.EqAt.int_none a t'
  | bl b=>cases rx;exact SeqAt.EqAt.int_bool a t' b
  | int b=>obtain ⟨t,rfl⟩:=rx;exact SeqAt.EqAt.int_int a t' b t
  | str b=>obtain ⟨t,rfl⟩:=rx;exact SeqAt.EqAt.int_str a t' b t
  | _=>exact absurd (show false=true from fx) zL
 | str a=>
  obtain ⟨t',rfl⟩:=ry
  cases x with
  | non=>cases rx;exact SeqAt.EqAt.str_none a t'
  | bl b=>cases rx;exact SeqAt.EqAt.str_bool a t' b
  | int b=>obtain ⟨t,rfl⟩:=rx;exact SeqAt.EqAt.str_int a t' b t
  | str b=>obtain ⟨t,rfl⟩:=rx;exact SeqAt.EqAt.str_str a t' b t
  | _=>exact absurd (show false=true from fx) zL
 | _=>exact absurd (show false=true from fy) zL
def eqU (x:V) (u:Value):Bool:=match u with
 | .none=>eqV .non x
 | .bool b=>eqV (.bl b) x
 | .int i _=>eqV (.int i) x
 | .str z _=>eqV (.str z) x
 | _=>false
theorem eqU_of {x y:V}{u:Value} (r:RelV y u) (f:flatV y=true):eqU x u=eqV y x:=by
 cases y with
 | non=>cases r;rfl
 | bl b=>cases r;rfl
 | int i=>obtain ⟨t,rfl⟩:=r;rfl
 | str z=>obtain ⟨t,rfl⟩:=r;rfl
 | _=>exact absurd (show false=true from f) zL
theorem any_eqU {x:V}:∀ {xs:List V}{us:List Value},Vals xs us->xs.all flatV=true->us.any (eqU x)=xs.any λy=>eqV y x
 | _,_,.nil,_=>rfl
 | y::xs,u::us,.cons r t,f=>by
  rw [List.all_cons,zz] at f
  rw [List.any_cons,List.any_cons,eqU_of r f.1,any_eqU t f.2]
theorem mem_eqAt {A:Around}{s:Shared}{x:V}{v:Value} (rx:RelV x v) (fx:flatV x=true):∀ {xs:List V}{us:List Value},Vals xs us->xs.all flatV=true->∀ u∈us,SeqAt.EqAt A s u v (eqU x u)
 | _,_,.nil,_=>λu hu=>by cases hu
 | y::xs,u::us,.cons r t,f=>λu' hu=>by
  rw [List.all_cons,zz] at f
  rcases zH.mp hu with rfl | hu
  ·rw [eqU_of r f.1];exact eqAt_V r rx f.1 fx
  ·exact mem_eqAt rx fx t f.2 u' hu
def inV (x:V) (xs:List V):Bool:=xs.any λy=>eqV y x
def rIn (K:PySem.W.Frag) (neg:Bool):R2:=λx y H Q=>∃ p xs,y=.ref p/\(SqL K H p xs\/SqT K H p xs)/\flatV x=true/\xs.all flatV=true/\Q (.bl (if neg then !inV x xs else inV x xs)) H
theorem op_in_seq:OpR X (compareOp .In) (rIn X.K false):=by
 intro pins s σ H x y v u Q I rx ry h
 obtain ⟨p,xs,rfl,hq,fx,fs,q⟩:=h
 cases ry
 rcases hq with hq | hq
 ·obtain ⟨its,r,pl,hz⟩:=I.list hq
  refine SeqAt.in_listAt (eqU x) pl.isList (λw hw=>mem_eqAt rx fx r fs w (by simpa using hw)) ⟨.bl _,H,I,rfl,?_⟩
  rw [show its.toArray.any (eqU x)=its.any (eqU x) by simp,any_eqU r fs]
  exact q
 ·obtain ⟨its,r,pl,hz⟩:=I.tuple hq
  refine SeqAt.in_tupleAt (eqU x) pl (λw hw=>mem_eqAt rx fx r fs w (by simpa using hw)) ⟨.bl _,H,I,rfl,?_⟩
  rw [show its.toArray.any (eqU x)=its.any (eqU x) by simp,any_eqU r fs]
  exact q
theorem op_notIn_seq:OpR X (compareOp .NotIn) (rIn X.K true):=by
 intro pins s σ H x y v u Q I rx ry h
 obtain ⟨p,xs,rfl,hq,fx,fs,q⟩:=h
 cases ry
 rcases hq with hq | hq
 ·obtain ⟨its,r,pl,hz⟩:=I.list hq
  refine SeqAt.notIn_listAt (eqU x) pl.isList (λw hw=>mem_eqAt rx fx r fs w (by simpa using hw)) ⟨.bl _,H,I,rfl,?_⟩
  rw [show its.toArray.any (eqU x)=its.any (eqU x) by simp,any_eqU r fs]
  exact q
 ·obtain ⟨its,r,pl,hz⟩:=I.tuple hq
  refine SeqAt.notIn_tupleAt (eqU x) pl (λw hw=>mem_eqAt rx fx r fs w (by simpa using hw)) ⟨.bl _,H,I,rfl,?_⟩
  rw [show its.toArray.any (eqU x)=its.any (eqU x) by simp,any_eqU r fs]
  exact q
theorem call_len_seq:CallR X (.builtin "len") (λxs H Q=>∃ p ys,xs=[.ref p]/\(SqL X.K H p ys\/SqT X.K H p ys)/\Q (.int ys.length) H):=by
 intro pins s σ H xs us Q I r h
 obtain ⟨p,ys,rfl,hq,q⟩:=h
 obtain ⟨u,rfl,rx⟩:=vals1 r
 cases rx
 have hn:=line63
 rcases hq with hq | hq
 ·obtain ⟨its,r',pl,hz⟩:=I.list hq
  have hlen:=r'.length
  exact Calls.call_len_list pl.isList (by simp only [zF] <;> omega) ⟨.int ys.length,H,I.tok _,⟨s.toks + 1,by rw [zF,hlen]⟩,q⟩
 ·obtain ⟨its,r',pl,hz⟩:=I.tuple hq
  have hlen:=r'.length
  exact len_tuple pl (by simp only [zF] <;> omega) ⟨.int ys.length,H,I.tok _,⟨s.toks + 1,by rw [zF,hlen]⟩,q⟩
theorem call_len_str:CallR X (.builtin "len") (λxs H Q=>∃ z,xs=[.str z]/\z.length<=sizeLine/\Q (.int z.length) H):=by
 intro pins s σ H xs us Q I r h
 obtain ⟨z,rfl,hz,q⟩:=h
 obtain ⟨u,rfl,t,rfl⟩:=vals1 r
 have hn:=line63
 exact len_str (by omega) ⟨.int z.length,H,I.tok _,⟨_,rfl⟩,q⟩
theorem call_list_of:CallR X (.type "list") (λxs H Q=>∃ p ys,xs=[.ref p]/\(SqL X.K H p ys\/SqT X.K H p ys)/\∀ l,H l=none->Q (.ref l) (upd H l (.lst ys))):=by
 intro pins s σ H xs us Q I r h
 obtain ⟨p,ys,rfl,hq,q⟩:=h
 obtain ⟨u,rfl,rx⟩:=vals1 r
 cases rx
 have fin:∀ (its:List Value),Vals ys its->ys.length<=sizeLine->∀ (h':Heap) (c':Nat),(∀ b o',s.heap.get? b=some o'->h'.get? b=some o') ->
   h'.get? s.heap.objs.size=some { cls:=.type "list", dict:=none,data:=.seq its.toArray c',slots:=#[] }->EP X pins σ Q (.ref s.heap.objs.size) { s with heap:=h' }:=λits r' hz h' c' kp e=>
  ⟨.ref s.heap.objs.size,_,I.laid (t':=s.toks) kp (zD _) (show ObjOk X.prog X.w _ h' _ (.lst ys) from ⟨hz,its,c',r',e⟩),rfl,q _ (I.hok.fresh (zD _))⟩
 rcases hq with hq | hq
 ·obtain ⟨its,r',pl,hz⟩:=I.list hq
  have hlen:=r'.length
  obtain ⟨o,ho,hc,n,hd⟩:=pl.isList
  exact call_list_seq p (.inl rfl) ho hc hd (λh' c' kp e=>fin its r' hz h' c' kp e) (by simp only [zF] <;> omega)
 ·obtain ⟨its,r',pl,hz⟩:=I.tuple hq
  have hlen:=r'.length
  obtain ⟨o,ho,hc,n,hd⟩:=pl
  exact call_list_seq p (.inr rfl) ho hc hd (λh' c' kp e=>fin its r' hz h' c' kp e) (by simp only [zF] <;> omega)
theorem call_tuple_of:CallR X (.type "tuple") (λxs H Q=>∃ p ys,xs=[.ref p]/\((SqL X.K H p ys/\∀ l,H l=none->Q (.ref l) (upd H l (.tup ys)))\/(SqT X.K H p ys/\Q (.ref p) H))):=by
 intro pins s σ H xs us Q I r h
 obtain ⟨p,ys,rfl,h⟩:=h
 obtain ⟨u,rfl,rx⟩:=vals1 r
 cases rx
 rcases h with ⟨hq,q⟩ | ⟨hq,q⟩
 ·obtain ⟨its,r',pl,hz⟩:=I.list hq
  have hlen:=r'.length
  refine call_tuple_list pl.isList (λh' kp=>?_) (by simp only [zF] <;> omega)
  have I1:Inv X pins σ H { s with heap:=h' }:=I.kept (t':=s.toks) kp
  have I2:Inv X pins σ (upd H h'.objs.size (.tup ys)) { s with heap:=h'.push { cls:=.type "tuple", data:=.seq its.toArray } }:=
   I1.laid (t':=s.toks) (λb o e=>Heap.get?_push_of_some _ e) (zD _) (show ObjOk X.prog X.w _ _ _ (.tup ys) from ⟨⟨hz,new_bare⟩,its,r',IsTup.new _ _⟩)
  exact ⟨.ref h'.objs.size,_,I2,rfl,q _ (I1.hok.fresh (zD _))⟩
 ·obtain ⟨its,r',pl,hz⟩:=I.tuple hq
  exact call_tuple_same pl ⟨.ref p,H,I,rfl,q⟩
def tyV (K:PySem.W.Frag) (T:String) (x:V) (H:Hp):Prop:=match x with
 | .str _=>T = "str"
 | .int _=>T = "int"
 | .ref p=>(T = "list" /\ ∃ xs,SqL K H p xs)\/(T = "tuple" /\ ((∃ o,K.lookup p=some o/\o.cls=.type "tuple" /\ o.dict=none)\/∃ xs,H p=some (.tup xs))) \/
   (T = "dict" /\ ((∃ kvs,H p=some (.dK kvs))\/∃ kvs,H p=some (.dT kvs)))\/(T = "set" /\ ∃ S n,H p=some (.set S n))
 | _=>False
theorem tyV_is {pins:List (Addr×Obj)}{σ:St}{H:Hp}{s:Shared}{T:String}{x:V}{v:Value} (I:Inv X pins σ H s) (r:RelV x v) (ty:tyV X.K T x H) :
  s.TypeIs v T/\∀ a,v=.ref a->∃ ob,s.heap.get? a=some ob/\ob.dict=none:=by
 cases x with
 | str z=>
  obtain ⟨t,rfl⟩:=r
  cases (show T = "str" from ty)
  exact ⟨typeIs_str s z t,λ_ e=>nomatch e⟩
 | int i=>
  obtain ⟨t,rfl⟩:=r
  cases (show T = "int" from ty)
  exact ⟨typeIs_int s i t,λ_ e=>nomatch e⟩
 | ref p=>
  cases r
  rcases ty with ⟨rfl,xs,hq⟩ | ⟨rfl,⟨o,hk,hc,hd⟩ | ⟨xs,hk⟩⟩ | ⟨rfl,hk⟩ | ⟨rfl,S,n,hk⟩
  ·obtain ⟨its,_,pl,_⟩:=I.list hq
   refine ⟨pl.isList.typeIs,λa e=>?_⟩
   cases e
   obtain ⟨o,n,e,c,hd,_⟩:=pl
   exact ⟨o,e,hd⟩
  ·refine ⟨⟨o,I.kIn p o hk,hc⟩,λa e=>?_⟩
   cases e
   exact ⟨o,I.kIn _ o hk,hd⟩
  ·obtain ⟨nb,_,_,o,e,c,_⟩:=I.hok p _ hk
   exact ⟨⟨o,e,c⟩,λa z=>by cases z;exact ⟨o,e,nb.2 o e⟩⟩
  ·have z:∃ o,s.heap.get? p=some o/\o.ExactDict:=by
    rcases hk with ⟨kvs,hk⟩ | ⟨kvs,hk⟩
    ·obtain ⟨_,_,_,_,o,_,_,e,ex,_⟩:=I.hok p _ hk
     exact ⟨o,e,ex⟩
    ·obtain ⟨_,_,_,_,o,_,_,e,ex,_⟩:=I.hok p _ hk
     exact ⟨o,e,ex⟩
   obtain ⟨o,e,ex⟩:=z
   refine ⟨⟨o,e,ex.1⟩,λa e2=>?_⟩
   cases e2
   exact ⟨o,e,ex.2.1⟩
  ·obtain ⟨o,_,_,_,e,ex,_⟩:=I.hok p _ hk
   refine ⟨⟨o,e,ex.1⟩,λa e2=>?_⟩
   cases e2
   exact ⟨o,e,ex.2.1⟩
 | _=>exact False.elim ty
def tBM0 (K:PySem.W.Frag) (T:String) (r:V->List V->Hp->VK->Prop) (to:TE):TE:=fun σ H Q=>to σ H λx H1=>tyV K T x H1/\r x [] H1 Q
def tBM (K:PySem.W.Frag) (T:String) (r:V->List V->Hp->VK->Prop) (to:TE) (t:TA):TE:=fun σ H Q=>to σ H λx H1=>tyV K T x H1/\t σ H1 λxs H2=>r x xs H2 Q
variable {o e:Expr}{es:List Expr}{to:TE}{t:TA}{name:Str}{apos cpos:Pos}{T id:String}{r:V->List V->Hp->VK->Prop}
theorem pe_bm0 (pa:PlainAttrs T) (slot:Slot T name id) (hty:typeOf (.builtin id)=pure (.type "method_descriptor")) (hm:MtR X id r) (ho:PE X o to)
  (hbase:attributeBase o name X.env (eval o X.env)=eval o X.env:=by rfl) (hline:(apos.endLine == cpos.line)=true:=by rfl):PE X (.Call (.Attribute o name apos) [] [] cpos) (tBM0 X.K T r to):=by
 intro pins s σ H Q I h
 refine wpAny_Call_method0_late hbase hline (thn (ho pins s σ H _ I h) λv s1 z892=>?_)
 obtain ⟨x,H1,I1,r1,ty,q1⟩:=z892
 obtain ⟨h1,h2⟩:=tyV_is I1 r1 ty
 exact ⟨T,id,pa,slot,hty,h1,h2,Calls.callWith_builtin rfl (PySem.evalArgs_none (hm pins s1 σ H1 x [] v [] Q I1 r1 .nil q1))⟩
theorem wP (pa:PlainAttrs T) (slot:Slot T name id) (hty:typeOf (.builtin id)=pure (.type "method_descriptor")) (hm:MtR X id r) (ho:PE X o to) (ha:PA X (e::es) t)
  (hbase:attributeBase o name X.env (eval o X.env)=eval o X.env:=by rfl)
  (hfew:((backTo cpos (starEach (e::es) X.env)).all (λx=>!x.1) && (backToKw cpos (keywordEach [] X.env)).all (λx=>x.1.isSome)
   && decide ((e::es).length + ([]:List Keyword).length + (if ([]:List Keyword).isEmpty then 0 else 1) < 30))=true:=by rfl)
  (hline:(apos.endLine == cpos.line)=true:=by rfl) (hs:starEach (e::es) X.env=(false,eval e X.env)::starEach es X.env:=by rfl) (hplain:(backTo cpos (starEach es X.env)).any (·.1)=false:=by rfl) :
  PE X (.Call (.Attribute o name apos) (e::es) [] cpos) (tBM X.K T r to t):=by
 intro pins s σ H Q I h
 refine wpAny_Call_method_late hbase hfew hline rfl (thn (ho pins s σ H _ I h) λv s1 z893=>?_)
 obtain ⟨x,H1,I1,r1,ty,q1⟩:=z893
 obtain ⟨h1,h2⟩:=tyV_is I1 r1 ty
 refine ⟨T,id,pa,slot,hty,h1,h2,?_⟩
 have hA:=ha cpos pins s1 σ H1 _ I1 q1
 rw [hs] at hA ⊢
 refine Calls.callWith_builtin (by show (false || (backTo cpos (starEach es X.env)).any (·.1))=false;rw [hplain] <;> rfl) (Calls.evalArgs_plain ?_)
 exact thn hA λus s2 ⟨vs,H2,I2,r2,q2⟩=>hm pins s2 σ H2 x vs v us Q I2 r1 r2 q2
/- xs.append(e),list.index on a module's tuple .. are MtR facts of 06m -/
end
end L2
namespace L2
open PySem PySem.Spec PyProof.Rows
def MtM (X:Cx) (id:String) (r:V->List V->Hp->VK->Prop):Prop:=
 ∀ (pins:List (Addr×Obj)) (s:Shared) (σ:St) (H:Hp) (x:V) (xs:List V) (v:Value) (us:List Value) (Q:VK),Inv X pins σ H s->RelV x v->Vals xs us->r x xs H Q ->
  wpAny (model X.prog X.w) X.A (call (.builtin id) (v::us)) (EP X pins σ Q) X.xe s
theorem Vals.one:∀ {x:V}{us:List Value},Vals [x] us->∃ u,us=[u]/\RelV x u
 | _,_,.cons r .nil=>⟨_,rfl,r⟩
theorem Vals.zero:∀ {us:List Value},Vals [] us->us=[]
 | _,.nil=>rfl
theorem Vals.reverse {xs:List V}{us:List Value} (h:Vals xs us):Vals xs.reverse us.reverse:=by
 induction h with
 | nil=>exact .nil
 | cons r t ih=>rw [List.reverse_cons,List.reverse_cons];exact Vals.append ih (.cons r .nil)
section
variable {X:Cx}{pins:List (Addr×Obj)}{σ:St}{H:Hp}{s:Shared}{l b:Addr}{xs ys zs:List V}
theorem Inv.lset {its its':List Value}{n:Nat}{f:Array Value->Array Value}{t':Nat} (I:Inv X pins σ H s) (hH:H l=some (.lst xs))
  (e:s.heap.get? l=some { cls:=.type "list", data:=.seq its.toArray n }) (hf:f its.toArray=its'.toArray) (hv:Vals ys its') (hz:ys.length<=sizeLine) :
  Inv X pins σ (upd H l (.lst ys)) { s with heap:=s.heap.update l (Obj.mapSeq f),toks:=t' }:=by
 have q:=PySem.IsL.update e f
 rw [hf] at q
 refine I.write (x:=l) (e:=l) (by rw [hH];exact trivial) (.inl rfl) (λb' u hb hu=>(Heap.get?_update_other s.heap (Obj.mapSeq f) (Ne.symm hb)).trans hu) ⟨_,q⟩ ?_
 exact ⟨hz,its',_,hv,q⟩
theorem Inv.lnew {its:List Value}{t':Nat} (I:Inv X pins σ H s) (hv:Vals ys its) (hz:ys.length<=sizeLine) :
  Inv X pins σ (upd H s.heap.objs.size (.lst ys)) { s with heap:=s.heap.push { cls:=.type "list", data:=.seq its.toArray },toks:=t' }:=
 I.laid (λ_ _ q=>Heap.get?_push_of_some _ q) (zD _) ⟨hz,its,0,hv,Heap.get?_push_size _ rfl⟩
theorem Inv.fresh (I:Inv X pins σ H s):H s.heap.objs.size=none:=I.hok.fresh (zD _)
theorem Inv.lstM (I:Inv X pins σ H s) (hH:H l=some (.lst xs)):xs.length<=sizeLine/\∃ (its:List Value) (n:Nat),Vals xs its/\xs.length=its.length/\s.heap.get? l=some { cls:=.type "list", data:=.seq its.toArray n }:=by
 obtain ⟨z,its,n,r,e⟩:=I.hok l _ hH
 exact ⟨z,its,n,r,r.length,e⟩
theorem notLongL {n:Nat} (h:n<=sizeLine):Builtin.List.listTooLong n=false:=by
 unfold Builtin.List.listTooLong
 exact decide_eq_false (by omega)
end
section
variable {X:Cx}
def rAppend:V->List V->Hp->VK->Prop:=λx vs H Q=>∃ l xs y,x=.ref l/\vs=[y]/\H l=some (.lst xs)/\xs.length < sizeLine/\Q .non (upd H l (.lst (xs++[y])))
theorem xr:MtM X "list.append" rAppend:=by
 intro pins s σ H x vs v us Q I rx rv h
 obtain ⟨l,xs,y,rfl,rfl,hH,hz,q⟩:=h
 cases rx
 obtain ⟨u,rfl,ru⟩:=rv.one
 obtain ⟨z,its,n,r,hl,e⟩:=I.lstM hH
 refine call_meets F.slot_list_append ⟨_,e,rfl⟩ F.entry_list_append (F.args_list_append_2 _ _) (PySem.list_append l its.toArray n u (by rw [zF];omega)) ⟨e,?_⟩
 refine ⟨.non,_,I.lset (its':=its++[u]) hH e (by simp) (r.append (.cons ru .nil)) ?_,rfl,q⟩
 rw [zI,zm]
 omega
def rClear:V->List V->Hp->VK->Prop:=λx vs H Q=>∃ l xs,x=.ref l/\vs=[]/\H l=some (.lst xs)/\Q .non (upd H l (.lst []))
theorem mt_clear:MtM X "list.clear" rClear:=by
 intro pins s σ H x vs v us Q I rx rv h
 obtain ⟨l,xs,rfl,rfl,hH,q⟩:=h
 cases rx
 have hus:=rv.zero
 subst hus
 obtain ⟨z,its,n,r,hl,e⟩:=I.lstM hH
 refine call_meets F.slot_list_clear ⟨_,e,rfl⟩ F.entry_list_clear (F.args_list_clear_1 _) (AutoSeq1.list_clear_list_0 l its.toArray n (by rw [zF];omega)) ⟨e,?_⟩
 exact ⟨.non,_,I.lset (its':=[]) (ys:=[]) hH e rfl .nil (zf _),rfl,q⟩
def rCat:R2:=λx y H Q=>∃ l b xs zs,x=.ref l/\y=.ref b/\H l=some (.lst xs)/\H b=some (.lst zs)/\xs.length + zs.length<=sizeLine/\∀ p,H p=none->Q (.ref p) (upd H p (.lst (xs++zs)))
theorem op_cat:OpR X (binaryOp .Add) rCat:=by
 intro pins s σ H x y v u Q I rx ry h
 obtain ⟨l,b,xs,zs,rfl,rfl,hH,hB,hz,q⟩:=h
 cases rx
 cases ry
 obtain ⟨z,its,n,r,hl,e⟩:=I.lstM hH
 obtain ⟨z2,its2,n2,r2,hl2,e2⟩:=I.lstM hB
 refine PySem.P.add_list e e2 ?_ (by rw [zF,zF];omega)
 have ea:its.toArray++its2.toArray=(its++its2).toArray:=by simp
 rw [ea]
 exact ⟨.ref _,_,I.lnew (t':=s.toks) (r.append r2) (by rw [zI];omega),rfl,q _ I.fresh⟩
end
section
variable {prog:Program}{w:World}{A:Around}{E:Value->Shared->Prop}{s:Shared}
set_option maxRecDepth 100000 in
end
section
variable {X:Cx}
end
end L2
namespace Att
open PySem PySem.W PySem.Calls PyProof.Rows
theorem ints_of_wellAll {P:Params}{h:Heap}:∀ (ns:List Int) (vs:List Value),WellAll P h vs (ns.map WData.int)->IntsAre vs ns:=by
 intro ns
 induction ns with
 | nil=>
  intro vs w
  rw [yX] at w
  cases w
  exact .nil
 | cons n ns ih=>
  intro vs w
  rw [zu] at w
  cases w with
  | cons a b=>
   cases a
   exact .cons _ _ (ih _ b)
theorem script_of {l:OpenLaw}{n:Nat} (hn:l.most=some n) {P:Params}{h:Heap}{args:List WData}{vals:List Value}
  (hpre:l.row.toRowW.claim.pre args=true) (hwl:WellAll P h vals args) :
  ∃ a vs ns,vals=[Value.ref a]/\args=[WData.list (ns.map WData.int)]/\h.get? a=some { cls:=.type "list", data:=.seq vs.toArray }/\IntsAre vs ns/\ns.length<=n:=by
 have hsh:WShape.hasAll [] args [.list .int]=true:=(pre_splitW hpre).1
 have hc:l.pre.holds [] { args:=args }=true:=(pre_splitW hpre).2
 obtain ⟨d,r,rfl,h1,h2⟩:=hasAllW_cons hsh
 obtain rfl:=hasAllW_nil h2
 obtain ⟨xs,rfl,h3⟩:=hasW_list h1
 obtain ⟨ns,rfl⟩:=items_int h3
 have hlen:ns.length<=n:=by
  unfold OpenLaw.pre at hc
  have h4:(WTm.not (.lt (.lit (.int (n:Int))) (.len (.arg 0)))).holds [] { args:=[.list (ns.map .int)] }=true:=by
   have h4:=(holds_andW hc).1
   rw [hn] at h4
   exact h4
  have h5:=condW_of h4 (w_not (w_lt w_lit (w_len_list (w_arg rfl))))
  rw [zA] at h5
  refine Nat.le_of_not_lt λq=>?_
  have q':(n:Int) < ((ns.length:Nat):Int):=by omega
  first
   | (rw [decide_eq_true q'] at h5;exact absurd h5 (by decide))
   | (simp at h5;omega)
 cases hwl with
 | cons w1 w2=>
  cases w2
  cases w1 with
  | list ho hall=>exact ⟨_,_,ns,rfl,rfl,ho,ints_of_wellAll ns _ hall,hlen⟩
theorem post_true (l:OpenLaw) (args:List WData):l.row.toRowW.claim.post args (.bool true) args=true:=
 postW_of (r:=l.row.toRowW) (X:=(true == true))
  (show WShape.has [] (.bool true) .bool=true by first | rfl | decide | simp [WShape.has,WShape.arms,WShape.armsAll])
  (show (WTm.eq .res (.lit (.bool true))).value [] { args:=args,res:=some (.bool true),after:=args }=some (.bool (true == true)) from w_eq_bool (w_res rfl) w_lit) rfl
theorem attach_call {l:OpenLaw}{n:Nat}{q:Program}{loose:List Str}{XP:(Str->Option Value)->Heap->Prop}{YP:World->Heap->Prop}{d:DefRec}
  (hn:l.most=some n) (hdf:d.params.defaults=[])
  (call:∀ (w:World) (s₀ s₁:Shared) (mg mb:Str->Option Value) (fa:Addr) (o:Obj) (pm cd doc:Value) (a:Addr) (vs:List Value) (ns:List Int),
   Ground q loose [] XP w s₀ mg mb s₁.heap->YP w s₁.heap ->
   s₁.heap.get? fa=some o->o.data=.func (docDef d.name d.params d.body d.scope pm cd doc)->s₁.heap.CodeRec cd d.name->mg d.name=some (.ref fa) ->
   s₁.heap.get? a=some { cls:=.type "list", data:=.seq vs.toArray }->IntsAre vs ns->ns.length<=n->s₁.gens=#[] ->
   codeAny (model l.prog w) callerA (.call (.ref fa) ⟨[.ref a],[]⟩) (λr s'=>r=.ok (.ret (.bool true))/\OldK s₁.heap s'.heap/\s'.os=s₁.os/\AllBare s'.gens) s₁) :
  WalkO q loose XP YP l.row.toRowW d [] (λf vs=>PySem.call f vs):=by
 intro w s₀ s₁ mg mb G Y fa o pm cd doc dV kV ho hd hcd hD hmg hg args vals as hpre hlay hrd hwl hlo
 obtain rfl:dV=.none:=Dflts.none hD hdf
 obtain rfl:kV=.none:=Dflts.noKw hD
 obtain ⟨a,vs,ns,rfl,rfl,hobj,hints,hlen⟩:=script_of hn hpre hwl
 refine enter_call (codeAny_mono (call w s₀ s₁ mg mb fa o pm cd doc a vs ns G Y ho (fd_plain hd) hcd hmg hobj hints hlen hg) λr s' hq=>?_)
 obtain ⟨rfl,h2,h3,h4⟩:=hq
 exact ⟨.inl ⟨.bool true,.bool true,[],rfl,λ_=>rfl,.bool true,post_true l _,λ_=>⟨List.Pairwise.nil,λ_ hm=>(nomatch hm)⟩⟩,h2,h3,h4⟩
section
variable {prog:Program}{w:World}{A:Around}{E:Value->Shared->Prop}{s:Shared}{K:Frag}
def ledger (h:Heap) (L d:Addr):List (Addr×Obj):=(List.range h.objs.size).filterMap λa=>if a=L\/a=d then none else (h.get? a).map λo=>(a,o)
end
end Att
namespace L2
open PySem PySem.Spec PyProof.Rows
theorem vals_ints:∀ {vs:List Value}{ns:List Int},IntsAre vs ns->Vals (ns.map V.int) vs
 | _,_,.nil=>.nil
 | _,_,.cons n t h=>.cons ⟨t,rfl⟩ (vals_ints h)
end L2
namespace L2
open PySem PySem.Spec PyProof.Rows
end L2
namespace L2
open PySem PySem.Spec PyProof.Rows
def defArgs (s:Stmt):Arguments:=match s with
 | .FunctionDef _ a _ _ _ _ _ _ _ _=>a
 | _=>{ posonlyargs:=[],args:=[],vararg:=none,kwonlyargs:=[],kw_defaults:=[],kwarg:=none,defaults:=[] }
def defBody (s:Stmt):List Stmt:=match s with
 | .FunctionDef _ _ b _ _ _ _ _ _ _=>b
 | _=>[]
def defScope (s:Stmt):Scope:=match s with
 | .FunctionDef _ _ _ _ _ _ sc _ _ _=>sc
 | _=>{ kind:=.function,names:=[],isGenerator:=false,isCoroutine:=false }
abbrev CX0:CXT:=λ_ _ _ _ _ _=>False
abbrev E0:XK:=λ_ _ _=>False
theorem pass0 {X:Cx}:Passes CX0 X E0:=λ_ _ _ _ _ _ _ h=>h.elim
structure Fun (K:PySem.W.Frag) (x qual:Str) (st:Stmt) (f:Addr) (fd:FuncData):Prop where
 ex:∃ (oc:Value) (od:Option Addr) (kV doc pm:Value) (an:Option Addr) (cdv ct:Value) (osl:Array (Option Value)),
  fd=yu x qual (defArgs st) (defBody st) (defScope st) .none kV doc pm an cdv ct/\K.lookup f=some ⟨oc,od,.func fd,osl⟩/\PySem.W.codeIn K cdv qual=true
 kp:PySem.W.keepIn K (.ref f)=true
section
variable {P:Program}{w:World}{K:PySem.W.Frag}{mg:Str->Option Value}{base:Heap}
theorem Fun.ok {x qual:Str}{st:Stmt}{f:Addr}{fd:FuncData}{N ps:List Str}{k:Nat}{sp:Sp} (F:Fun K x qual st f fd) (S:FnScope N ps (defScope st)) (len:∀ vs H Q E,sp vs H Q E->vs.length=ps.length)
  (hbody:∀ (cdv:Value) (A:Around) (outer:List Env) (s:Shared) (H:Hp) (vs:List V) (Q:VK) (E:XK),Room k (A.deeper (envOfC qual (defScope st) s.heap.objs.size f cdv))->sp vs H Q E ->
   ∃ t,PSs (cxOf CX0 P w K mg base N qual (defScope st) f cdv A outer s H E).nox (defBody st) t/\t { nx:=λ_ H'=>Q .non H',rt:=Q } (start N vs) H):FnOk P w K mg base CX0 (k + 1) f fd ps sp:=by
 obtain ⟨oc,od,kV,doc,pm,an,cdv,ct,osl,rfl,lk,hcd⟩:=F.ex
 refine fn_of lk hcd S len λA outer s H vs Q E hr hsp=>?_
 obtain ⟨t,h,q⟩:=hbody cdv A outer s H vs Q E hr hsp
 exact ⟨t,h.nox,q⟩
theorem Fun.binds {x qual:Str}{st:Stmt}{f:Addr}{fd:FuncData}{ps:List Str} (F:Fun K x qual st f fd)
  (h:∀ (kV doc pm:Value) (an:Option Addr) (cdv ct:Value) (us:List Value),us.length=ps.length->bindArgs (yu x qual (defArgs st) (defBody st) (defScope st) .none kV doc pm an cdv ct) ⟨us,[]⟩=pure (ps.zip us)):Binds K fd ps []:=by
 obtain ⟨oc,od,kV,doc,pm,an,cdv,ct,osl,rfl,lk,hcd⟩:=F.ex
 exact .all (h kV doc pm an cdv ct)
theorem fun_mk {x qual:Str}{st:Stmt}{f:Addr}{oc:Value}{od an:Option Addr}{osl:Array (Option Value)}{kV doc pm cdv ct:Value} (l:K.lookup f=some ⟨oc,od,.func (yu x qual (defArgs st) (defBody st) (defScope st) .none kV doc pm an cdv ct),osl⟩)
  (c:PySem.W.codeIn K cdv qual=true) (k:PySem.W.keepIn K (.ref f)=true):Fun K x qual st f (yu x qual (defArgs st) (defBody st) (defScope st) .none kV doc pm an cdv ct):=⟨⟨oc,od,kV,doc,pm,an,cdv,ct,osl,rfl,l,c⟩,k⟩
end
section
variable {X:Cx}
theorem pv (i:Nat) {x:Str}{pos:Pos} (hN:X.N[i]?=some x:=by rfl) (hv:visB X.env.scope x=true:=by rfl) (hd:(x == ("__debug__" : Str))=false:=by decide)
  (hcd:(x == ("__classdict__" : Str))=false:=by decide):PE X (.Name x pos) (tVar i):=pe_var hN (visB_of hv) hd hcd
end
def Same (H H':Hp):Prop:=∀ b o,H b=some o->H' b=some o
theorem Same.refl (H:Hp):Same H H:=λ_ _ h=>h
theorem Same.trans {H H1 H2:Hp} (a:Same H H1) (b:Same H1 H2):Same H H2:=λc o h=>b c o (a c o h)
theorem Same.free {H H':Hp} (e:Same H H') {l:Addr} (h:H' l=Option.none):H l=Option.none:=by
 cases q:H l with
 | none=>rfl
 | some o=>
  rw [e l o q] at h
  cases h
theorem Same.seq {K:PySem.W.Frag}{H H':Hp}{a:Addr}{xs:List V} (e:Same H H') (h:SqL K H a xs):SqL K H' a xs:=by
 rcases h with (h | ⟨o,h⟩) | h
 ·exact .inl (.inl (e _ _ h))
 ·exact .inl (.inr ⟨o,e _ _ h⟩)
 ·exact .inr h
end L2
namespace L2
open PySem PySem.Spec PyProof.Rows
theorem loop_comp {prog:Program}{w:World}{A:Around}{R:Result->Shared->Prop}{s:Shared}{elt target iter:Expr}{ifs:List Expr}{scope:Scope}{pos:Pos}{it acc:Value}{env:Env} (I:Nat->Shared->Prop)
  (turn:∀ n s,I n s->wpAny (model prog w) A (pyNext it) (λr s₁=>match r with
   | none=>R (.ok .next) s₁
   | some v=>wpAny (model prog w) A (letOwnedTupleGo target it v) (λ_ s₁'=>wpAny (model prog w) A (assign target env v) (λ_ s₂=>
     wpAny (model prog w) A (forIn ifs true λc r=>if r=true then do let ok <- isTrue c env (eval c env);pure (ForInStep.yield ok) else pure (ForInStep.yield r)) (λok s₃=>
      if ok=true then wpAny (model prog w) A (eval elt env) (λx s₄=>
       wpAny (model prog w) A (call (.builtin "list.append") [acc,x]) (λ_ s₅=>∃ m,m < n/\I m s₅) (λ_ _=>False) s₄) (λ_ _=>False) s₃
      else ∃ m,m < n/\I m s₃) (λ_ _=>False) s₂) (λ_ _=>False) s₁') (λ_ _=>False) s₁) (λ_ _=>False) s)
  (n:Nat) (h:I n s) :
  codeAny (model prog w) A (.compLoop (.ListComp elt [⟨target,iter,ifs,0⟩] scope pos) 0 it acc env) R s:=by
 refine codeAny_loop rfl I (λn s hI=>?_) n h
 show wpAny _ A ((compTurn (.ListComp elt [⟨target,iter,ifs,0⟩] scope pos) 0 it acc env).onRaise (λx=>do noteFrame x env;theTreesLotGoes x)) _ _ s
 refine wpAny_noted ?_
 rw [compTurn_list]
 refine wpAny_bind (wpAny_standAt (wpAny_bind (wpAny_mono (turn n s hI) (λr s₁ h₁=>?_) λ_ _ h'=>h'.elim)))
 cases r with
 | none=>exact wpAny_pure h₁
 | some v=>
  refine wpAny_bind (wpAny_mono h₁ (λ_ s₁' h₁'=>?_) λ_ _ h'=>h'.elim)
  refine wpAny_bind (wpAny_mono h₁' (λ_ s₂ h₂=>wpAny_bind (wpAny_mono h₂ (λok s₃ h₃=>?_) λ_ _ h'=>h'.elim)) λ_ _ h'=>h'.elim)
  cases ok with
  | false=>exact wpAny_pure ⟨rfl,h₃⟩
  | true=>
   exact wpAny_bind (wpAny_bind (wpAny_mono h₃ (λx s₄ h₄=>wpAny_bind (wpAny_mono h₄ (λ_ s₅ h₅=>wpAny_pure (wpAny_pure ⟨rfl,h₅⟩)) λ_ _ h'=>h'.elim)) λ_ _ h'=>h'.elim))
def clOf (names:List (Str×NameKind)) (env:Env) (cs:List (Str×Addr)):List (Str×Addr):=
 names.foldl (λcs p=>if p.2=.free then (match env.cells.lookup p.1 with | some c=>(p.1,c)::cs | none=>cs) else cs) cs
theorem closure_loop {env:Env}:∀ (names:List (Str×NameKind)) (cs:List (Str×Addr)),(∀ y∈names,y.2=.free->∃ c,env.cells.lookup y.1=some c) ->
  (forIn names cs λx r=>(if (x.2 == NameKind.free)=true then do let a <- cellOf env x.1;pure (ForInStep.yield ((x.1,a)::r)) else pure (ForInStep.yield r):Sem _))=pure (clOf names env cs)
 | [],cs,_=>by simp [clOf]
 | (n,k)::r,cs,h=>by
  have ih:=λcs=>closure_loop r cs λy hy=>h y (zb _ hy)
  simp only [List.forIn_cons]
  by_cases hk:k=.free
  ·subst hk
   obtain ⟨c,e⟩:=h (n,.free) zd rfl
   have e':env.cells.lookup n=some c:=e
   have ec:cellOf env n=pure c:=by unfold cellOf;rw [e']
   simp only [beq_self_eq_true,if_true,ec,pure_bind]
   rw [ih]
   simp [clOf,e']
  ·have hb:(k == NameKind.free)=false:=by simpa using hk
   simp only [hb,zc,if_false,pure_bind]
   rw [ih]
   simp [clOf,hk]
theorem closureFor_eq {scope:Scope}{env:Env} (h:∀ y∈scope.names,y.2=.free->∃ c,env.cells.lookup y.1=some c):closureFor scope env=pure (clOf scope.names env []):=by
 unfold closureFor
 have:=closure_loop scope.names [] h
 simp only [bind_pure]
 exact this
theorem clOf_mem {env:Env}:∀ (names:List (Str×NameKind)) (cs:List (Str×Addr)) (x:Str) (c:Addr),(x,c)∈clOf names env cs->(x,c)∈cs\/env.cells.lookup x=some c
 | [],cs,x,c,h=>.inl h
 | (n,k)::r,cs,x,c,h=>by
  have h':(x,c)∈clOf r env (if k=.free then (match env.cells.lookup n with | some c=>(n,c)::cs | none=>cs) else cs):=h
  rcases clOf_mem r _ x c h' with q | q
  ·split at q
   ·cases e:env.cells.lookup n with
    | none=>rw [e] at q;exact .inl q
    | some d=>
     rw [e] at q
     rcases zH.mp q with z | z
     ·cases z;exact .inr e
     ·exact .inl z
   ·exact .inl q
  ·exact .inr q
theorem clOf_keep {env:Env}:∀ (names:List (Str×NameKind)) (cs:List (Str×Addr)) (x:Str),(∃ c,(x,c)∈cs)->∃ c,(x,c)∈clOf names env cs
 | [],cs,x,h=>h
 | (n,k)::r,cs,x,⟨c,h⟩=>by
  refine clOf_keep r _ x ?_
  dsimp only
  split
  ·split
   ·exact ⟨c,zb _ h⟩
   ·exact ⟨c,h⟩
  ·exact ⟨c,h⟩
theorem clOf_has {env:Env}:∀ (names:List (Str×NameKind)) (cs:List (Str×Addr)) (x:Str),(x,NameKind.free)∈names->(∃ c,env.cells.lookup x=some c)->∃ c,(x,c)∈clOf names env cs
 | [],_,_,h,_=>by simp at h
 | (n,k)::r,cs,x,h,⟨c,e⟩=>by
  rcases zH.mp h with z | z
  ·have e1:x=n:=congrArg Prod.fst z
   have e2:NameKind.free=k:=congrArg Prod.snd z
   subst e1 e2
   refine clOf_keep r _ x ⟨c,?_⟩
   dsimp only
   rw [if_pos rfl,e]
   exact zd
  ·exact clOf_has r _ x z ⟨c,e⟩
theorem lookup_of_mem {β:Type}:∀ (l:List (Str×β)) (x:Str) (c:β),(x,c)∈l->∃ d,l.lookup x=some d
 | (n,d)::r,x,c,h=>by
  cases hx:x == n with
  | true=>exact ⟨d,by simp [yb,hx]⟩
  | false=>
   simp only [yb,hx]
   rcases zH.mp h with z | z
   ·cases z;simp at hx
   ·exact lookup_of_mem r x c z
theorem xp {names:List (Str×NameKind)}{env:Env}{x:Str}{c:Addr} (h:(clOf names env []).lookup x=some c):env.cells.lookup x=some c:=by
 rcases clOf_mem names [] x c (yL h) with q | q
 ·simp at q
 ·exact q
theorem clOf_some {names:List (Str×NameKind)}{env:Env}{x:Str}{c:Addr} (h:(x,NameKind.free)∈names) (e:env.cells.lookup x=some c):(clOf names env []).lookup x=some c:=by
 obtain ⟨d,hd⟩:=clOf_has names [] x h ⟨c,e⟩
 obtain ⟨d',hd'⟩:=lookup_of_mem _ _ _ hd
 have:=xp hd'
 rw [e] at this
 cases this
 exact hd'
theorem lookup_relabel_free {env:Env}:∀ {names:List (Str×NameKind)}{x:Str},names.lookup x=some .free ->
  (names.map λ(n,k)=>if (k == NameKind.free && env.scope.kind == .function && env.kindOf n == some .cell) then (n,NameKind.cell) else (n,k)).lookup x=some .cell \/
  (names.map λ(n,k)=>if (k == NameKind.free && env.scope.kind == .function && env.kindOf n == some .cell) then (n,NameKind.cell) else (n,k)).lookup x=some .free
 | [],_,h=>by simp at h
 | (n,k)::r,x,h=>by
  have ih:=@lookup_relabel_free env r x
  show List.lookup x ((if (k == NameKind.free && env.scope.kind == .function && env.kindOf n == some .cell)=true then (n,NameKind.cell) else (n,k))::_)=_\/List.lookup x ((if (k == NameKind.free && env.scope.kind == .function && env.kindOf n == some .cell)=true then (n,NameKind.cell) else (n,k))::_)=_
  by_cases hc:(k == NameKind.free && env.scope.kind == .function && env.kindOf n == some .cell)=true
  ·rw [if_pos hc]
   cases hx:x == n with
   | true=>left;simp [yb,hx]
   | false=>
    simp only [yb,hx] at h ⊢
    exact ih h
  ·rw [if_neg hc]
   cases hx:x == n with
   | true=>
    simp only [yb,hx] at h
    cases h
    right;simp [yb,hx]
   | false=>
    simp only [yb,hx] at h ⊢
    exact ih h
structure CompScope (own:List Str) (caps:List Nat) (N:List Str) (sc scope:Scope):Prop where
 kind:scope.kind=.function
 nocell:∀ y∈scope.names,y.2≠.cell
 loc:∀ y∈scope.names,y.2=.local->scope.names.lookup y.1=some .local
 fr:∀ y∈scope.names,y.2=.free->sc.names.lookup y.1=some .cell\/sc.names.lookup y.1=some .free
 cap:∀ i∈caps,i < N.length/\scope.names.lookup ((N[i]?).getD Str.empty)=some .free
def cxComp (X:Cx) (own:List Str) (caps:List Nat) (scope:Scope) (s:Shared) (H:Hp) (fp:List Addr) (C:Addr):Cx:=
 { X with N:=own++caps.map (λi=>(X.N[i]?).getD Str.empty),s₀:=s,H₀:=H,env:=compEnvC scope (clOf scope.names X.env []) C X.env,outer:=X.stack,ex:=fp,fn:=λ_=>false,pn:=[],xe:=λ_ _=>False }
def tau0 (n:Nat) (caps:List Nat) (σ:St):St:=List.replicate n none++caps.map λi=>(σ[i]?).join
section
variable {X:Cx}{pins:List (Addr×Obj)}{σ:St}{H:Hp}{s:Shared}
theorem free_of_kind {scope:Scope}{env:Env} (nc:∀ y∈scope.names,y.2≠.cell) {x:Str}{k:NameKind} (hk:k=.cell\/k=.free) (h:(relabel scope env).names.lookup x=some k):(x,NameKind.free)∈scope.names:=by
 have hm:=yL h
 obtain ⟨⟨n,k0⟩,hy,e⟩:=zO.mp hm
 dsimp only at e
 split at e
 ·rename_i hc
  simp only [zz,beq_iff_eq] at hc
  have e1:n=x:=congrArg Prod.fst e
  subst e1
  rw [hc.1.1] at hy
  exact hy
 ·cases e
  rcases hk with z | z
  ·subst z;exact absurd rfl (nc _ hy)
  ·subst z;exact hy
theorem inv_comp {own:List Str}{caps:List Nat}{scope:Scope}{fp:List Addr}{D C:Addr}{o:Obj} {h1:Heap}{tk:Nat} (I:Inv X pins σ H s) (S:CompScope own caps X.N X.env.scope scope)
  (f:∀ b∈fp,FpOk X pins H b) (fl:∀ b∈fp,b < s.heap.objs.size) (hD:s.heap.objs.size<=D) (hC:s.heap.objs.size<=C) (hDC:D≠C) (keep:∀ b o,s.heap.get? b=some o->h1.get? b=some o)
  (hns:h1.Ns C λ_=>none) (hacc:h1.get? D=some o) (ho:∀ v,o.data≠.cell v) :
  Inv (cxComp X own caps scope s H fp C) [(D,o)] (tau0 own.length caps σ) H { s with heap:=h1,toks:=tk }:=by
 have sub:∀ b∈frs X.stack,b < s.heap.objs.size:=λb hb=>by
  rcases zH.mp (I.stkSub b hb) with e | hb
  ·rw [e];exact I.lt
  ·by_cases q:b < s.heap.objs.size
   ·exact q
   ·exact absurd hb (I.nofs (Nat.le_of_not_lt q))
 refine ⟨⟨I.ok.mod,S.kind,I.ok.glob,I.ok.blt,hC,λx y c h1 h2=>I.ok.inj x y c (xp h1) (xp h2),λx hx=>?_,λx c z _=>absurd (show false=true from z) zL,I.ok.hd,I.ok.frames,.inl rfl,
   λb hb=>⟨zW (zQ (fl b hb) hC),λx c e=>(f b hb).2.2.2.2.1 x c (xp e)⟩,I.bs,zj I.ok.bsz I.sz,λb ob e hb=>?_,λb hb hs=>?_,I.stack,I.stkFree⟩,
  rfl,I.bare,Un.kept keep,⟨_,hns,λi x v e1 e2 e3=>?_⟩,λx c e=>?_,I.hok.fresh hC,λx c e=>I.freeC x c (xp e),λp hp=>?_,I.hok.kept keep,?_⟩
 ·have hm:(x,NameKind.free)∈scope.names:=by
   rcases hx with hx | hx
   ·exact free_of_kind S.nocell (.inl rfl) hx
   ·exact free_of_kind S.nocell (.inr rfl) hx
  obtain ⟨c,hc⟩:=I.ok.has x (S.fr _ hm rfl)
  exact ⟨c,clOf_some hm hc⟩
 ·rcases (f b hb).2.2.2.1 with z | z
  ·exact I.ok.noex b ob e z
  ·exact absurd (zQ (Heap.lt_size e) (zj I.ok.bsz z)) (zw _)
 ·rcases zH.mp (I.stkSub b hs) with e | e
  ·exact (f b hb).2.1 e
  ·exact (f b hb).2.2.1 e
 ·have e2':(List.replicate own.length (none:Option V)++caps.map λi=>(σ[i]?).join)[i]?=some (some v):=e2
  have e1':(own++caps.map (λi=>(X.N[i]?).getD Str.empty))[i]?=some x:=e1
  have hi:own.length<=i:=by
   by_cases q:i < own.length
   ·rw [yK (by simpa using q),List.getElem?_replicate,if_pos q] at e2'
    cases e2'
   ·exact Nat.le_of_not_lt q
  rw [yG (by simpa using hi),yf,zX] at e2'
  rw [yG hi,zX] at e1'
  cases ek:caps[i - own.length]? with
  | none=>rw [ek] at e1';cases e1'
  | some k=>
   rw [ek] at e1' e2'
   have ex:(X.N[k]?).getD Str.empty=x:=Option.some.inj e1'
   have ev:(σ[k]?).join=some v:=Option.some.inj e2'
   have ev':σ[k]?=some (some v):=by
    cases q:σ[k]? with
    | none=>rw [q] at ev;cases ev
    | some y=>rw [q] at ev;exact congrArg some ev
   obtain ⟨hl,hf⟩:=S.cap k (zB ek)
   have eN:X.N[k]?=some x:=by
    rw [zJ hl] at ex ⊢
    exact congrArg some ex
   rw [ex] at hf
   have hm:=yL hf
   have hfr:=S.fr _ hm rfl
   obtain ⟨m,_,hl'⟩:=I.loc
   obtain ⟨u,ru,lk⟩:=hl' k x v eN ev' (.inr hfr)
   refine ⟨u,ru,.inr ⟨lookup_relabel_free hf,?_⟩⟩
   rcases lk with ⟨kl,_⟩ | ⟨_,c,hc,ob,hob,hd⟩
   ·have kl':X.env.scope.names.lookup x=some .local:=kl
    rcases hfr with z | z
    ·have z':X.env.scope.names.lookup x=some .cell:=z
     rw [z'] at kl';cases kl'
    ·have z':X.env.scope.names.lookup x=some .free:=z
     rw [z'] at kl';cases kl'
   ·exact ⟨c,clOf_some hm hc,ob,keep c ob hob,hd⟩
 ·obtain ⟨v,ob,hob,hd⟩:=I.cell x c (xp e)
  exact ⟨v,ob,keep c ob hob,hd⟩
 ·have e:p=(D,o):=by simpa using (show p∈[]++[(D,o)] from hp)
  subst e
  refine ⟨hacc,I.hok.fresh hD,hDC,λz=>?_,ho⟩
  exact absurd (zQ (sub D z) hD) (zw _)
 ·show (tau0 own.length caps σ).length=(own++caps.map (λi=>(X.N[i]?).getD Str.empty)).length
  simp [tau0]
def PTs (X:Cx) (ifs:List Expr) (t:TT):Prop:=
 ∀ (pins:List (Addr×Obj)) (s:Shared) (σ:St) (H:Hp) (Q:Bool->Hp->Prop),Inv X pins σ H s->t σ H Q ->
  wpAny (model X.prog X.w) X.A (forIn ifs true λc r=>if r=true then do let ok <- isTrue c X.env (eval c X.env);pure (ForInStep.yield ok) else pure (ForInStep.yield r)) (TP X pins σ Q) X.xe s
def tYes:TT:=λ_ H Q=>Q true H
theorem xz:PTs X [] tYes:=λ_ s σ H Q I h=>wpAny_tests_nil ⟨H,I,h⟩
theorem pts_one {c:Expr}{t:TT} (h:PT X c t):PTs X [c] t:=λpins s σ H Q I q=>wpAny_tests_one (h pins s σ H Q I q)
def tComp (n:Nat) (caps:List Nat) (wi:TI) (g:TG) (tc:TT) (te:TE):TE:=fun σ H Q=>wi σ H λJ H1=>∃ W:Nat->Nat->St->List V->Hp->Prop,(∃ m,W 0 m (tau0 n caps σ) [] H1)/\∀ i m τ acc H,W i m τ acc H ->
 (J.stop i H/\acc.length<=sizeLine/\∀ p,H p=none->Q (.ref p) (upd H p (.lst acc))) \/
 (J.go i H/\acc.length < sizeLine/\∀ x H',J.yld i H x H'->g x τ H' fun τ2 H2=>tc τ2 H2 λb H3=>if b=true then te τ2 H3 λy H4=>∃ m',m' < m/\W (i + 1) m' τ2 (acc++[y]) H4 else ∃ m',m' < m/\W (i + 1) m' τ2 acc H3)
theorem HOk.track {P:Program}{w:World}{H:Hp}{h:Heap}{a:Addr}{o:HO} (x:HOk P w H h) (hn:H a=none) (new:ObjOk P w (upd H a o) h a o):HOk P w (upd H a o) h:=λb u e=>by
 by_cases hb:b=a
 ·subst hb;rw [xC] at e;cases e;exact new
 ·rw [xH hb] at e
  exact (x b u e).stay (λc v _ q=>q) (λc q=>by rw [xH (xF q hn)];exact q) λc xs q=>by rw [xH (xF q hn)];exact q
theorem pe_comp {own:List Str}{caps:List Nat}{elt tg iter:Expr}{ifs:List Expr}{scope:Scope}{pos:Pos}{wi:TI}{g:TG}{tc:TT}{te:TE} (hc:X.calm=true) (S:CompScope own caps X.N X.env.scope scope) (hi:PI X tg iter wi)
  (hg:∀ s H fp C,PG (cxComp X own caps scope s H fp C) tg g) (ht:∀ s H fp C,PTs (cxComp X own caps scope s H fp C) ifs tc) (he:∀ s H fp C,PE (cxComp X own caps scope s H fp C) elt te)
  (hs:∀ x,foldedSetIterable iter X.env x=pure x:=by intro _;rfl):PE X (.ListComp elt [⟨tg,iter,ifs,0⟩] scope pos) (tComp own.length caps wi g tc te):=by
 intro pins s σ H Q I h
 rw [eval_ListComp]
 refine wpAny_comprehension_free (use:=none) (cl:=clOf scope.names X.env []) rfl hs (closureFor_eq λy hy e=>I.ok.has y.1 (S.fr y hy e)) S.kind S.loc
  (wpAny_mono (hi pins s σ H _ I h) (λv s1 h1=>thn h1 λitv s2 h2=>?_) λ_ _ e=>e)
 obtain ⟨it,fp,tn,J,H2,e,I2,T,st2,f2,W,⟨m0,w0⟩,turn⟩:=h2
 subst e
 refine wpAny_newObj_type (wpAny_newFunctionEnv S.nocell (by intro y hy;simp at hy) (λh₁ hns₁ hsb₁=>?_) S.kind)
 dsimp only at hns₁ hsb₁ ⊢
 generalize hH2:s2.heap.push { cls:=.type "list", dict:=none,data:=.seq ([]:List Value).toArray }=G at hns₁ hsb₁ ⊢
 have hG:G.objs.size=s2.heap.objs.size + 1:=by rw [<-hH2,Heap.size_push]
 have hDC:s2.heap.objs.size≠G.objs.size:=by rw [hG];exact zW (Nat.lt_succ_self _)
 have hCle:s2.heap.objs.size<=G.objs.size:=by rw [hG];exact yj _
 have below:∀ b,b < s2.heap.objs.size->b≠G.objs.size:=λb hb=>by rw [hG];exact zW (yD hb)
 have old:∀ b o,s2.heap.get? b=some o->h₁.get? b=some o:=λb o e=>hsb₁.extBut b o (below b (Heap.lt_size e)) (Heap.get?_push_of_some _ (hH2 ▸ Heap.get?_push_of_some _ e))
 have hacc:h₁.get? s2.heap.objs.size=some { cls:=.type "list", dict:=none,data:=.seq ([]:List Value).toArray }:=hsb₁.extBut _ _ hDC (Heap.get?_push_of_some _ (hH2 ▸ Heap.get?_push_size _ rfl))
 have fl:∀ b∈fp,b < s2.heap.objs.size:=λb hb=>let ⟨o,e,_⟩:=T.obj _ _ st2 b hb;Heap.lt_size e
 have hns₁':h₁.Ns G.objs.size λ_=>none:=hns₁
 have I4:=inv_comp (tk:=s2.toks + ([]:List (Str×Value)).length) I2 S f2 fl (zD _) hCle hDC old hns₁' hacc (λv z=>nomatch z)
 have st4:tn 0 h₁:=T.keep _ _ _ st2 λb _ o e=>old b o e
 generalize hs4:({ s2 with heap:=h₁,toks:=s2.toks + ([]:List (Str×Value)).length }:Shared)=s4 at I4 ⊢
 have e4:s4.heap=h₁:=by rw [<-hs4]
 rw [<-e4] at st4
 -- the loop
 have loop:codeAny (model X.prog X.w) X.A (.compLoop (.ListComp elt [⟨tg,iter,ifs,0⟩] scope pos) 0 (.ref it) (.ref s2.heap.objs.size) (compEnvC scope (clOf scope.names X.env []) G.objs.size X.env))
   (compPost (model X.prog X.w) X.A X.xe none (EP X pins σ Q) (.ref s2.heap.objs.size) G.objs.size) s4:=by
  let Y:=cxComp X own caps scope s2 H2 fp G.objs.size
  have stat:∀ {H':Hp}{its:List Value}{n:Nat},(∀ b∈fp,H' b=none)->∀ b∈fp,FpOk Y [(s2.heap.objs.size,({ cls:=.type "list", data:=.seq its.toArray n }:Obj))] H' b:=λ{H' its n} hn b hb=>by
   refine ⟨hn b hb,below b (fl b hb),λz=>?_,.inl hb,λx c e=>(f2 b hb).2.2.2.2.1 x c (xp e),λp hp=>?_⟩
   ·rcases zH.mp (I2.stkSub b z) with e | e
    ·exact (f2 b hb).2.1 e
    ·exact (f2 b hb).2.2.1 e
   ·have e:p=(s2.heap.objs.size,({ cls:=.type "list", data:=.seq its.toArray n }:Obj)):=by simpa using (show p∈[]++[_] from hp)
    subst e
    exact yA (fl b hb)
  refine loop_comp (λn s'=>∃ i τ acc its k H',Inv Y [(s2.heap.objs.size,({ cls:=.type "list", data:=.seq its.toArray k }:Obj))] τ H' s'/\tn i s'.heap/\(∀ b∈fp,H' b=none)/\Vals acc its/\W i n τ acc H') ?_ m0
   ⟨0,_,[],[],0,H2,I4,st4,λb hb=>(f2 b hb).1,.nil,w0⟩
  rintro n s5 ⟨i,τ,acc,its,k,H5,I5,st5,fr5,rv5,w5⟩
  rcases turn i n τ acc H5 w5 with ⟨stop,hz,q⟩ | ⟨go,hz,step⟩
  ·refine thn (T.done Y rfl rfl rfl hc i _ s5 τ H5 (λ_ _=>False) I5 (stat fr5) st5 stop) λr s6 ⟨hr,I6⟩=>?_
   subst hr
   obtain ⟨eD,nD,_,_,_⟩:=I6.pin _ (zN _ (zP.mpr rfl))
   obtain ⟨m6,hm6,_⟩:=I6.loc
   refine ⟨m6,hm6,λh' hsb=>?_⟩
   have hC6:H5 G.objs.size=none:=I6.free
   have eD':h'.get? s2.heap.objs.size=some { cls:=.type "list", data:=.seq its.toArray k }:=hsb.extBut _ _ hDC eD
   have hok6:HOk X.prog X.w H5 h':=λb u e=>(I6.hok b u e).stay (λc v hcv qv=>hsb.extBut c v (by
     rcases hcv with z | z
     ·subst z;exact xF e hC6
     ·exact xF z hC6) qv) (λ_ q=>q) λ_ _ q=>q
   refine ⟨.ref s2.heap.objs.size,_,?_,rfl,q _ nD⟩
   have ub:=I6.base
   refine I2.call' (ch:=fp) (s':={ s6 with heap:=h' }) I6.os ⟨λb o e n' hb hx=>hsb.extBut b o (below b (Heap.lt_size e)) (ub.keep b o e n' hb hx),λb o e n' hb hx=>?_,λb o e n' hx=>?_,λb o e hx=>?_,λb xs e=>?_,λb o u e=>?_,λb ps e=>?_⟩
    (hok6.track nD ⟨hz,its,k,rv5,eD'⟩) I6.bare λb hb=>⟨(f2 b hb).2.2.2.1,(f2 b hb).2.1,(f2 b hb).2.2.2.2.1,(f2 b hb).2.2.2.2.2⟩
   ·obtain ⟨sl,e'⟩:=ub.slot b o e n' hb hx
    exact ⟨sl,hsb.extBut b _ (below b (Heap.lt_size e)) e'⟩
   ·rw [xH (zW (Heap.lt_size e))]
    exact ub.free b o e n' hx
   ·obtain ⟨o',e'⟩:=ub.there b o e hx
    exact ⟨o',hsb.extBut b _ (below b (Heap.lt_size e)) e'⟩
   ·have z:=ub.tups b xs e
    rw [xH (xF z nD)];exact z
   ·have z:=ub.frzs b o u e
    rw [xH (xF z nD)];exact z
   ·obtain ⟨more,z⟩:=ub.tbls b ps e
    exact ⟨more,by rw [xH (xF z nD)];exact z⟩
  ·refine thn (T.item Y rfl rfl rfl hc i _ s5 τ H5 (λ_ _=>False) I5 (stat fr5) st5 go) λr s6 ⟨u,hr,h6⟩=>?_
   subst hr
   refine thn h6 λ_ s7 ⟨x,H7,I7,r7,y7,st7,fr7⟩=>?_
   have I7':=I7.pinned (stat fr7) (T.obj _ _ st7)
   refine thn (hg s2 H2 fp G.objs.size _ s7 τ H7 x u _ I7' r7 (step x H7 y7)) λ_ s8 ⟨τ8,H8,I8,q8⟩=>?_
   refine thn (ht s2 H2 fp G.objs.size _ s8 τ8 H8 _ I8 q8) λok s9 ⟨H9,I9,q9⟩=>?_
   -- the iterator's state behind the turn
   have back:∀ {s':Shared}{τ':St}{H':Hp},Inv Y ([(s2.heap.objs.size,({ cls:=.type "list", data:=.seq its.toArray k }:Obj))]++pinsAt fp s7.heap) τ' H' s'->(tn (i + 1) s'.heap/\∀ b∈fp,H' b=none):=λ{s' τ' H'} Ib=>
    ⟨T.keep _ _ _ st7 λb hb o e=>(Ib.pin (b,o) (zN _ (zN _ (wK hb e)))).1,λb hb=>by
     obtain ⟨o,e,d⟩:=T.obj _ _ st7 b hb
     exact (Ib.pin (b,o) (zN _ (zN _ (wK hb e)))).2.1⟩
   cases ok with
   | false=>
    obtain ⟨m',hm',w'⟩:=q9
    obtain ⟨sb,fb⟩:=back I9
    exact ⟨m',hm',i + 1,τ8,acc,its,k,H9,I9.unpinned,sb,fb,rv5,w'⟩
   | true=>
    refine thn (he s2 H2 fp G.objs.size _ s9 τ8 H9 _ I9 q9) λy s10 ⟨yv,H10,I10,r10,q10⟩=>?_
    obtain ⟨m',hm',w'⟩:=q10
    obtain ⟨sb,fb⟩:=back I10
    obtain ⟨eD,nD,neD,nfD,_⟩:=I10.pin (s2.heap.objs.size,_) (zN _ (yi _ (zP.mpr rfl)))
    have hl:acc.length=its.length:=rv5.length
    refine call_meets F.slot_list_append ⟨_,eD,rfl⟩ F.entry_list_append (F.args_list_append_2 _ _) (PySem.list_append s2.heap.objs.size its.toArray k y (by rw [zF];omega)) ⟨eD,?_⟩
    have q:=PySem.IsL.update eD (λa:Array Value=>a.push y)
    have Iu:Inv Y [] τ8 H10 s10:=I10.pins_of λp hp=>nomatch hp
    have It:=Iu.turned (t':=s10.toks) (it:=s2.heap.objs.size) (h':=s10.heap.update s2.heap.objs.size (Obj.mapSeq (λa:Array Value=>a.push y))) (λb o hb e=>(Heap.get?_update_other s10.heap _ (Ne.symm hb)).trans e) nD neD (.inr (zD _))
     (λx c e z=>by
      obtain ⟨v,ob,hob,_⟩:=I2.cell x c (xp e)
      exact absurd (Heap.lt_size hob) (by rw [z];exact zw _)) (λp hp=>nomatch hp)
    have It':=It.pins_of (pins':=[(s2.heap.objs.size,({ cls:=.type "list", data:=.seq (its++[y]).toArray (k + 1) }:Obj))]) λp hp=>by
     have e:p=_:=zP.mp hp
     subst e
     exact ⟨by simpa using q,nD,neD,nfD,λv z=>nomatch z⟩
    refine ⟨m',hm',i + 1,τ8,acc++[yv],its++[y],_,H10,It',T.keep _ _ _ sb λb hb o e=>(Heap.get?_update_other s10.heap _ (yA (fl b hb))).trans e,fb,rv5.append (.cons r10 .nil),w'⟩
 exact codeAny_compStart_list loop (T.self _ 0 s4 _ _ st4 loop)
end
end L2
namespace L2
open PySem PySem.Spec PyProof.Rows
open AutoSeq1 (wpAny_loadPart')
section
variable {prog:Program}{w:World}{A:Around}{E:Value->Shared->Prop}{s:Shared}
theorem nxT_in {it t:Addr}{i:Nat} {items}{x:Value}{Q:Value->Shared->Prop} (hit:s.heap.IsTupleIter it t i) (ht:s.heap.IsTuple t items) (hx:items[i]?=some x)
  (hQ:∀ h',h'.IsTupleIter it t (i + 1)->Heap.SameBut it s.heap h'->Q x { s with heap:=h' }):wpAny (model prog w) A (Builtin.SmallTypes.nextOf (.ref it)) Q E s:=by
 have ty:=hit.typeIs (s:=s)
 obtain ⟨o,ho,hc,hd⟩:=hit
 obtain ⟨ot,hot,_,n,hdt⟩:=ht
 have new:=hQ _ ⟨_,Heap.get?_update_self (Obj.mapFields (·.set! 1 (rawInt (i + 1)))) ho (Obj.isFreed_of_fields (Obj.data_mapFields hd _)),(Obj.cls_mapFields ..).trans hc,by rw [Obj.data_mapFields hd];simp [rawInt]⟩ (Heap.SameBut.update ..)
 unfold Builtin.SmallTypes.nextOf
 refine wpAny_bind (wpAny_callSpecial?_slot ty F.slot_tuple_iterator_next (wpAny_call_entry F.slot_tuple_iterator_next ty F.entry_tuple_iterator_next ?_ (F.args_tuple_iterator_next_1 _)))
 unfold Builtin.«tuple_iterator.__next__»
 wp_walk using wpAny_field ho hd (x:=.ref t) rfl,wpAny_field ho hd (x:=.int i 0) rfl,wpAny_seqItems hot hdt
 simp only [yC,hx]
 wp_walk using wpAny_setField ho hd (by simp)
 exact ⟨x,rfl,wpAny_pure new⟩
theorem nxT_out {it t:Addr}{i:Nat} {items}{Q:Value->Shared->Prop} (hh:A.handled=none) (hit:s.heap.IsTupleIter it t i) (ht:s.heap.IsTuple t items) (hx:items[i]?=none)
  (hE:∀ h' e,Heap.ExtBut it s.heap h'->(∃ o,h'.get? e=some o/\o.cls=.type "StopIteration")->E (.ref e) { s with heap:=h' }):wpAny (model prog w) A (Builtin.SmallTypes.nextOf (.ref it)) Q E s:=by
 have ty:=hit.typeIs (s:=s)
 obtain ⟨o,ho,hc,hd⟩:=hit
 obtain ⟨ot,hot,_,n,hdt⟩:=ht
 have hh1:A.in1.handled=none:=hh
 unfold Builtin.SmallTypes.nextOf
 refine wpAny_bind (wpAny_callSpecial?_slot ty F.slot_tuple_iterator_next (wpAny_call_entry F.slot_tuple_iterator_next ty F.entry_tuple_iterator_next ?_ (F.args_tuple_iterator_next_1 _)))
 unfold Builtin.«tuple_iterator.__next__»
 wp_walk using wpAny_field ho hd (x:=.ref t) rfl,wpAny_field ho hd (x:=.int i 0) rfl,wpAny_seqItems hot hdt
 simp only [yC,hx]
 wp_walk using wpAny_setField ho hd (by simp)
 simp only [raiseNew]
 refine wpAny_bind (wpAny_handled ?_)
 rw [hh1]
 exact wpAny_bind (wpAny_pure (wpAny_throw (hE _ _ (((Heap.SameBut.update ..).extBut.push _).push _) ⟨_,Heap.get?_push_size _ rfl,rfl⟩)))
end
theorem drawsT {prog:Program}{w:World}{A:Around} (hh:A.handled=none) (it t:Addr) (hne:t≠it) (items:Array Value) :
  Draws prog w A it [it,t] items.size (λi v=>items[i]?=some v) (λi h=>h.IsTupleIter it t i/\h.IsTuple t items) where
 live:=λ_ _ st=>let ⟨⟨o,ho,_⟩,_⟩:=st;⟨o,ho⟩
 frame:=λ_ _ _ st hk=>let ⟨⟨o,ho,r⟩,o',ho',r'⟩:=st;⟨⟨o,hk it (by simp) o ho,r⟩,o',hk t (by simp) o' ho',r'⟩
 item:=λi s Q E hi st hQ=>nxT_in st.1 st.2 (Array.getElem?_eq_getElem hi) λh' a b=>hQ _ h' s.toks (Array.getElem?_eq_getElem hi) ⟨a,st.2.extBut b.extBut hne⟩ b
 done:=λs Q E st hE=>nxT_out hh st.1 st.2 (Array.getElem?_eq_none (zD _)) hE
section
variable {prog:Program}{w:World}{A:Around}{E:Value->Shared->Prop}{s:Shared}
end
end L2
namespace L2
open PySem PySem.Spec PyProof.Rows
def tyS (H:Hp):V->Option String
 | .non=>some "NoneType"
 | .bl _=>some "bool"
 | .int _=>some "int"
 | .str _=>some "str"
 | .ref a=>match H a with
  | some (.lst _)=>some "list"
  | some (.frz _ (.lst _))=>some "list"
  | some (.tup _)=>some "tuple"
  | some (.dK _)=>some "dict"
  | _=>none
 | _=>none
theorem tyS_of {K:PySem.W.Frag}{H:Hp}{x:V}{t:String} (h:tyS H x=some t):TyOf K H x (.type t):=by
 cases x with
 | non=>cases h;exact .non
 | bl b=>cases h;exact .bl b
 | int i=>cases h;exact .int i
 | str x=>cases h;exact .str x
 | ref a=>
  unfold tyS at h
  dsimp only at h
  split at h
  ·rename_i e;cases h;exact .lst e
  ·rename_i e;cases h;exact .frz e
  ·rename_i e;cases h;exact .tup e
  ·rename_i e;cases h;exact .dK e
  ·cases h
 | _=>cases h
theorem tyS_six {H:Hp}{x:V}{t:String} (h:tyS H x=some t):t = "NoneType" \/ t = "bool" \/ t = "int" \/ t = "str" \/ t = "list" \/ t = "tuple" \/ t = "dict" := by
 cases x with
 | ref a=>
  unfold tyS at h
  dsimp only at h
  split at h <;> cases h <;> simp
 | _=>cases h <;> simp
def isSub (t T:String):Bool:=t == T || (t == "bool" && T == "int")
theorem kit_of {K:PySem.W.Frag}{t T:String} (h:t = "NoneType" \/ t = "bool" \/ t = "int" \/ t = "str" \/ t = "list" \/ t = "tuple" \/ t = "dict") (hT:T = "int" \/ T = "bool" \/ T = "list" \/ T = "tuple"):PySem.W.kitOne K (.type t) (.type T)=some (isSub t T):=by
 rcases h with rfl | rfl | rfl | rfl | rfl | rfl | rfl <;> rcases hT with rfl | rfl | rfl | rfl <;> first | rfl | decide +kernel
section
variable {X:Cx}
theorem xa:CallR X (.builtin "isinstance") (λxs H Q=>∃ x t T,xs=[x,.ty T]/\tyS H x=some t/\(T = "int" \/ T = "bool" \/ T = "list" \/ T = "tuple")/\Q (.bl (isSub t T)) H):=by
 intro pins s σ H xs us Q I r h
 obtain ⟨x,t,T,rfl,ht,hT,q⟩:=h
 obtain ⟨u,w',rfl,r1,r2⟩:=vals2 r
 cases r2
 exact isinst_ok I r1 (tyS_of ht) (kit_of (tyS_six ht) hT) λtk=>⟨.bl _,H,I.tok tk,rfl,q⟩
theorem op_fdivB:OpR X (binaryOp .FloorDiv) (rI (λ_ j=>0 < j/\j < 2 ^ 200) λi j=>.int (i / j)):=opI λi j _ _ _ _ _ hc q=>by
 have e:i.fdiv j=i / j:=Int.fdiv_eq_ediv_of_nonneg _ (by omega)
 rw [<-e] at q
 refine floordiv_int (by omega) q (.inl (PyProof.noPylong_of_log2 ?_))
 have h0:j.natAbs≠0:=by omega
 have h1:j.natAbs < 2 ^ 200:=by omega
 have:=(Nat.log2_lt h0).mpr h1
 omega
theorem op_neNil (hu:X.A.units + 64 < cLine):OpR X (compareOp .NotEq) (λx y H Q=>∃ a b xs,x=.ref a/\y=.ref b/\SqL X.K H a xs/\SqL X.K H b []/\Q (.bl (!xs.isEmpty)) H):=by
 intro pins s σ H x y v u Q I rx ry h
 obtain ⟨a,b,xs,rfl,rfl,ha,hb,q⟩:=h
 cases rx;cases ry
 obtain ⟨its,r,p,_⟩:=I.list ha
 obtain ⟨its2,r2,p2,_⟩:=I.list hb
 cases r2
 cases r with
 | nil=>exact SeqAt.RcNeAt.lists (e:=λ_=>true) p.isList p2.isList rfl (by omega) (λj h1=>absurd h1 (yI _)) _ _ _ _ ⟨.bl _,H,I,rfl,q⟩
 | cons r1 rr=>exact SeqAt.RcNeAt.lists_lengths p.isList p2.isList (by simp) (by omega) _ _ _ _ ⟨.bl _,H,I,rfl,q⟩
theorem op_eqUnit (hu:X.A.units + 64 < cLine):OpR X (compareOp .Eq) (λx y H Q=>∃ a b xs,x=.ref a/\y=.ref b/\SqT X.K H a xs/\SqT X.K H b []/\Q (.bl xs.isEmpty) H):=by
 intro pins s σ H x y v u Q I rx ry h
 obtain ⟨a,b,xs,rfl,rfl,ha,hb,q⟩:=h
 cases rx;cases ry
 obtain ⟨its,r,p,_⟩:=I.tuple ha
 obtain ⟨its2,r2,p2,_⟩:=I.tuple hb
 cases r2
 have q':Q (.bl ((List.range (min its.toArray.size ([]:List Value).toArray.size)).all (λ_=>true) && its.toArray.size == ([]:List Value).toArray.size)) H:=by
  cases r with
  | nil=>simpa using q
  | cons r1 rr=>simpa using q
 exact SeqAt.RcAt.tuples (e:=λ_=>true) p p2 (by omega) (λj h1 h2=>absurd h2 (yI _)) _ _ _ _ ⟨.bl _,H,I,rfl,q'⟩
variable {K:PySem.W.Frag}
theorem xq {es:List Expr}{k:Nat}{t:TGs}{n:Nat}{pos:Pos} (hK:X.K=K) (hc:X.calm=true) (h:PGs X es t)
  (hn:(assignEach es X.env).length=n:=by rfl) (hst:(assignEach es X.env).findIdx? (·.1)=none:=by rfl):PG X (.Tuple es k pos) (gTup K n t):=by subst hK;exact pg_tup hc h hn hst
theorem xm {tg l:Expr}{tl:TE} (hK:X.K=K) (hl:PE X l tl):PI X tg l (iList K tl):=by subst hK;exact pi_list hl
theorem pi_tup'' {tg l:Expr}{tl:TE} (hK:X.K=K) (hl:PE X l tl):PI X tg l (iTup K tl):=by subst hK;exact pi_tup hl
theorem xV (hK:X.K=K):IxR X (rIxL K):=by subst hK;exact ix_list
theorem xZ (hK:X.K=K):IxR X (rIxT K):=by subst hK;exact ix_tup
theorem sl_list' (hK:X.K=K):SlR X (rSlL K):=by subst hK;exact sl_list
theorem op_in_seq' (hK:X.K=K):OpR X (compareOp .In) (rIn K false):=by subst hK;exact op_in_seq
theorem xP (hK:X.K=K):CallR X (.builtin "len") (λxs H Q=>∃ p ys,xs=[.ref p]/\(SqL K H p ys\/SqT K H p ys)/\Q (.int ys.length) H):=by subst hK;exact call_len_seq
theorem call_list_of' (hK:X.K=K):CallR X (.type "list") (λxs H Q=>∃ p ys,xs=[.ref p]/\(SqL K H p ys\/SqT K H p ys)/\∀ l,H l=none->Q (.ref l) (upd H l (.lst ys))):=by subst hK;exact call_list_of
end
end L2
namespace L2
open PySem PySem.Spec PyProof.Rows
theorem get_list {X:Cx}{K:PySem.W.Frag} (hK:X.K=K):PGet X (λo i H Q=>∃ p xs v,∃ k:Nat,o=.ref p/\i=.int k/\SqL K H p xs/\xs[k]?=some v/\Q v H):=by
 subst hK
 intro pins s σ H o i ov iv Q I ro ri h
 obtain ⟨p,xs,v,k,rfl,rfl,hq,hv,q⟩:=h
 cases ro
 obtain ⟨t,rfl⟩:=ri
 obtain ⟨its,r,pl,hz⟩:=I.list hq
 obtain ⟨w,ew,rw'⟩:=r.get hv
 have hk:k < xs.length:=(zT.mp hv).1
 have hn:=line63
 exact wpAny_getItem_list pl.isList (by omega) (by omega) (by simpa using ew) ⟨v,H,I,rw',q⟩
end L2
namespace SmSort
open PySem PySem.W PyProof.Rows
def KOK {α:Type} (n:Nat) (c:Nat->Nat->Bool):KasT α->(α->Prop)->Prop
 | .ret a,P=>P a
 | .ask i j k,P=>i < n/\j < n/\KOK n c (k (c i j)) P
theorem KOK.bind {α β:Type}{n:Nat}{c:Nat->Nat->Bool}{f:α->KasT β}{P:β->Prop}:∀ (t:KasT α),KOK n c t (λa=>KOK n c (f a) P)->KOK n c (t.bind f) P
 | .ret a,h=>h
 | .ask i j k,h=>⟨h.1,h.2.1,KOK.bind (k (c i j)) h.2.2⟩
theorem KOK.mono {α:Type}{n:Nat}{c:Nat->Nat->Bool}{P P':α->Prop} (hp:∀ a,P a->P' a):∀ (t:KasT α),KOK n c t P->KOK n c t P'
 | .ret a,h=>hp a h
 | .ask i j k,h=>⟨h.1,h.2.1,KOK.mono hp (k (c i j)) h.2.2⟩
theorem KOK.wp {α:Type}{n:Nat}{c:Nat->Nat->Bool}{P:α->Prop}{Q:α->Shared->Prop}{cmp:Nat->Nat->(Bool->Shared->Prop)->Shared->Prop}{s:Shared}
  (hc:∀ i j C,i < n->j < n->C (c i j) s->cmp i j C s) (hq:∀ a,P a->Q a s):∀ (t:KasT α),KOK n c t P->t.kasWp cmp Q s
 | .ret a,h=>hq a h
 | .ask i j k,h=>hc i j _ h.1 h.2.1 (KOK.wp hc hq (k (c i j)) h.2.2)
section
variable {n:Nat}{f:Nat->Int}
def at' (p:Array Nat) (i:Nat):Nat:=(p[i]?).getD 0
theorem xw (p:Array Nat) (i:Nat):p.getD i 0=at' p i:=by unfold at';simp
def g (f:Nat->Int) (p:Array Nat) (i:Nat):Int:=f (at' p i)
def Pm (n:Nat) (p:Array Nat):Prop:=p.Perm (yW (List.range n))
theorem Pm.size {p:Array Nat} (h:Pm n p):p.size=n:=by rw [Array.Perm.size_eq h];simp
theorem Pm.lt {p:Array Nat} (h:Pm n p) {i:Nat} (hi:i < n):at' p i < n:=by
 have hs:=h.size
 have e:at' p i=p[i]'(by omega):=by unfold at';simp [hs,hi]
 have hm:p[i]'(by omega)∈p:=Array.getElem_mem _
 have hm':=(Array.Perm.mem_iff h).mp hm
 rw [e]
 simpa using hm'
theorem Pm.rev {p:Array Nat} (h:Pm n p) (i j:Nat):Pm n (kas_rev p i j):=(mirror_perm p i j _).trans h
theorem Pm.bub {p:Array Nat} (h:Pm n p) (k d:Nat):Pm n (bubble p k d):=(bubble_perm p k d).trans h
theorem g_rev {p:Array Nat}{i j:Nat} (hj:j<=p.size) (k:Nat):g f (kas_rev p i j) k=if i<=k/\k < j then g f p (i + j - 1 - k) else g f p k:=by
 unfold g at' kas_rev
 rw [getElem?_mirror_all hj k]
 split <;> rfl
theorem g_bub {p:Array Nat}{src d:Nat} (hs:src < p.size) (hd:d<=src) (k:Nat):g f (bubble p src d) k=if k=src - d then g f p src else if src - d < k/\k<=src then g f p (k - 1) else g f p k:=by
 unfold g at'
 rw [getElem?_bubble hs d hd k]
 split
 ·rfl
 ·split <;> rfl
def Up (f:Nat->Int) (p:Array Nat) (k:Nat):Prop:=∀ i j,i<=j->j < k->g f p i<=g f p j
def Dn (f:Nat->Int) (p:Array Nat) (k:Nat):Prop:=∀ i j,i<=j->j < k->g f p j<=g f p i
def cf (f:Nat->Int) (i j:Nat):Bool:=decide (f i < f j)
theorem asc_ok {p:Array Nat} (hp:Pm n p):∀ (q m:Nat),1<=m->m + q<=n->Up f p m->KOK n (cf f) (kas_asc p q m) (λm'=>m<=m'/\m'<=m + q/\Up f p m'/\(m' < m + q->g f p m' < g f p (m' - 1)))
 | 0,m,_,_,hu=>⟨zD _,zD _,hu,λh=>absurd h (zw _)⟩
 | q + 1,m,h1,h2,hu=>by
  unfold kas_asc
  refine ⟨by rw [xw];exact hp.lt (by omega),by rw [xw];exact hp.lt (by omega),?_⟩
  rw [xw,xw]
  by_cases hc:g f p m < g f p (m - 1)
  ·have e:cf f (at' p m) (at' p (m - 1))=true:=decide_eq_true hc
   rw [e];dsimp only;rw [if_pos rfl]
   exact ⟨zD _,by omega,hu,λ_=>hc⟩
  ·have e:cf f (at' p m) (at' p (m - 1))=false:=decide_eq_false hc
   rw [e];dsimp only;rw [if_neg zL]
   refine KOK.mono (λm' h=>⟨by omega,by omega,h.2.2.1,λz=>h.2.2.2 (by omega)⟩) _ (asc_ok hp q (m + 1) (by omega) (by omega) λi j hij hj=>?_)
   by_cases hjm:j < m
   ·exact hu i j hij hjm
   ·have ej:j=m:=by omega
    subst ej
    by_cases hi:i=j
    ·subst hi;omega
    ·have:=hu i (j - 1) (by omega) (by omega)
     omega
def Blk (f:Nat->Int) (p:Array Nat) (m q:Nat):Prop:=∀ i,m<=i + (q + 1)->i < m->g f p i=g f p (m - 1)
theorem rev_same {p:Array Nat} (hp:Pm n p) {m q:Nat} (hm:m<=n) (hq:q + 1<=m) (hb:Blk f p m q) (k:Nat):g f (kas_rev p (m - (q + 1)) m) k=g f p k:=by
 rw [g_rev (by rw [hp.size];exact hm)]
 split
 ·rename_i h
  rw [hb _ (by omega) (by omega),hb k (by omega) (by omega)]
 ·rfl
theorem desc_ok:∀ (t:Nat) (p:Array Nat) (m q:Nat),Pm n p->1<=m->m + t<=n->q + 1<=m->Dn f p m->Blk f p m q ->
  KOK n (cf f) (kas_desc t p m q) (λr=>Pm n r.1/\m<=r.2.1/\r.2.1<=n/\r.2.2 + 1<=r.2.1/\Dn f r.1 r.2.1/\Blk f r.1 r.2.1 r.2.2)
 | 0,p,m,q,hp,h1,h2,h3,hd,hb=>⟨hp,zD _,by simpa using h2,h3,hd,hb⟩
 | t + 1,p,m,q,hp,h1,h2,h3,hd,hb=>by
  unfold kas_desc
  refine ⟨by rw [xw];exact hp.lt (by omega),by rw [xw];exact hp.lt (by omega),?_⟩
  rw [xw,xw]
  by_cases hc:g f p m < g f p (m - 1)
  ·have e:cf f (at' p m) (at' p (m - 1))=true:=decide_eq_true hc
   rw [e];dsimp only;rw [if_pos rfl]
   have step:∀ p':Array Nat,Pm n p'->(∀ k,g f p' k=g f p k)->KOK n (cf f) (kas_desc t p' (m + 1) 0) (λr=>Pm n r.1/\m<=r.2.1/\r.2.1<=n/\r.2.2 + 1<=r.2.1/\Dn f r.1 r.2.1/\Blk f r.1 r.2.1 r.2.2):=λp' hp' hg=>by
    refine KOK.mono (λr h=>⟨h.1,by omega,h.2.2⟩) _ (desc_ok t p' (m + 1) 0 hp' (by omega) (by omega) (by omega) (λi j hij hj=>?_) λi hi hi'=>?_)
    ·rw [hg,hg]
     by_cases hjm:j < m
     ·exact hd i j hij hjm
     ·have ej:j=m:=by omega
      subst ej
      by_cases hi:i=j
      ·subst hi;omega
      ·have:=hd i (j - 1) (by omega) (by omega)
       omega
    ·have:i=m + 1 - 1:=by omega
     rw [this]
   split
   ·exact step _ (hp.rev _ _) (rev_same hp (by omega) h3 hb)
   ·exact step _ hp λ_=>rfl
  ·have e:cf f (at' p m) (at' p (m - 1))=false:=decide_eq_false hc
   rw [e];dsimp only;rw [if_neg zL]
   refine ⟨hp.lt (by omega),hp.lt (by omega),?_⟩
   by_cases hc2:g f p (m - 1) < g f p m
   ·have e2:cf f (at' p (m - 1)) (at' p m)=true:=decide_eq_true hc2
    rw [e2];dsimp only;rw [if_pos rfl]
    exact ⟨hp,zD _,by show m<=n;omega,h3,hd,hb⟩
   ·have e2:cf f (at' p (m - 1)) (at' p m)=false:=decide_eq_false hc2
    rw [e2];dsimp only;rw [if_neg zL]
    have eq:g f p m=g f p (m - 1):=by omega
    refine KOK.mono (λr h=>⟨h.1,by omega,h.2.2⟩) _ (desc_ok t p (m + 1) (q + 1) hp (by omega) (by omega) (by omega) (λi j hij hj=>?_) λi hi hi'=>?_)
    ·by_cases hjm:j < m
     ·exact hd i j hij hjm
     ·have ej:j=m:=by omega
      subst ej
      by_cases hi:i=j
      ·subst hi;omega
      ·have:=hd i (j - 1) (by omega) (by omega)
       omega
    ·rw [show m + 1 - 1=m from rfl]
     by_cases hi2:i=m
     ·rw [hi2]
     ·rw [hb i (by omega) (by omega),eq]
theorem tail3_ok {p:Array Nat}{m:Nat} (hp:Pm n p) (h1:1<=m) (hm:m<=n) (hd:Dn f p m):KOK n (cf f) (kas_tail3 m n p) (λr=>Pm n r.2/\r.1<=n/\1<=r.1/\Up f r.2 r.1):=by
 unfold kas_tail3
 have hp':=hp.rev 0 m
 refine KOK.bind _ (KOK.mono (λm' h=>⟨hp',by omega,by omega,h.2.2.1⟩) _ (asc_ok hp' (n - m) m h1 (by omega) λi j hij hj=>?_))
 rw [g_rev (by rw [hp.size];exact hm),g_rev (by rw [hp.size];exact hm),if_pos ⟨by omega,by omega⟩,if_pos ⟨by omega,by omega⟩]
 exact hd _ _ (by omega) (by omega)
theorem descPart_ok {p:Array Nat}{m:Nat} (hp:Pm n p) (h1:1<=m) (hm:m < n) (hd:Dn f p (m + 1)):KOK n (cf f) (kas_descPart m n p) (λr=>Pm n r.2/\r.1<=n/\1<=r.1/\Up f r.2 r.1):=by
 unfold kas_descPart
 refine KOK.bind _ (KOK.mono (λr h=>?_) _ (desc_ok (n - (m + 1)) p (m + 1) 0 hp (by omega) (by omega) (by omega) hd λi hi hi'=>by rw [show i=m + 1 - 1 by omega]))
 obtain ⟨a1,a2,a3,a4,a5,a6⟩:=h
 split
 ·exact tail3_ok (a1.rev _ _) (by omega) a3 λi j hij hj=>by
   rw [rev_same a1 a3 a4 a6,rev_same a1 a3 a4 a6]
   exact a5 i j hij hj
 ·exact tail3_ok a1 (by omega) a3 a5
theorem count_ok {p:Array Nat} (hn:1<=n) (hp:Pm n p):KOK n (cf f) (kas_count n p) (λr=>Pm n r.2/\r.1<=n/\1<=r.1/\Up f r.2 r.1):=by
 unfold kas_count
 refine KOK.bind _ (KOK.mono (λm h=>?_) _ (asc_ok hp (n - 1) 1 (zD _) (by omega) λi j hij hj=>by rw [show i=j by omega];omega))
 obtain ⟨a1,a2,a3,a4⟩:=h
 split
 ·exact ⟨hp,by omega,a1,a3⟩
 ·rename_i hne
  have hlt:m < n:=by
   have:¬ m=n:=by simpa using hne
   omega
  have a4':=a4 (by omega)
  split
  ·rename_i hm1
   refine ⟨by rw [xw];exact hp.lt (by omega),by rw [xw];exact hp.lt (by omega),?_⟩
   rw [xw,xw]
   by_cases hc:g f p 0 < g f p (m - 1)
   ·have e:cf f (at' p 0) (at' p (m - 1))=true:=decide_eq_true hc
    rw [e];dsimp only;rw [if_pos rfl]
    exact ⟨hp,by omega,a1,a3⟩
   ·have e:cf f (at' p 0) (at' p (m - 1))=false:=decide_eq_false hc
    rw [e];dsimp only;rw [if_neg zL]
    have all:∀ k,k < m->g f p k=g f p 0:=λk hk=>by
     have:=a3 0 k (by omega) hk
     have:=a3 k (m - 1) (by omega) (by omega)
     omega
    have gr:∀ k,g f (kas_rev p 0 m) k=g f p k:=λk=>by
     rw [g_rev (by rw [hp.size];omega)]
     split
     ·rw [all _ (by omega),all k (by omega)]
     ·rfl
    refine descPart_ok (hp.rev _ _) a1 hlt λi j hij hj=>?_
    rw [gr,gr]
    by_cases hjm:j < m
    ·rw [all i (by omega),all j hjm];omega
    ·have ej:j=m:=by omega
     subst ej
     by_cases hi:i=j
     ·subst hi;omega
     ·have:=all i (by omega)
      have:=all (j - 1) (by omega)
      omega
  ·refine descPart_ok hp a1 hlt λi j hij hj=>?_
   have em:m=1:=by omega
   subst em
   by_cases hi:i=j
   ·subst hi;omega
   ·have e1:i=0:=by omega
    have e2:j=1:=by omega
    subst e1 e2
    have:g f p 1 < g f p 0:=a4'
    omega
theorem place_ok {p:Array Nat}{k:Nat} (hp:Pm n p) (hk:k < n) (hu:Up f p k):∀ (t l r:Nat),l<=r->r<=k->r<=l + t->(∀ i,i < l->g f p i<=g f p k)->(∀ i,r<=i->i < k->g f p k < g f p i) ->
  KOK n (cf f) (kas_place p k t l r) (λl'=>l'<=k/\(∀ i,i < l'->g f p i<=g f p k)/\∀ i,l'<=i->i < k->g f p k < g f p i)
 | 0,l,r,h1,h2,h3,ha,hb=>⟨by omega,ha,λi hi hi'=>hb i (by omega) hi'⟩
 | t + 1,l,r,h1,h2,h3,ha,hb=>by
  unfold kas_place
  split
  ·exact ⟨by omega,ha,λi hi hi'=>hb i (by omega) hi'⟩
  ·rename_i hlr
   refine ⟨by rw [xw];exact hp.lt hk,by rw [xw];exact hp.lt (by omega),?_⟩
   rw [xw,xw]
   by_cases hc:g f p k < g f p ((l + r) / 2)
   ·have e:cf f (at' p k) (at' p ((l + r) / 2))=true:=decide_eq_true hc
    rw [e];dsimp only;rw [if_pos rfl]
    refine place_ok hp hk hu t l ((l + r) / 2) (by omega) (by omega) (by omega) ha λi hi hi'=>?_
    have:=hu ((l + r) / 2) i (by omega) hi'
    omega
   ·have e:cf f (at' p k) (at' p ((l + r) / 2))=false:=decide_eq_false hc
    rw [e];dsimp only;rw [if_neg zL]
    refine place_ok hp hk hu t ((l + r) / 2 + 1) r (by omega) (by omega) (by omega) (λi hi=>?_) hb
    have:=hu i ((l + r) / 2) (by omega) (by omega)
    omega
theorem bin_ok:∀ (t:Nat) (p:Array Nat) (k:Nat),Pm n p->k + t=n->Up f p k->KOK n (cf f) (kas_bin t p k) (λp'=>Pm n p'/\Up f p' n)
 | 0,p,k,hp,hk,hu=>⟨hp,by rw [<-hk];exact hu⟩
 | t + 1,p,k,hp,hk,hu=>by
  unfold kas_bin
  refine KOK.bind _ (KOK.mono (λl h=>?_) _ (place_ok hp (by omega) hu k 0 k (by omega) (by omega) (by omega) (λi hi=>absurd hi (yI _)) λi hi hi'=>absurd hi' (by omega)))
  obtain ⟨a1,a2,a3⟩:=h
  refine bin_ok t _ (k + 1) (hp.bub _ _) (by omega) λi j hij hj=>?_
  have hs:k < p.size:=by rw [hp.size];omega
  rw [g_bub hs (by omega),g_bub hs (by omega)]
  have el:k - (k - l)=l:=by omega
  rw [el]
  by_cases hil:i=l
  ·rw [if_pos hil]
   by_cases hjl:j=l
   ·rw [if_pos hjl];omega
   ·rw [if_neg hjl,if_pos ⟨by omega,by omega⟩]
    have:=a3 (j - 1) (by omega) (by omega)
    omega
  ·rw [if_neg hil]
   by_cases hi2:l < i/\i<=k
   ·rw [if_pos hi2]
    rw [if_neg (by omega),if_pos ⟨by omega,by omega⟩]
    exact hu _ _ (by omega) (by omega)
   ·rw [if_neg hi2]
    have hi3:i < l:=by omega
    by_cases hjl:j=l
    ·rw [if_pos hjl];exact a2 i hi3
    ·rw [if_neg hjl]
     by_cases hj2:l < j/\j<=k
     ·rw [if_pos hj2];exact hu _ _ (by omega) (by omega)
     ·rw [if_neg hj2];exact hu _ _ hij (by omega)
theorem sort_ok (hn:1<=n):KOK n (cf f) (kas_sort n) (λp=>Pm n p/\Up f p n):=by
 unfold kas_sort
 refine KOK.bind _ (KOK.mono (λr h=>?_) _ (count_ok hn (show Pm n (yW (List.range n)) from Array.Perm.refl _)))
 obtain ⟨a1,a2,a3,a4⟩:=h
 split
 ·have e:max r.1 1=r.1:=by omega
  rw [e]
  exact bin_ok _ _ _ a1 (by omega) a4
 ·have e:r.1=n:=by omega
  exact ⟨a1,by rw [<-e];exact a4⟩
end
end SmSort
namespace SmSort
def lx:List Int->List Int->Bool
 | [],[]=>false
 | [],_::_=>true
 | _::_,[]=>false
 | x::xs,y::ys=>if x=y then lx xs ys else decide (x < y)
theorem lx_irr:∀ r:List Int,lx r r=false
 | []=>rfl
 | x::xs=>by unfold lx;rw [if_pos rfl];exact lx_irr xs
theorem lx_tr:∀ {a b c:List Int},lx a b=true->lx b c=true->lx a c=true
 | [],[],_,h,_=>by cases h
 | [],_::_,[],_,h=>by cases h
 | [],_::_,_::_,_,_=>rfl
 | _::_,[],_,h,_=>by cases h
 | _::_,_::_,[],_,h=>by cases h
 | x::xs,y::ys,z::zs,h,h'=>by
  unfold lx at h h' ⊢
  split at h
  ·split at h'
   ·rename_i e1 e2;rw [if_pos (e1.trans e2)];exact lx_tr h h'
   ·rename_i e1 e2
    simp only [decide_eq_true_eq] at h'
    rw [if_neg (by omega)];simp only [decide_eq_true_eq];omega
  ·simp only [decide_eq_true_eq] at h
   split at h'
   ·rename_i e1 e2
    rw [if_neg (by omega)];simp only [decide_eq_true_eq];omega
   ·simp only [decide_eq_true_eq] at h'
    rw [if_neg (by omega)];simp only [decide_eq_true_eq];omega
theorem lx_tot:∀ {a b:List Int},lx a b=false->lx b a=false->a=b
 | [],[],_,_=>rfl
 | [],_::_,h,_=>by cases h
 | _::_,[],_,h=>by cases h
 | x::xs,y::ys,h,h'=>by
  unfold lx at h h'
  split at h
  ·rename_i e;subst e;rw [if_pos rfl] at h';rw [lx_tot h h']
  ·rename_i e
   rw [if_neg λz=>e z.symm] at h'
   simp only [decide_eq_false_iff_not] at h h'
   omega
def rk (rs:List (List Int)) (r:List Int):Int:=((rs.countP λx=>lx x r:Nat):Int)
theorem countP_lt {α:Type}{p q:α->Bool}{a:α}:∀ {l:List α},(∀ x,p x=true->q x=true)->a∈l->p a=false->q a=true->l.countP p < l.countP q
 | [],_,h,_,_=>by cases h
 | x::l,hpq,h,h1,h2=>by
  have hm:l.countP p<=l.countP q:=List.countP_mono_left λx _=>hpq x
  rcases zH.mp h with rfl | h
  ·rw [List.countP_cons_of_neg (by rw [h1];exact zL),List.countP_cons_of_pos h2];omega
  ·have:=countP_lt hpq h h1 h2
   rw [List.countP_cons,List.countP_cons]
   cases e:p x with
   | true=>rw [hpq x e];simp;omega
   | false=>cases e2:q x <;> simp <;> omega
theorem rk_lt {rs:List (List Int)}{a b:List Int} (ha:a∈rs):decide (rk rs a < rk rs b)=lx a b:=by
 unfold rk
 cases h:lx a b with
 | true=>
  have:=countP_lt (p:=λx=>lx x a) (q:=λx=>lx x b) (λx hx=>lx_tr hx h) ha (lx_irr a) h
  simp only [decide_eq_true_eq];omega
 | false=>
  have hm:rs.countP (λx=>lx x b)<=rs.countP (λx=>lx x a):=List.countP_mono_left λx _ hx=>by
   cases h':lx b a with
   | true=>exact lx_tr hx h'
   | false=>rw [lx_tot h h'];exact hx
  simp only [decide_eq_false_iff_not];omega
end SmSort
namespace L2
open PySem PySem.Spec PyProof.Rows PySem.W SmSort
theorem ObjOk.at {P:Program}{w:World}{H:Hp}{h:Heap}{a:Addr}{o:HO} (x:ObjOk P w H h a o):∃ ob,h.get? a=some ob:=by
 cases o with
 | lst xs=>obtain ⟨_,_,_,_,e⟩:=x;exact ⟨_,e⟩
 | tup xs=>obtain ⟨_,_,_,ob,e,_⟩:=x;exact ⟨_,e⟩
 | dK kvs=>obtain ⟨_,_,_,_,o,_,_,e,_⟩:=x;exact ⟨_,e⟩
 | dT kvs=>obtain ⟨_,_,_,_,o,_,_,e,_⟩:=x;exact ⟨_,e⟩
 | set S n=>obtain ⟨o,_,_,_,e,_⟩:=x;exact ⟨_,e⟩
 | ins C dx fs=>obtain ⟨_,_,_,e,_⟩:=x;exact ⟨_,e⟩
 | own y=>obtain ⟨_,e⟩:=x;exact ⟨_,e⟩
 | xd fs=>obtain ⟨_,⟨_,_,_,e,_⟩,_⟩:=x;exact ⟨_,e⟩
 | rng lo hi=>obtain ⟨_,_,_,e⟩:=x;exact ⟨_,e⟩
 | frz ob u=>obtain ⟨e,_⟩:=x;exact ⟨_,e⟩
 | tbl ps=>exact ⟨_,(show h.get? a=some _ from x)⟩
 | met f y=>exact ⟨_,(show h.get? a=some _ from x)⟩
 | ext φ=>obtain ⟨_,⟨_,e⟩,_⟩:=x;exact ⟨_,e⟩
section
variable {X:Cx}{pins:List (Addr×Obj)}{σ:St}{H:Hp}{s:Shared}
theorem Inv.sortedTo {m:Str->Option Value}{h':Heap}{D:Addr}{its:List Value}{c:Nat}{xs:List V} (I:Inv X pins σ H s) (F0:Fr X.base X.env.locals s.heap m) (F:Fr X.base X.env.locals h' m)
  (N:News X.base X.env.locals h' ((D,listOf its.toArray c)::allNews X.base s.heap X.env.locals)) (lt:∀ q∈allNews X.base s.heap X.env.locals,q.1 < D) (hv:Vals xs its) (hz:xs.length<=sizeLine) :
  Inv X pins σ (upd H D (.lst xs)) { s with heap:=h' }/\H D=none:=by
 obtain ⟨eD,nL,nb⟩:=N (D,listOf its.toArray c) (.head _)
 have oldD:s.heap.get? D=none:=by
  cases q:s.heap.get? D with
  | none=>rfl
  | some o=>exact absurd (lt (D,o) (mem_allNews nL nb q)) (zw _)
 have hD:H D=none:=by
  cases q:H D with
  | none=>rfl
  | some u=>
   obtain ⟨ob,e⟩:=(I.hok D u q).at
   rw [oldD] at e;cases e
 have keep:∀ b o,b≠X.env.locals->s.heap.get? b=some o->h'.get? b=some o:=λb o hb e=>by
  cases q:X.base.get? b with
  | some u=>
   have:=I.bk b u q
   rw [e] at this;cases this
   exact F.keep b _ q
  | none=>exact (N (b,o) (.tail _ (mem_allNews hb q e))).1
 have neD:∀ b o,s.heap.get? b=some o->b≠D:=λb o e z=>by rw [z,oldD] at e;cases e
 have neT:∀ b u,H b=some u->b≠D:=λb u e z=>by rw [z,hD] at e;cases e
 refine ⟨I.step (g':=s.gens) (t':=s.toks) (d':=s.drawn) (ch:=[]) (λ_ z=>nomatch z) (λb o hb _ _ e _=>keep b o hb e) (λb o hb _ _ e _=>⟨o.slots,keep b o hb e⟩) (λb o _ e n=>by rw [xH (neD b o e)];exact n) (λb o _ e=>?_)
  (λb ys e=>by rw [xH (neT b _ e)];exact e) (λb o u e=>by rw [xH (neT b _ e)];exact e) (λb ps e=>⟨#[],by rw [xH (neT b _ e),e,Array.append_empty]⟩) (λm' hm=>?_) (λb u e=>?_) I.bare,hD⟩
 ·by_cases hb:b=X.env.locals
  ·obtain ⟨o',_,_,q,_⟩:=F.ns
   exact ⟨o',by rw [hb];exact q⟩
  ·exact ⟨o,keep b o hb e⟩
 ·obtain ⟨o1,es1,ep1,e1,d1,k1,f1⟩:=hm
  obtain ⟨o2,es2,ep2,e2,d2,k2,f2⟩:=F0.ns
  rw [e1] at e2;cases e2
  rw [d1] at d2;cases d2
  obtain ⟨o3,es3,ep3,e3,d3,k3,f3⟩:=F.ns
  exact ⟨o3,es3,ep3,e3,d3,k3,λname=>(f3 name).trans ((f2 name).symm.trans (f1 name))⟩
 ·by_cases hb:b=D
  ·subst hb;rw [xC] at e;cases e
   exact ⟨hz,its,c,hv,eD⟩
  ·rw [xH hb] at e
   refine (I.hok b u e).stay (λc v hc q=>keep c v (λz=>?_) q) (λc q=>by rw [xH (neT c _ q)];exact q) λc ys q=>by rw [xH (neT c _ q)];exact q
   rcases hc with rfl | hc
   ·rw [z,I.free] at e;cases e
   ·rw [z,I.free] at hc;cases hc
end
section
variable {prog:Program}{w:World}{A:Around}{E:Value->Shared->Prop}{s:Shared}
theorem snds_short {its:List Value} (few:its.length < 2):(its.toArray.zip its.toArray).map (·.2)=its.toArray:=by
 rcases its with _ | ⟨x,_ | ⟨y,r⟩⟩
 ·simp
 ·simp
 ·exact absurd few (by simp)
theorem sort_short {a:Addr}{its:List Value}{k:Nat}{P:PySem.Fin->Shared->Prop} (hx:s.heap.get? a=some (seqObj "list" its.toArray k)) (few:its.length < 2)
  (done:P (.done (.ret .none)) { s with heap:=sortedHeap s.heap a its its.toArray }):wpAny (model prog w) A (Builtin.«list.sort» ⟨[.ref a],[]⟩) P E s:=by
 have here:a < s.heap.objs.size:=Heap.lt_size hx
 have line:its.length<=sizeLine:=by rw [sizeLine_eq];omega
 rw [list_sort_plain]
 obtain ⟨e1,at1⟩:∃ e1,(s.heap.update a (Obj.mapSeq λ_=>(#[]:Array Value))).get? a=some (seqObj "list" #[] e1):=⟨_,get?_update_seq hx (λ_=>#[])⟩
 refine wpAny_bind (listItems_at hx rfl (wpAny_bind (listUpdate_at hx rfl (wpAny_bind (seqEpoch_at at1 rfl (wpAny_bind (wpAny_newTuple (wpAny_bind (wpAny_newList (wpAny_holding ?_) (zf _))) line))))
  (by rw [zF];exact line) (zf _))))
 have at2:(((s.heap.update a (Obj.mapSeq λ_=>(#[]:Array Value))).push (seqObj "tuple" its.toArray 0)).push (seqObj "list" #[] 0)).get? a=some (seqObj "list" #[] e1):=
  Heap.get?_push_of_some _ (Heap.get?_push_of_some _ at1)
 show wpAny (model prog w) A _ P E { s with heap:=((s.heap.update a (Obj.mapSeq λ_=>(#[]:Array Value))).push (seqObj "tuple" its.toArray 0)).push (seqObj "list" #[] 0) }
 have less:its.toArray.size < 2:=by rw [zF];exact few
 have snds:(arrOf (SortSt.mk' general' (its.toArray.zip its.toArray) #[] 7 none)).map (·.2)=its.toArray:=by
  show (its.toArray.zip its.toArray).map (·.2)=its.toArray
  exact snds_short few
 dsimp only
 rw [if_pos less,if_pos less]
 refine wpAny_bind (wpAny_pure ?_)
 rw [StateT.run_pure]
 refine wpAny_bind (wpAny_pure ?_)
 dsimp only
 refine wpAny_bind (seqEpoch_at at2 rfl (wpAny_bind (listUpdate_at at2 rfl ?_ (zf _) (by rw [snds,zF];omega))))
 simp only [bne_self_eq_false,zc,if_false]
 rw [snds]
 exact wpAny_pure done
theorem sorted_short {l:Addr}{its:List Value}{Q:Value->Shared->Prop} (hl:s.heap.IsList l its.toArray) (few:its.length < 2)
  (done:Q (.ref (s.heap.objs.size + 1)) { s with heap:=sortedAll s.heap its its.toArray }):wpAny (model prog w) A (call (.builtin "sorted") [.ref l]) Q E s:=by
 have line:its.length<=sizeLine:=by rw [sizeLine_eq];omega
 refine Calls.call_function_entry kind_sorted plain_sorted entry_sorted (args_sorted1 _) ?_
 unfold Builtin.«sorted»
 refine wpAny_bind (m:=checkCount "sorted" 1 1 _) (wpAny_pure (wpAny_bind (collect_list hl (wpAny_bind (wpAny_newList ?_ line)) line)))
 have sz:((s.heap.push (seqObj "list" #[] 0)).update s.heap.objs.size (Obj.mapSeq (·++its.toArray))).objs.size=s.heap.objs.size + 1:=by rw [Heap.size_update,size_push']
 have atL:(((s.heap.push (seqObj "list" #[] 0)).update s.heap.objs.size (Obj.mapSeq (·++its.toArray))).push (seqObj "list" its.toArray 0)).get? (s.heap.objs.size + 1)=some (seqObj "list" its.toArray 0):=by
  rw [<-sz];exact Heap.get?_push_size _ rfl
 show wpAny _ _ _ _ _ { s with heap:=((s.heap.push (seqObj "list" #[] 0)).update s.heap.objs.size (Obj.mapSeq (·++its.toArray))).push (seqObj "list" its.toArray 0) }
 rw [sz]
 exact wpAny_bind (wpAny_holding (wpAny_call_entry slot_list_sort ⟨_,atL,rfl⟩ entry_list_sort (sort_short atL few ⟨_,rfl,wpAny_pure ⟨_,rfl,done⟩⟩) (args_list_sort _)))
end
section
variable {X:Cx}
theorem vals_refs:∀ {ps:List (Addr×List Int)}{us:List Value},Vals (ps.map λa=>V.ref a.1) us->us=ps.map λa=>Value.ref a.1
 | [],us,r=>by cases r;rfl
 | a::ps,us,r=>by
  cases r with
  | cons x y=>rw [vals_refs y];cases x;rfl
def RowAt (h:Heap) (a:Addr) (r:List Int):Prop:=∃ o items n,h.get? a=some o/\o.cls=.type "tuple" /\ o.data=.seq items n/\Vals (r.map V.int) items.toList
theorem vals_lex {prog:Program}{w:World}{A:Around}{s:Shared}{b fin:Bool}{Q:Bool->Shared->Prop}:∀ {r r':List Int}{us us':List Value}{i:Nat},Vals (r.map V.int) us->Vals (r'.map V.int) us'->fin=decide (us.length < us'.length)->Q (lx r r') s ->
  KatLex prog w A b fin Q (us.zip us') i s
 | [],[],us,us',i,ru,ru',hf,q=>by cases ru;cases ru';exact kat_nil (by rw [hf];exact q)
 | [],_::_,us,us',i,ru,ru',hf,q=>by
  cases ru;cases ru' with
  | cons _ _=>exact kat_nil (by rw [hf];simpa [lx] using q)
 | _::_,[],us,us',i,ru,ru',hf,q=>by
  cases ru';cases ru with
  | cons _ _=>exact kat_nil (by rw [hf];simpa [lx] using q)
 | x::r,y::r',us,us',i,ru,ru',hf,q=>by
  cases ru with
  | cons rx ru=>
  cases ru' with
  | cons ry ru'=>
  obtain ⟨t,rfl⟩:=rx
  obtain ⟨t',rfl⟩:=ry
  refine kat_cons (wpAny_eqBool_int ?_)
  unfold lx at q
  by_cases e:x=y
  ·subst e
   rw [if_pos rfl] at q
   rw [show (x == x)=true from by simp]
   exact kat_yes (vals_lex ru ru' (by rw [hf];simp) q)
  ·rw [if_neg e] at q
   rw [show (x == y)=false from by simpa using e]
   refine kat_no ?_
   cases (b && i == 0) with
   | true=>exact oneLt_int q
   | false=>exact kat_one _ _ (lt_int q)
theorem kat_tups {h:Heap}:∀ {ps:List (Addr×List Int)},(∀ a∈ps,RowAt h a.1 a.2/\a.2≠[])->∃ fs,KatTups h (ps.map λa=>Value.ref a.1) fs/\fs.length=ps.length/\∀ v∈fs,∃ i t,v=Value.int i t
 | [],_=>⟨[],KatTups.nil,rfl,λ_ z=>nomatch z⟩
 | (a,r)::ps,hp=>by
  obtain ⟨fs,k,l,f⟩:=kat_tups λa ha=>hp a (.tail _ ha)
  obtain ⟨⟨o,items,n,ho,hc,hd,hv⟩,hn⟩:=hp (a,r) (.head _)
  match r,hn,hv with
  | x::r,_,hv=>
   obtain ⟨u,hu,t,e⟩:=Vals.get (i:=0) hv rfl
   refine ⟨u::fs,KatTups.cons ho hc hd (by rw [<-hu];simp) k,by simp [l],λv hv=>?_⟩
   rcases zH.mp hv with rfl | hv
   ·exact ⟨x,t,e⟩
   ·exact f v hv
theorem range_map {α:Type} (d:α) (l:List α):(List.range l.length).map (λi=>l.getD i d)=l:=by
 apply List.ext_getElem
 ·simp
 ·intro i h1 h2
  simp [List.getD,h2]
theorem vals_of_refs:∀ (ps:List (Addr×List Int)),Vals (ps.map λa=>V.ref a.1) (ps.map λa=>Value.ref a.1)
 | []=>.nil
 | _::ps=>.cons rfl (vals_of_refs ps)
theorem call_sortT:CallR X (.builtin "sorted") (λxs H Q=>∃ p,∃ ps:List (Addr×List Int),xs=[.ref p]/\SqL X.K H p (ps.map λa=>V.ref a.1)/\ps.length < 64/\(∀ a∈ps,H a.1=some (.tup (a.2.map V.int))/\a.2≠[]) /\
  ∀ l qs,H l=none->List.Perm qs ps->qs.Pairwise (λa b=>lx b.2 a.2=false)->Q (.ref l) (upd H l (.lst (qs.map λa=>V.ref a.1)))):=by
 intro pins s σ H xs us Q I r h
 obtain ⟨p,ps,rfl,hq,h64,hrow,q⟩:=h
 obtain ⟨u,rfl,rx⟩:=vals1 r
 cases rx
 obtain ⟨its,r',pl,hz⟩:=I.list hq
 have ei:=vals_refs r'
 subst ei
 have hlen:(ps.map λa=>Value.ref a.1).length=ps.length:=by simp
 by_cases h2:ps.length < 2
 ·refine sorted_short pl.isList (by omega) ?_
  have sz:((s.heap.push (seqObj "list" #[] 0)).update s.heap.objs.size (Obj.mapSeq (·++(ps.map λa=>Value.ref a.1).toArray))).objs.size=s.heap.objs.size + 1:=by rw [Heap.size_update,size_push']
  have kp:∀ b o,s.heap.get? b=some o->(sortedAll s.heap (ps.map λa=>Value.ref a.1) (ps.map λa=>Value.ref a.1).toArray).get? b=some o:=λb o e=>by
   have lb:b < s.heap.objs.size:=Heap.lt_size e
   unfold sortedAll sortedHeap
   rw [Heap.get?_update_ne _ _ _ _ (zW (yD lb))]
   refine Heap.get?_push_of_some _ (Heap.get?_push_of_some _ ?_)
   rw [Heap.get?_update_ne _ _ _ _ (zW (yD lb))]
   refine Heap.get?_push_of_some _ ?_
   rw [Heap.get?_update_ne _ _ _ _ (zW lb)]
   exact Heap.get?_push_of_some _ e
  obtain ⟨c,ec⟩:∃ c,(sortedAll s.heap (ps.map λa=>Value.ref a.1) (ps.map λa=>Value.ref a.1).toArray).get? (s.heap.objs.size + 1)=some (seqObj "list" (ps.map λa=>Value.ref a.1).toArray c):=by
   have e0:=Heap.get?_push_size ((s.heap.push (seqObj "list" #[] 0)).update s.heap.objs.size (Obj.mapSeq (·++(ps.map λa=>Value.ref a.1).toArray))) (o:=seqObj "list" (ps.map λa=>Value.ref a.1).toArray 0) rfl
   rw [sz] at e0
   unfold sortedAll sortedHeap
   have e1:=get?_update_seq e0 (λ_=>(#[]:Array Value))
   exact ⟨_,get?_update_seq (Heap.get?_push_of_some _ (Heap.get?_push_of_some _ e1)) _⟩
  refine ⟨.ref (s.heap.objs.size + 1),_,I.laid (t':=s.toks) kp (yj _) (show ObjOk X.prog X.w _ _ _ (.lst (ps.map λa=>V.ref a.1)) from ⟨hz,_,c,r',ec⟩),rfl,q _ ps (I.hok.fresh (yj _)) (List.Perm.refl _) ?_⟩
  match ps,h2 with
  | [],_=>exact .nil
  | [_],_=>exact List.pairwise_singleton _ _
 ·obtain ⟨m,F⟩:=I.fr
  refine kat_sorted F (news_all (g:=X.base) (h:=s.heap)) pl.isList (by omega) (by omega) λD e1 h' F' N' lt=>?_
  have keep:∀ b o,b≠X.env.locals->s.heap.get? b=some o->h'.get? b=some o:=λb o hb e=>by
   cases q:X.base.get? b with
   | some u=>
    have:=I.bk b u q
    rw [e] at this;cases this
    exact F'.keep b _ q
   | none=>exact (N' (b,o) (.tail _ (mem_allNews hb q e))).1
  have rowAt:∀ a∈ps,RowAt h' a.1 a.2/\a.2≠[]:=λa ha=>by
   obtain ⟨ht,hn⟩:=hrow a ha
   obtain ⟨_,its,rv,o,e,c,n,d⟩:=I.hok a.1 _ ht
   refine ⟨⟨o,_,n,keep a.1 o (λz=>?_) e,c,d,rv⟩,hn⟩
   rw [z,I.free] at ht;cases ht
  obtain ⟨fs,kt,lf,hf⟩:=kat_tups rowAt
  refine kat_kind (T:=.type "int") kt (by omega) (λv hv=>?_) (by decide) ?_
  ·obtain ⟨i,t,rfl⟩:=hf v hv
   exact Looks.now
  have n1:1<=(ps.map λa=>Value.ref a.1).length:=by omega
  refine KOK.wp (c:=cf λi=>rk (ps.map (·.2)) ((ps.map (·.2)).getD i [])) (λi j C hi hj hC=>?_) (λpp hp=>?_) _ (sort_ok (f:=λi=>rk (ps.map (·.2)) ((ps.map (·.2)).getD i [])) n1)
  ·have hi':i < ps.length:=by omega
   have hj':j < ps.length:=by omega
   obtain ⟨⟨o,items,n,ho,hc,hd,hv⟩,hn⟩:=rowAt ps[i] (zn hi')
   obtain ⟨⟨o',items',n',ho',hc',hd',hv'⟩,hn'⟩:=rowAt ps[j] (zn hj')
   unfold kas_ask
   have ei:(ps.map λa=>Value.ref a.1).getD i Value.none=.ref ps[i].1:=by simp [hi']
   have ej:(ps.map λa=>Value.ref a.1).getD j Value.none=.ref ps[j].1:=by simp [hj']
   rw [ei,ej]
   refine kat_lt ho hd ho' hd' (vals_lex hv hv' (by simp) ?_)
   have e:cf (λi=>rk (ps.map (·.2)) ((ps.map (·.2)).getD i [])) i j=lx ps[i].2 ps[j].2:=by
    unfold cf
    have e1:(ps.map (·.2)).getD i []=ps[i].2:=by simp [hi']
    have e2:(ps.map (·.2)).getD j []=ps[j].2:=by simp [hj']
    simp only [e1,e2]
    exact rk_lt (zO.mpr ⟨ps[i],zn hi',rfl⟩)
   rw [e] at hC
   exact hC
  ·obtain ⟨pm,up⟩:=hp
   refine KasFin.intro F' N' (UpdF.head λx hx=>zW (lt x hx)) λh2' c F2 N2=>?_
   have pl:pp.toList.Perm (List.range ps.length):=by
    have:=pm.toList
    rw [hlen] at this
    simpa using this
   have eo:(pp.toList.map λi=>(ps.map λa=>Value.ref a.1).getD i Value.none)=(pp.toList.map λi=>ps.getD i (0,[])).map λa=>Value.ref a.1:=by
    rw [zp]
    refine yS λi hi=>?_
    have hi':i < ps.length:=zk.mp (pl.mem_iff.mp hi)
    simp [hi']
   have perm:(pp.toList.map λi=>ps.getD i (0,[])).Perm ps:=by
    have:=pl.map λi=>ps.getD i (0,[])
    rwa [range_map] at this
   rw [eo] at N2
   have hzz:((pp.toList.map λi=>ps.getD i (0,[])).map λa=>V.ref a.1).length<=sizeLine:=by
    rw [zA,perm.length_eq,sizeLine_eq];omega
   obtain ⟨I2,hD⟩:=I.sortedTo F F2 N2 lt (vals_of_refs _) hzz
   refine ⟨.ref D,_,I2,rfl,q D _ hD perm ?_⟩
   rw [zt]
   intro i j hi hj hij
   simp only [zA,Array.length_toList] at hi hj
   simp only [List.getElem_map,Array.getElem_toList]
   have hn:pp.size=ps.length:=by rw [pm.size];exact hlen
   have key:=up i j (yz hij) (by omega)
   have a1:pp[i] < ps.length:=zk.mp (pl.mem_iff.mp (by simp))
   have a2:pp[j] < ps.length:=zk.mp (pl.mem_iff.mp (by simp))
   unfold g at'  at key
   simp only [hi,hj,getElem?_pos,Option.getD_some] at key
   have e1:(ps.map (·.2)).getD pp[i] []=ps[pp[i]].2:=by simp [a1]
   have e2:(ps.map (·.2)).getD pp[j] []=ps[pp[j]].2:=by simp [a2]
   rw [e1,e2] at key
   have e3:ps.getD pp[i] (0,[])=ps[pp[i]]:=by simp [a1]
   have e4:ps.getD pp[j] (0,[])=ps[pp[j]]:=by simp [a2]
   rw [e3,e4]
   have:=rk_lt (rs:=ps.map (·.2)) (a:=ps[pp[j]].2) (b:=ps[pp[i]].2) (zO.mpr ⟨_,zn a2,rfl⟩)
   rw [<-this]
   simp only [decide_eq_false_iff_not]
   omega
end
end L2
namespace L2
open PySem PySem.Spec PyProof.Rows
def notStar:Expr->Bool
 | .Starred _ _=>false
 | _=>true
theorem star_cons {e:Expr}{es:List Expr}{env:Env} (h:notStar e=true):starEach (e::es) env=(false,eval e env)::starEach es env:=by
 cases e <;> first | rfl | cases h
@[irreducible] def PA2 (X:Cx) (es:List Expr) (t:TA):Prop:=PA X es t
theorem xA {X:Cx}{es:List Expr}{t:TA} (h:PA2 X es t):PA X es t:=by unfold PA2 at h;exact h
theorem pa_in {X:Cx}{es:List Expr}{t:TA} (h:PA X es t):PA2 X es t:=by unfold PA2;exact h
theorem xG {X:Cx}:PA2 X [] tNil:=pa_in pa_nil
theorem xB {X:Cx}{e:Expr}{es:List Expr}{te:TE}{t:TA} (ha:PE X e te) (hr:PA2 X es t) (hn:notStar e=true):PA2 X (e::es) (tCons te t):=pa_in (pa_cons ha (xA hr) (star_cons hn))
@[irreducible] def PSs2 (X:Cx) (es:List Stmt) (t:TS):Prop:=PSs X es t
theorem xJ {X:Cx}{es:List Stmt}{t:TS} (h:PSs2 X es t):PSs X es t:=by unfold PSs2 at h;exact h
theorem bl_in {X:Cx}{es:List Stmt}{t:TS} (h:PSs X es t):PSs2 X es t:=by unfold PSs2;exact h
theorem xT {X:Cx}{a:Stmt}{t:TS} (h:PS X a t):PSs2 X [a] t:=bl_in (pss_one h)
theorem xN {X:Cx}{a b:Stmt}{rest:List Stmt}{t u:TS} (h:PS X a t) (hr:PSs2 X (b::rest) u):PSs2 X (a::b::rest) (tSeq t u):=bl_in (pss_cons h (xJ hr))
end L2
namespace L2
open PySem PySem.Spec PyProof.Rows
section
variable {K:PySem.W.Frag}{a:Addr}{xs:List V}{n:Nat}{caps:List Nat}{g:TG}{tc:TT}{te:TE}{σ:St}{H:Hp}{Qf:Addr->Hp->List V->Prop}
theorem comp_of {J:It} (Pv:Nat->St->List V->Hp->Prop) (len:Nat) (h0:Pv 0 (tau0 n caps σ) [] H) (hn:len<=1000) (hl:∀ i τ acc H,Pv i τ acc H->acc.length<=i)
  (hgo:∀ i τ acc H,i < len->Pv i τ acc H->J.go i H) (hstop:∀ τ acc H,Pv len τ acc H->J.stop len H)
  (hs:∀ i τ acc H (C:St->List V->Hp->Prop),i < len->Pv i τ acc H->(∀ τ acc H,Pv (i + 1) τ acc H->C τ acc H)->∀ x H',J.yld i H x H'->g x τ H' fun τ2 H2=>tc τ2 H2 λb H3=>if b=true then te τ2 H3 λy H4=>C τ2 (acc++[y]) H4 else C τ2 acc H3)
  (hd:∀ τ acc H,Pv len τ acc H->∀ p,H p=none->Qf p H acc) :
  ∃ W:Nat->Nat->St->List V->Hp->Prop,(∃ m,W 0 m (tau0 n caps σ) [] H)/\∀ i m τ acc H,W i m τ acc H ->
   (J.stop i H/\acc.length<=sizeLine/\∀ p,H p=none->Qf p H acc) \/
   (J.go i H/\acc.length < sizeLine/\∀ x H',J.yld i H x H'->g x τ H' fun τ2 H2=>tc τ2 H2 λb H3=>if b=true then te τ2 H3 λy H4=>∃ m',m' < m/\W (i + 1) m' τ2 (acc++[y]) H4 else ∃ m',m' < m/\W (i + 1) m' τ2 acc H3):=by
 have line:1001<=sizeLine:=by rw [sizeLine_eq];decide
 refine ⟨λi m τ acc H=>m=len - i/\i<=len/\Pv i τ acc H,⟨len,by simp,zf _,h0⟩,?_⟩
 rintro i m τ acc H ⟨rfl,hi,p⟩
 have q:=hl i τ acc H p
 by_cases hlt:i < len
 ·exact .inr ⟨hgo i τ acc H hlt p,by omega,λx H' y=>hs i τ acc H (fun τ acc H=>∃ m',m' < len - i/\m'=len - (i + 1)/\i + 1<=len/\Pv (i + 1) τ acc H) hlt p (fun τ acc H p'=>⟨len - (i + 1),by omega,rfl,hlt,p'⟩) x H' y⟩
 ·have e:i=len:=by omega
  subst e
  exact .inl ⟨hstop τ acc H p,by omega,hd τ acc H p⟩
theorem comp_tup (Pv:Nat->St->List V->Hp->Prop) (h0:Pv 0 (tau0 n caps σ) [] H) (hn:xs.length<=1000) (hl:∀ i τ acc H,Pv i τ acc H->acc.length<=i/\SqT K H a xs)
  (hs:∀ i x τ acc H (C:St->List V->Hp->Prop),xs[i]?=some x->Pv i τ acc H->(∀ τ acc H,Pv (i + 1) τ acc H->C τ acc H)->g x τ H fun τ2 H2=>tc τ2 H2 λb H3=>if b=true then te τ2 H3 λy H4=>C τ2 (acc++[y]) H4 else C τ2 acc H3)
  (hd:∀ τ acc H,Pv xs.length τ acc H->∀ p,H p=none->Qf p H acc) :
  ∃ W:Nat->Nat->St->List V->Hp->Prop,(∃ m,W 0 m (tau0 n caps σ) [] H)/\∀ i m τ acc H,W i m τ acc H ->
   ((Itt K a).stop i H/\acc.length<=sizeLine/\∀ p,H p=none->Qf p H acc) \/
   ((Itt K a).go i H/\acc.length < sizeLine/\∀ x H',(Itt K a).yld i H x H'->g x τ H' fun τ2 H2=>tc τ2 H2 λb H3=>if b=true then te τ2 H3 λy H4=>∃ m',m' < m/\W (i + 1) m' τ2 (acc++[y]) H4 else ∃ m',m' < m/\W (i + 1) m' τ2 acc H3):=
 comp_of (J:=Itt K a) Pv xs.length h0 hn (λi τ acc H p=>(hl i τ acc H p).1) (λi τ acc H hi p=>⟨xs,xs[i],(hl i τ acc H p).2,by simp [hi]⟩) (fun τ acc H p=>⟨xs,(hl _ τ acc H p).2,zD _⟩)
  (λi τ acc H C hi p c x H' y=>by obtain ⟨e,y⟩:=y;subst e;exact hs i x τ acc _ C (y xs (hl i τ acc _ p).2) p c) hd
theorem x8 (Pv:Nat->St->List V->Hp->Prop) (h0:Pv 0 (tau0 n caps σ) [] H) (hn:xs.length<=1000) (hl:∀ i τ acc H,Pv i τ acc H->acc.length<=i/\SqL K H a xs)
  (hs:∀ i x τ acc H (C:St->List V->Hp->Prop),xs[i]?=some x->Pv i τ acc H->(∀ τ acc H,Pv (i + 1) τ acc H->C τ acc H)->g x τ H fun τ2 H2=>tc τ2 H2 λb H3=>if b=true then te τ2 H3 λy H4=>C τ2 (acc++[y]) H4 else C τ2 acc H3)
  (hd:∀ τ acc H,Pv xs.length τ acc H->∀ p,H p=none->Qf p H acc) :
  ∃ W:Nat->Nat->St->List V->Hp->Prop,(∃ m,W 0 m (tau0 n caps σ) [] H)/\∀ i m τ acc H,W i m τ acc H ->
   ((Itl K a).stop i H/\acc.length<=sizeLine/\∀ p,H p=none->Qf p H acc) \/
   ((Itl K a).go i H/\acc.length < sizeLine/\∀ x H',(Itl K a).yld i H x H'->g x τ H' fun τ2 H2=>tc τ2 H2 λb H3=>if b=true then te τ2 H3 λy H4=>∃ m',m' < m/\W (i + 1) m' τ2 (acc++[y]) H4 else ∃ m',m' < m/\W (i + 1) m' τ2 acc H3):=
 comp_of (J:=Itl K a) Pv xs.length h0 hn (λi τ acc H p=>(hl i τ acc H p).1) (λi τ acc H hi p=>⟨xs,xs[i],(hl i τ acc H p).2,by simp [hi]⟩) (fun τ acc H p=>⟨xs,(hl _ τ acc H p).2,zD _⟩)
  (λi τ acc H C hi p c x H' y=>by obtain ⟨e,y⟩:=y;subst e;exact hs i x τ acc _ C (y xs (hl i τ acc _ p).2) p c) hd
end
end L2
namespace Sm
open PySem L2 SmSort
def But (p:Addr) (H H':Hp):Prop:=∀ b u,b≠p->H b=some u->H' b=some u
theorem But.refl (p:Addr) (H:Hp):But p H H:=λ_ _ _ h=>h
theorem But.trans {p:Addr} {H H1 H2:Hp} (a:But p H H1) (b:But p H1 H2):But p H H2:=λc u n h=>b c u n (a c u n h)
theorem But.set {p:Addr}{H:Hp}{o:HO}:But p H (upd H p o):=λb u n h=>by rw [xH n];exact h
theorem But.new {p l:Addr}{H:Hp}{o:HO} (h:H l=none):But p H (upd H l o):=λb u n e=>by rw [xH (xF e h)];exact e
def Purse (H:Hp) (p:Addr):Prop:=∃ a b c:Int,H p=some (.lst [.int a,.int b,.int c])
def Go (p:Addr) (H H':Hp):Prop:=But p H H'/\Purse H' p
theorem Go.trans {p:Addr} {H H1 H2:Hp} (a:Go p H H1) (b:Go p H1 H2):Go p H H2:=⟨a.1.trans b.1,b.2⟩
theorem Go.refl {p:Addr}{H:Hp} (a:Purse H p):Go p H H:=⟨But.refl p H,a⟩
theorem Purse.new {p l:Addr}{H:Hp}{o:HO} (a:Purse H p) (h:H l=none):Purse (upd H l o) p:=by
 obtain ⟨x,y,z,e⟩:=a
 exact ⟨x,y,z,by rw [xH (xF e h)];exact e⟩
theorem Purse.ne {p l:Addr}{H:Hp} (a:Purse H p) (h:H l=none):l≠p:=by
 obtain ⟨x,y,z,e⟩:=a
 exact (xF e h).symm
theorem Go.new {p l:Addr} {H H1:Hp}{o:HO} (a:Go p H H1) (h:H1 l=none):Go p H (upd H1 l o):=⟨a.1.trans (But.new h),a.2.new h⟩
theorem Purse.tup {p t:Addr}{H:Hp}{xs:List V} (a:Purse H p) (h:H t=some (.tup xs)):t≠p:=by
 obtain ⟨x,y,z,e⟩:=a
 exact ne_of h e (by intro z;cases z)
def Tups (H H':Hp):Prop:=∀ b xs,H b=some (.tup xs)->H' b=some (.tup xs)
theorem Go.tups {p:Addr}{H H':Hp} (a:Go p H H') (h:Purse H p):Tups H H':=λb xs e=>a.1 b _ (h.tup e) e
theorem Tups.new {l:Addr}{H:Hp}{o:HO} (h:H l=none):Tups H (upd H l o):=λb u e=>by rw [xH (xF e h)];exact e
theorem Tups.set {l:Addr}{H:Hp}{xs:List V}{o:HO} (h:H l=some (.lst xs)):Tups H (upd H l o):=λb u e=>by rw [xH (ne_of e h (by intro z;cases z))];exact e
theorem Tups.same {H H':Hp} (h:Same H H'):Tups H H':=λb u e=>h b _ e
structure M4 where
 lo:Int
 hi:Int
 t:Int
 m:Int
def M4.vs (r:M4):List V:=[.int r.lo,.int r.hi,.int r.t,.int r.m]
def apart (a b:M4):Prop:=a.lo≠b.lo/\a.lo≠b.hi/\a.hi≠b.lo/\a.hi≠b.hi
structure Good (w:Int) (ms:List M4):Prop where
 few:ms.length<=60
 each:∀ r∈ms,0<=r.lo/\r.lo < r.hi/\r.hi < w/\1<=r.t/\r.t<=1000000000/\1<=r.m/\r.m<=99
 order:ms.Pairwise λa b=>a.t < b.t\/(a.t=b.t/\a.lo < b.lo/\apart a b)
def RowsAt (H:Hp) (ps:List (Addr×M4)):Prop:=∀ a∈ps,H a.1=some (.tup a.2.vs)
structure BookAt (H:Hp) (b:Addr) (rooms:List Int) (tr tm:Addr) (ps:List (Addr×M4)):Prop where
 book:H b=some (.tup [.ref tr,.ref tm])
 rooms:H tr=some (.tup (rooms.map V.int))
 meets:H tm=some (.tup (ps.map λa=>V.ref a.1))
 rows:RowsAt H ps
theorem RowsAt.tups {H H':Hp}{ps:List (Addr×M4)} (a:RowsAt H ps) (t:Tups H H'):RowsAt H' ps:=λx hx=>t _ _ (a x hx)
theorem BookAt.tups {H H':Hp}{b tr tm:Addr}{rooms:List Int}{ps:List (Addr×M4)} (a:BookAt H b rooms tr tm ps) (t:Tups H H'):BookAt H' b rooms tr tm ps:=
 ⟨t _ _ a.book,t _ _ a.rooms,t _ _ a.meets,a.rows.tups t⟩
def spPurse (K:PySem.W.Frag):Sp:=λvs H Q _=>∃ (a:Addr) (ns:List Int) (k:Nat),vs=[.ref a,.int k]/\SqL K H a (ns.map V.int)/\k < 1000/\∀ p H',H p=none->Purse H' p->Same H H'->Q (.ref p) H'
def spTake:Sp:=λvs H Q _=>∃ p n,vs=[.ref p,.int n]/\0 < n/\n < 2 ^ 200/\Purse H p/\∀ d H',0<=d->d < n->Go p H H'->Q (.int d) H'
def spFar:Sp:=λvs H Q _=>∃ p,vs=[.ref p]/\Purse H p/\∀ d H',0<=d->d<=1000000000->Go p H H'->Q (.int d) H'
def spRooms:Sp:=λvs H Q _=>∃ p,∃ n:Nat,vs=[.ref p,.int n]/\n<=1000/\Purse H p/\∀ (t:Addr) (rooms:List Int) (H':Hp),Go p H H'->H' t=some (.tup (rooms.map V.int))->rooms.length=n->(∀ r∈rooms,(0:Int)<=r/\r<=99)->Q (.ref t) H'
def spStep:Sp:=λvs H Q _=>∃ p,vs=[.ref p]/\Purse H p/\∀ d H',0<=d->d<=16000000->Go p H H'->Q (.int d) H'
def spMeetings:Sp:=λvs H Q _=>∃ p,∃ w:Int,∃ n:Nat,vs=[.ref p,.int w,.int n]/\n<=60/\w < 1000/\(n=0\/2<=w)/\Purse H p /\
 ∀ (t:Addr) (ps:List (Addr×M4)) (H':Hp),Go p H H'->H' t=some (.tup (ps.map λa=>V.ref a.1))->RowsAt H' ps->Good w (ps.map (·.2))->ps.length=n->Q (.ref t) H'
def spBook:Sp:=λvs H Q _=>∃ p,∃ a:Int,∃ n:Nat,vs=[.ref p,.int a,.int n]/\1<=a/\a<=100/\n<=60/\Purse H p /\
 ∀ (b:Addr) (rooms:List Int) (tr tm:Addr) (ps:List (Addr×M4)) (H':Hp),Go p H H'->BookAt H' b rooms tr tm ps->1<=rooms.length->(rooms.length:Int)<=a->(∀ r∈rooms,(0:Int)<=r/\r<=99)->Good rooms.length (ps.map (·.2))->ps.length<=n->Q (.ref b) H'
theorem iteD {c A B:Prop} [Decidable c] (h1:c->A) (h2:¬ c->B):if decide c=true then A else B:=by
 by_cases h:c
 ·rw [if_pos (decide_eq_true h)];exact h1 h
 ·rw [if_neg (by simpa using h)];exact h2 h
theorem iteB0 {c:Bool}{A B:Prop} (hc:c=false) (h:B):if c=true then A else B:=by
 rw [if_neg (by rw [hc];exact zL)];exact h
theorem iteB1 {c:Bool}{A B:Prop} (hc:c=true) (h:A):if c=true then A else B:=by
 rw [if_pos hc];exact h
theorem iteB {c:Bool}{A B:Prop} (h1:c=true->A) (h2:c=false->B):if c=true then A else B:=by
 cases c with
 | true=>exact h1 rfl
 | false=>exact h2 rfl
theorem xE {H:Hp}{p:Addr}{o:HO} (h:H p=none):Same H (upd H p o):=λb u e=>by
 rw [xH (xF e h)];exact e
def M4.row (r:M4):List Int:=[r.t,r.lo,r.hi,r.m]
structure FOk (w when':Int) (bs:List Int) (fs:List (Addr×M4)):Prop where
 each:∀ a∈fs,0<=a.2.lo/\a.2.lo < a.2.hi/\a.2.hi < w/\1<=a.2.t/\a.2.t<=when'/\1<=a.2.m/\a.2.m<=99
 pw:fs.Pairwise λa b=>a.2.t=b.2.t->apart a.2 b.2
 bz:∀ a∈fs,a.2.t=when'->a.2.lo∈bs/\a.2.hi∈bs
theorem FOk.step {w wh gap one other m:Int}{bs bs':List Int}{fs:List (Addr×M4)}{a:Addr} (F:FOk w wh bs fs) (h1:1<=wh) (g0:0<=gap) (o0:0<=one) (o1:one < w) (p0:0<=other) (p1:other < w) (ne:one≠other)
  (m0:1<=m) (m1:m<=99) (hg:gap=0->one ∉ bs/\other ∉ bs) (hb:∀ x∈bs,gap=0->x∈bs') (hb1:one∈bs') (hb2:other∈bs') :
  FOk w (wh + gap) bs' (fs++[(a,⟨if other < one then other else one,if other > one then other else one,wh + gap,m⟩)]):=by
 refine ⟨λb hb=>?_,?_,λb hm e=>?_⟩
 ·rcases zZ.mp hb with h | h
  ·obtain ⟨a1,a2,a3,a4,a5,a6,a7⟩:=F.each b h
   exact ⟨a1,a2,a3,a4,by omega,a6,a7⟩
  ·cases zP.mp h
   by_cases c:other < one
   ·rw [if_pos c,if_neg (by omega)];exact ⟨p0,c,o1,by show 1<=wh + gap;omega,Int.le_refl _,m0,m1⟩
   ·rw [if_neg c,if_pos (by omega)];exact ⟨o0,by show one < other;omega,p1,by show 1<=wh + gap;omega,Int.le_refl _,m0,m1⟩
 ·rw [yk]
  refine ⟨F.pw,List.pairwise_singleton _ _,λb hb c hc e=>?_⟩
  cases zP.mp hc
  have e':b.2.t=wh + gap:=e
  obtain ⟨a1,a2,a3,a4,a5,a6,a7⟩:=F.each b hb
  have g:gap=0:=by omega
  obtain ⟨x1,x2⟩:=F.bz b hb (by omega)
  obtain ⟨n1,n2⟩:=hg g
  have q1:b.2.lo≠one:=λz=>n1 (z ▸ x1)
  have q2:b.2.lo≠other:=λz=>n2 (z ▸ x1)
  have q3:b.2.hi≠one:=λz=>n1 (z ▸ x2)
  have q4:b.2.hi≠other:=λz=>n2 (z ▸ x2)
  unfold apart
  dsimp only
  by_cases c:other < one
  ·rw [if_pos c,if_neg (by omega)];exact ⟨q2,q1,q4,q3⟩
  ·rw [if_neg c,if_pos (by omega)];exact ⟨q1,q2,q3,q4⟩
 ·rcases zZ.mp hm with h | h
  ·obtain ⟨a1,a2,a3,a4,a5,a6,a7⟩:=F.each b h
   obtain ⟨x1,x2⟩:=F.bz b h (by omega)
   exact ⟨hb _ x1 (by omega),hb _ x2 (by omega)⟩
  ·cases zP.mp h
   by_cases c:other < one
   ·rw [if_pos c,if_neg (by omega)];exact ⟨hb2,hb1⟩
   ·rw [if_neg c,if_pos (by omega)];exact ⟨hb1,hb2⟩
def M4.late (l:Int) (r:M4):M4:=⟨r.lo,r.hi,r.t + l,r.m⟩
theorem FOk.good {w wh l:Int}{bs:List Int}{fs qs:List (Addr×M4)} (F:FOk w wh bs fs) (n:fs.length<=60) (l0:0<=l) (l1:fs≠[]->wh + l<=1000000000) (p:qs.Perm fs) (s:qs.Pairwise λa b=>lx b.2.row a.2.row=false) :
  Good w (qs.map λa=>a.2.late l):=by
 refine ⟨by rw [zA,p.length_eq];exact n,λr hr=>?_,?_⟩
 ·obtain ⟨a,ha,rfl⟩:=zO.mp hr
  have hm:=p.mem_iff.mp ha
  obtain ⟨a1,a2,a3,a4,a5,a6,a7⟩:=F.each a hm
  have:=l1 (List.ne_nil_of_mem hm)
  unfold M4.late
  exact ⟨a1,a2,a3,by show 1<=a.2.t + l;omega,by show a.2.t + l<=1000000000;omega,a6,a7⟩
 ·rw [yE]
  have ap:qs.Pairwise λa b=>a.2.t=b.2.t->apart a.2 b.2:=(List.Perm.pairwise_iff (λ{x y} h e=>by
   obtain ⟨a1,a2,a3,a4⟩:=h e.symm
   exact ⟨a1.symm,a3.symm,a2.symm,a4.symm⟩) p).mpr F.pw
  refine (s.and ap).imp λ{a b} ⟨h1,h2⟩=>?_
  unfold M4.late
  dsimp only
  unfold M4.row lx at h1
  by_cases e:a.2.t=b.2.t
  ·have q:=h2 e
   rw [if_pos e.symm] at h1
   unfold lx at h1
   rw [if_neg λz=>q.1 z.symm] at h1
   simp only [decide_eq_false_iff_not] at h1
   refine .inr ⟨by omega,?_,q⟩
   have:=q.1
   omega
  ·rw [if_neg λz=>e z.symm] at h1
   simp only [decide_eq_false_iff_not] at h1
   exact .inl (by omega)
def toM4 (r:List Int):M4:=⟨r.getD 1 0,r.getD 2 0,r.getD 0 0,r.getD 3 0⟩
theorem rows_back {fs:List (Addr×M4)}{qs:List (Addr×List Int)} (p:qs.Perm (fs.map λa=>(a.1,a.2.row))) (s:qs.Pairwise λa b=>lx b.2 a.2=false) :
  ∃ rs:List (Addr×M4),rs.Perm fs/\(rs.Pairwise λa b=>lx b.2.row a.2.row=false)/\qs=rs.map λa=>(a.1,a.2.row):=by
 have e:qs=(qs.map λa=>(a.1,toM4 a.2)).map λa=>(a.1,a.2.row):=by
  rw [zp]
  refine (List.map_id qs).symm.trans (yS λx hx=>?_)
  obtain ⟨a,_,rfl⟩:=zO.mp (p.mem_iff.mp hx)
  rfl
 refine ⟨qs.map λa=>(a.1,toM4 a.2),?_,?_,e⟩
 ·have:=p.map λa=>(a.1,toM4 a.2)
  rw [zp] at this
  refine this.trans (.of_eq ?_)
  refine (yS λx _=>?_).trans (List.map_id fs)
  rfl
 ·rw [e,yE] at s
  exact s
theorem flat_ints (bs:List Int):(bs.map V.int).all flatV=true:=by
 rw [yc]
 intro x hx
 obtain ⟨b,_,rfl⟩:=zO.mp hx
 rfl
theorem inV_ints {x:Int}{bs:List Int}:inV (.int x) (bs.map V.int)=decide (x∈bs):=by
 unfold inV
 induction bs with
 | nil=>rfl
 | cons b bs ih=>
  rw [zu,List.any_cons,ih]
  by_cases h:x=b
  ·subst h;simp [eqV]
  ·have h':¬ b=x:=λz=>h z.symm
   simp [eqV,h,h']
def PvM (p lf:Addr) (w:Int) (n:Nat) (H:Hp) (i:Nat) (σ:St) (H3:Hp):Prop:=
 ∃ v6 v7 v8 v9 v10 wh lb bs,∃ fs:List (Addr×M4),σ=[some (.ref p),some (.int w),some (.int n),some (.ref lf),some (.int wh),some (.ref lb),v6,v7,v8,v9,v10,none] /\
  H3 lf=some (.lst (fs.map λa=>V.ref a.1))/\H3 lb=some (.lst (List.map V.int bs))/\lb≠lf/\lb≠p/\(∀ a∈fs,H3 a.1=some (.tup (a.2.row.map V.int)))/\FOk w wh bs fs/\fs.length=i/\bs.length<=2 * i/\1<=wh/\wh<=10000000 + 16000000 * i/\Go p H H3
theorem PvM.step {p lf lb t:Addr}{w wh gap one other m:Int}{n i:Nat}{H Hx:Hp}{bs bs':List Int}{fs:List (Addr×M4)} {v6 v7 v8 v9 v10:Option V} (npf:lf≠p) (hlf:H lf=none)
  (F:FOk w wh bs fs) (lenf:fs.length=i) (lenb:bs'.length<=2 * i + 2) (wh1:1<=wh) (wh2:wh<=10000000 + 16000000 * i) (hf:Hx lf=some (.lst (fs.map λa=>V.ref a.1))) (hb:Hx lb=some (.lst (List.map V.int bs'))) (nb:lb≠lf) (nbp:lb≠p)
  (rows:∀ a∈fs,Hx a.1=some (.tup (a.2.row.map V.int))) (go:Go p H Hx) (ht:Hx t=none)
  (g0:0<=gap) (g1:gap<=16000000) (o0:0<=one) (o1:one < w) (p0:0<=other) (p1:other < w) (ne:one≠other) (m0:1<=m) (m1:m<=99) (hg:gap=0->one ∉ bs/\other ∉ bs) (hb0:∀ x∈bs,gap=0->x∈bs') (hb1:one∈bs') (hb2:other∈bs') :
  PvM p lf w n H (i + 1) [some (.ref p),some (.int w),some (.int n),some (.ref lf),some (.int (wh + gap)),some (.ref lb),v6,v7,v8,v9,v10,none]
   (upd (upd Hx t (.tup [.int (wh + gap),.int (if other < one then other else one),.int (if other > one then other else one),.int m])) lf (.lst ((fs.map λa=>V.ref a.1)++[.ref t]))):=by
 have ntf:t≠lf:=(xF hf ht).symm
 refine ⟨v6,v7,v8,v9,v10,wh + gap,lb,bs',fs++[(t,⟨if other < one then other else one,if other > one then other else one,wh + gap,m⟩)],rfl,by rw [xC,zC];rfl,?_,nb,nbp,λa ha=>?_,F.step wh1 g0 o0 o1 p0 p1 ne m0 m1 hg hb0 hb1 hb2,by rw [zI,lenf];rfl,by omega,by omega,by omega,λb u nb e=>?_,?_⟩
 ·rw [xH nb,xH (xF hb ht)];exact hb
 ·rcases zZ.mp ha with h | h
  ·have:=rows a h
   rw [xH (ne_of this hf (by intro z;cases z)),xH (xF this ht)];exact this
  ·cases zP.mp h
   rw [xH ntf,xC];rfl
 ·rw [xH (xF e hlf),xH (xF (go.1 b u nb e) ht)];exact go.1 b u nb e
 ·have:=go.2.new (o:=.tup [.int (wh + gap),.int (if other < one then other else one),.int (if other > one then other else one),.int m]) ht
  obtain ⟨x,y,z,e⟩:=this
  exact ⟨x,y,z,by rw [xH npf.symm];exact e⟩
theorem oth_ok {one x w:Int} (o0:0<=one) (o1:one < w) (x0:0<=x) (x1:x < w - 1):0<=(one + 1 + x) % w/\(one + 1 + x) % w < w/\one≠(one + 1 + x) % w:=by
 refine ⟨yN _ (by omega),yB _ (by omega),?_⟩
 by_cases h:one + 1 + x < w
 ·rw [Int.emod_eq_of_lt (by omega) h];omega
 ·have e:(one + 1 + x) % w=(one + 1 + x - w) % w:=by
   have:one + 1 + x=(one + 1 + x - w) + w:=by omega
   rw [this,Int.add_emod_right];congr 1;omega
  rw [e,Int.emod_eq_of_lt (by omega) (by omega)];omega
theorem Go.same {p:Addr} {H H1 H2:Hp} (a:Go p H H1) (s:Same H1 H2):Go p H H2:=⟨λb u n e=>s b u (a.1 b u n e),by obtain ⟨x,y,z,e⟩:=a.2;exact ⟨x,y,z,s _ _ e⟩⟩
theorem xW {α:Type}{f:α->V}{l:List α}{i:Nat}{x:V} (h:(l.map f)[i]?=some x):∃ r,l[i]?=some r/\x=f r:=by
 rw [zX] at h
 cases e:l[i]? with
 | none=>rw [e] at h;cases h
 | some r=>rw [e] at h;exact ⟨r,rfl,(Option.some.inj h).symm⟩
theorem xt {α:Type}{l:List α}{i:Nat}{r:α} (h:l[i]?=some r):l.take (i + 1)=l.take i++[r]:=by
 rw [yr,h];rfl
theorem But.same {p:Addr} {H H1 H2:Hp} (hp:H p=none) (s:Same H H1) (g:But p H1 H2):Same H H2:=λb u e=>g b u (xF e hp) (s b u e)
theorem Same.put {l:Addr}{H H':Hp}{o:HO} (h:H l=none) (s:Same H H'):Same H (upd H' l o):=λb u e=>by rw [xH (xF e h)];exact s b u e
theorem BookAt.same {H H':Hp}{b tr tm:Addr}{rooms:List Int}{ps:List (Addr×M4)} (a:BookAt H b rooms tr tm ps) (t:Same H H'):BookAt H' b rooms tr tm ps:=a.tups (Tups.same t)
theorem tyS_lst {H:Hp}{l:Addr}{xs:List V} (h:H l=some (.lst xs)):tyS H (.ref l)=some "list" := by simp only [tyS,h]
theorem four_of {xs:List V} (h:xs.length=4):∃ a b c d,xs=[a,b,c,d]:=by
 rcases xs with _ | ⟨a,_ | ⟨b,_ | ⟨c,_ | ⟨d,_ | ⟨e,xs⟩⟩⟩⟩⟩ <;> first | exact ⟨_,_,_,_,rfl⟩ | (simp only [zV,zy] at h;omega)
def spWhole:Sp:=λvs H Q _=>∃ x t,vs=[x]/\tyS H x=some t/\Q (.bl (t == "int")) H
def inB (lo hi:Int):V->Bool
 | .int i=>decide (lo<=i) && decide (i<=hi)
 | _=>false
def spWithin:Sp:=λvs H Q _=>∃ x t lo hi,vs=[x,.int lo,.int hi]/\tyS H x=some t/\Q (.bl (inB lo hi x)) H
def spTime:Sp:=λvs H Q _=>∃ x t,vs=[x]/\tyS H x=some t/\Q (.bl (inB 0 1000000000 x)) H
theorem tyS_int {H:Hp}{x:V} (h:tyS H x=some "int"):∃ i,x=.int i:=by
 cases x with
 | int i=>exact ⟨i,rfl⟩
 | ref a=>
  unfold tyS at h
  dsimp only at h
  split at h <;> simp at h
 | _=>simp [tyS] at h
theorem inB_no {H:Hp}{x:V}{t:String}{lo hi:Int} (h:tyS H x=some t) (n:¬ t = "int"):inB lo hi x=false:=by
 cases x with
 | int i=>simp [tyS] at h;exact absurd h.symm n
 | _=>rfl
def hasW (w:Int) (r:M4):Bool:=decide (r.lo=w) || decide (r.hi=w)
def numsTo (ms:List M4) (w:Int):Nat->List Int
 | 0=>[]
 | i + 1=>numsTo ms w i++(if (ms[i]?).any (hasW w)=true then [(i:Int)] else [])
end Sm
namespace Sm
open PySem L2 SmSort
def spTimeOf:Sp:=λvs H Q _=>∃ p b j rooms tr tm ps,vs=[.ref p,.ref b,.int j]/\(j=0\/j=1)/\BookAt H b rooms tr tm ps/\Good rooms.length (ps.map (·.2))/\Purse H p/\∀ d H',0<=d->d<=1000000000->Go p H H'->Q (.int d) H'
def spLetter:Sp:=λvs H Q _=>∃ p b rooms tr tm ps,vs=[.ref p,.ref b]/\BookAt H b rooms tr tm ps/\1<=rooms.length/\rooms.length<=1000/\Good rooms.length (ps.map (·.2))/\Purse H p /\
 ∀ t (s a w z:Int) H',Go p H H'->H' t=some (.tup [.int s,.int a,.int w,.int z])->0<=s->s < rooms.length->0<=w->w < rooms.length->0<=a->a<=1000000000->0<=z->z<=1000000000->Q (.ref t) H'
theorem Good.len {w:Int}{ps:List (Addr×M4)} (g:Good w (ps.map (·.2))):ps.length<=60:=by simpa using g.few
theorem Good.at {w:Int}{ps:List (Addr×M4)} (g:Good w (ps.map (·.2))) {r:Addr×M4} (h:r∈ps):0<=r.2.lo/\r.2.lo < r.2.hi/\r.2.hi < w/\1<=r.2.t/\r.2.t<=1000000000/\1<=r.2.m/\r.2.m<=99:=g.each _ (zO.mpr ⟨r,h,rfl⟩)
end Sm
namespace L2
open PySem PySem.Spec PyProof.Rows
end L2
namespace L2
open PySem PySem.Spec PyProof.Rows
section
variable {X:Cx}
def oV:Option Int->V
 | none=>.non
 | some i=>.int i
theorem all_range {n:Nat}{e:Nat->Bool}{b:Bool} (h:(∀ j,j < n->e j=true)↔b=true):(List.range n).all e=b:=by
 cases b with
 | true=>rw [yc];intro j hj;exact h.mpr rfl j (zk.mp hj)
 | false=>
  cases c:(List.range n).all e with
  | false=>rfl
  | true=>exact absurd (h.mp λj hj=>yc.mp c j (zk.mpr hj)) (by simp)
end
end L2
namespace Sm
open PySem L2 SmSort
def Th (H:Hp) (x:V) (r:Option (List V)):Prop:=
 (∃ t,tyS H x=some t/\t ≠ "tuple" /\ r=none)\/(∃ a xs,x=.ref a/\H a=some (.tup xs)/\(∀ e∈xs,∃ t,tyS H e=some t)/\r=some xs)
def isLet (w:Int):Option (List V)->Bool
 | some [a,b,c,d]=>inB 0 (w - 1) a && (inB 0 1000000000 b && (inB 0 (w - 1) c && inB 0 1000000000 d))
 | _=>false
def spIsWalker:Sp:=λvs H Q _=>∃ b x t rooms tr tm ps,vs=[.ref b,x]/\BookAt H b rooms tr tm ps/\tyS H x=some t/\Q (.bl (inB 0 ((rooms.length:Int) - 1) x)) H
def spIsLetter:Sp:=λvs H Q _=>∃ b x r rooms tr tm ps,vs=[.ref b,x]/\BookAt H b rooms tr tm ps/\Th H x r/\Q (.bl (isLet rooms.length r)) H
theorem tyS_tup {H:Hp}{l:Addr}{xs:List V} (h:H l=some (.tup xs)):tyS H (.ref l)=some "tuple" := by simp only [tyS,h]
theorem atI_mem {α:Type}{xs:List α}{i:Int}{v:α} (h:atI xs i=some v):v∈xs:=by
 obtain ⟨j,_,hj,_⟩:=atI_get h
 exact zB hj
end Sm
namespace L2
open PySem PySem.Spec PyProof.Rows
theorem pick_to {α:Type} (l:List α):∀ n,n<=l.length->(List.range n).filterMap (λk=>l[k]?)=l.take n
 | 0,_=>by simp
 | n + 1,h=>by
  have hn:n < l.length:=h
  rw [List.range_succ,List.filterMap_append,pick_to l n (by omega),yr]
  simp [hn]
theorem fm_congr {α β:Type}{f g:α->Option β}:∀ {l:List α},(∀ x∈l,f x=g x)->l.filterMap f=l.filterMap g
 | [],_=>rfl
 | x::l,h=>by
  rw [yn,yn,h x (.head _),fm_congr λy hy=>h y (.tail _ hy)]
theorem rev_pick {α:Type} (l:List α):((List.range l.length).map λk:Nat=>((l.length:Int) - 1 + -1 * (k:Int)).toNat).filterMap (λj=>l.toArray[j]?)=l.reverse:=by
 rw [List.filterMap_map]
 have h:=pick_to l.reverse l.length (by simp)
 rw [show l.reverse.take l.length=l.reverse from by rw [<-List.length_reverse];exact yV] at h
 rw [<-h]
 refine fm_congr λk hk=>?_
 have hk':=zk.mp hk
 have e:((l.length:Int) - 1 + -1 * (k:Int)).toNat=l.length - 1 - k:=by omega
 show l.toArray[((l.length:Int) - 1 + -1 * (k:Int)).toNat]?=_
 rw [e,List.getElem?_reverse hk']
 simp
theorem slicePick_rev (its:List Value):slicePick its.toArray none none (some (-1))=its.reverse.toArray:=by
 unfold slicePick
 have e:sliceBounds none none (some (-1)) its.toArray.size=((its.length:Int) - 1,-1,-1):=by
  unfold sliceBounds
  simp
 rw [e]
 have r:sliceRange ((its.length:Int) - 1) (-1) (-1)=(List.range its.length).map λk:Nat=>((its.length:Int) - 1 + -1 * (k:Int)).toNat:=by
  unfold sliceRange
  have c:(if (-1:Int) > 0 then (if (its.length:Int) - 1 < -1 then (-1 - ((its.length:Int) - 1) + -1 - 1) / -1 else 0) else (if (its.length:Int) - 1 > -1 then ((its.length:Int) - 1 - -1 - -1 - 1) / (- -1) else 0))=(its.length:Int):=by
   rw [if_neg (by decide)]
   have e1:(- -1:Int)=1:=by decide
   rw [e1,Int.ediv_one]
   split <;> omega
  simp only [c]
  simp
 rw [r]
 exact congrArg yW (rev_pick its)
section
variable {X:Cx}{e:Expr}{te:TE} {pos p2 p3 p4:Pos}{j:Nat}
def tRevL (K:PySem.W.Frag) (te:TE):TE:=fun σ H Q=>te σ H λx H1=>∃ a xs,x=.ref a/\SqL K H1 a xs/\∀ p,H1 p=none->Q (.ref p) (upd H1 p (.lst xs.reverse))
theorem pe_revL {K:PySem.W.Frag} (hK:X.K=K) (he:PE X e te):PE X (.Subscript e (.Slice none none (some (.UnaryOp .USub (.Constant (.int 1) j p4) p3)) p2) pos) (tRevL K te):=by
 subst hK
 intro pins s σ H Q I h
 refine Subscript_ (thn (he pins s σ H _ I h) λv s1 ⟨x,H1,I1,r1,q1⟩=>?_)
 have st:PO X (some (.UnaryOp .USub (.Constant (.int 1) j p4) p3)) (tPart (tUn (rU λi=>.int (-i)) (tC (.int 1)))):=po_some (pe_un un_neg xD)
 refine wpAny_Slice ?_
 rw [evalPart_none]
 refine wpAny_pure (wpAny_pure ?_)
 refine thn (st pins s1 σ H1 (λo H'=>o=some (-1)/\H'=H1) I1 ⟨1,rfl,-1,rfl,rfl,rfl⟩) λvs s3 h3=>?_
 obtain ⟨o,H',I3,ps,rfl,rfl⟩:=h3
 have I4:Inv X pins σ H' { s3 with heap:=s3.heap.push { cls:=.type "slice", data:=.fields #[.none,.none,vs] } }:=I3.kept (t':=s3.toks) λb ob q=>Heap.get?_push_of_some _ q
 obtain ⟨a,xs,rfl,hx,q⟩:=q1
 cases r1
 obtain ⟨its,r,ht,hz⟩:=I4.list hx
 have hlen:=r.length
 show wpAny (model X.prog X.w) X.A (subscriptTail e (.Slice none none (some (.UnaryOp .USub (.Constant (.int 1) j p4) p3)) p2) (.ref a) (.ref s3.heap.objs.size)) (EP X pins σ Q) X.xe { s3 with heap:=s3.heap.push { cls:=.type "slice", data:=.fields #[.none,.none,vs] } }
 refine tail_any (ops:=[.ref a,.ref s3.heap.objs.size]) ht.isList.typeIs slot_list_getitem.lookup ?_ (by with_unfolding_all rfl)
 refine wpAny_getItem_list_slice ht.isList (Heap.IsSliceOf.new ..) .none .none ps (by simp) ?_ (by rw [zF] <;> omega)
 rw [slicePick_rev]
 refine ⟨.ref _,_,I4.laid (t':=s3.toks) (o:=.lst xs.reverse) (λb ob q=>Heap.get?_push_of_some _ q) (zD _) ?_,rfl,q _ (I4.hok.fresh (zD _))⟩
 exact ⟨by rw [List.length_reverse];exact hz,_,0,r.reverse,Heap.get?_push_size _ rfl⟩
end
end L2
namespace Sm
open PySem L2 SmSort
abbrev Fn:=Nat->Option Int
def put (f:Fn) (k:Nat) (x:Option Int):Fn:=λi=>if i=k then x else f i
theorem put_same {f:Fn}{k:Nat}{x:Option Int}:put f k x k=x:=by unfold put;rw [if_pos rfl]
theorem put_ne {f:Fn}{k i:Nat}{x:Option Int} (h:i≠k):put f k x i=f i:=by unfold put;rw [if_neg h]
def lone (k:Nat) (x:Int):Fn:=λi=>if i=k then some x else none
def below (o:Option Int) (t:Int):Bool:=match o with
 | some y=>decide (y < t)
 | none=>false
theorem below_iff {o:Option Int}{t:Int}:below o t=true↔∃ y,o=some y/\y < t:=by
 cases o <;> simp [below]
def upto (o:Option Int) (t:Int):Bool:=match o with
 | some y=>decide (y<=t)
 | none=>false
structure W3 where
 g:Nat
 o:Nat
 t:Int
def two (m:M4):List W3:=[⟨m.lo.toNat,m.hi.toNat,m.t⟩,⟨m.hi.toNat,m.lo.toNat,m.t⟩]
def ways2 (ms:List M4):List W3:=ms.flatMap two
def fstep (st:Fn) (x:W3):Fn:=if st x.o=none/\below (st x.g) x.t=true then put st x.o (some x.t) else st
def fwd (ms:List M4) (st:Fn):Fn:=(ways2 ms).foldl fstep st
theorem fstep_some {st:Fn}{x:W3}{i:Nat}{y:Int} (h:st i=some y):fstep st x i=some y:=by
 unfold fstep
 split
 ·rename_i c
  by_cases e:i=x.o
  ·rw [e,c.1] at h;cases h
  ·rw [put_ne e];exact h
 ·exact h
def rep (n:Nat) (f:Fn):List (Option Int):=(List.range n).map f
end Sm
namespace L2
open PySem PySem.Spec PyProof.Rows
section
variable {n:Nat}{caps:List Nat}{g:TG}{tc:TT}{te:TE}{σ:St}{H:Hp}{Qf:Addr->Hp->List V->Prop}
theorem comp_range {lo:Int}{m:Nat} (Pv:Nat->St->List V->Hp->Prop) (h0:Pv 0 (tau0 n caps σ) [] H) (hn:m<=1000) (hl:∀ i τ acc H,Pv i τ acc H->acc.length<=i)
  (hs:∀ i τ acc H (C:St->List V->Hp->Prop),i < m->Pv i τ acc H->(∀ τ acc H,Pv (i + 1) τ acc H->C τ acc H)->g (.int (lo + i)) τ H fun τ2 H2=>tc τ2 H2 λb H3=>if b=true then te τ2 H3 λy H4=>C τ2 (acc++[y]) H4 else C τ2 acc H3)
  (hd:∀ τ acc H,Pv m τ acc H->∀ p,H p=none->Qf p H acc) :
  ∃ W:Nat->Nat->St->List V->Hp->Prop,(∃ m,W 0 m (tau0 n caps σ) [] H)/\∀ i m' τ acc H,W i m' τ acc H ->
   ((Itr lo m).stop i H/\acc.length<=sizeLine/\∀ p,H p=none->Qf p H acc) \/
   ((Itr lo m).go i H/\acc.length < sizeLine/\∀ x H',(Itr lo m).yld i H x H'->g x τ H' fun τ2 H2=>tc τ2 H2 λb H3=>if b=true then te τ2 H3 λy H4=>∃ m'',m'' < m'/\W (i + 1) m'' τ2 (acc++[y]) H4 else ∃ m'',m'' < m'/\W (i + 1) m'' τ2 acc H3):=
 comp_of (J:=Itr lo m) Pv m h0 hn hl (λi τ acc H hi p=>hi) (fun τ acc H p=>zD _)
  (λi τ acc H C hi p c x H' y=>by obtain ⟨e1,e2⟩:=y;subst e1;subst e2;exact hs i τ acc _ C hi p c) hd
end
end L2
namespace Sm
open PySem L2 SmSort
def run (ws:List W3) (st:Fn):Fn:=ws.foldl fstep st
theorem run_keep:∀ {ws:List W3}{st:Fn}{i:Nat}{y:Int},st i=some y->run ws st i=some y
 | [],_,_,_,h=>h
 | w::ws,st,i,y,h=>run_keep (ws:=ws) (fstep_some h)
theorem run_from:∀ {ws:List W3}{st:Fn}{i:Nat}{t:Int},run ws st i=some t->st i=none->∃ x∈ws,x.o=i/\x.t=t/\∃ y,run ws st x.g=some y/\y < t
 | [],st,i,t,h,h0=>by
  have:st i=some t:=h
  rw [h0] at this;cases this
 | w::ws,st,i,t,h,h0=>by
  have h':run ws (fstep st w) i=some t:=h
  cases e:fstep st w i with
  | none=>
   obtain ⟨x,hx,a,b,y,hy,lt⟩:=run_from h' e
   exact ⟨x,.tail _ hx,a,b,y,hy,lt⟩
  | some z=>
   have z':=run_keep (ws:=ws) e
   rw [h'] at z';cases z'
   unfold fstep at e
   split at e
   ·rename_i c
    by_cases io:i=w.o
    ·subst io
     rw [put_same] at e;cases e
     obtain ⟨y,hy,lt⟩:=below_iff.mp c.2
     exact ⟨w,.head _,rfl,rfl,y,run_keep (ws:=w::ws) hy,lt⟩
    ·rw [put_ne io,h0] at e;cases e
   ·rw [h0] at e;cases e
end Sm
namespace L2
open PySem PySem.Spec PyProof.Rows
section
variable {X:Cx}{pins:List (Addr×Obj)}{σ:St}{H:Hp}{s:Shared}
theorem Inv.keptAll {m:Str->Option Value}{h':Heap}{tk:Nat} (I:Inv X pins σ H s) (F0:Fr X.base X.env.locals s.heap m) (F:Fr X.base X.env.locals h' m)
  (N:News X.base X.env.locals h' (allNews X.base s.heap X.env.locals)):Inv X pins σ H { s with heap:=h',toks:=tk }:=by
 have keep:∀ b o,b≠X.env.locals->s.heap.get? b=some o->h'.get? b=some o:=λb o hb e=>by
  cases q:X.base.get? b with
  | some u=>
   have:=I.bk b u q
   rw [e] at this;cases this
   exact F.keep b _ q
  | none=>exact (N (b,o) (mem_allNews hb q e)).1
 refine I.step (g':=s.gens) (t':=tk) (d':=s.drawn) (ch:=[]) (λ_ z=>nomatch z) (λb o hb _ _ e _=>keep b o hb e) (λb o hb _ _ e _=>⟨o.slots,keep b o hb e⟩) (λb o _ e n=>n) (λb o _ e=>?_)
  (λb ys e=>e) (λb o u e=>e) (λb ps e=>⟨#[],by rw [e,Array.append_empty]⟩) (λm' hm=>?_) (λb u e=>?_) I.bare
 ·by_cases hb:b=X.env.locals
  ·obtain ⟨o',_,_,q,_⟩:=F.ns
   exact ⟨o',by rw [hb];exact q⟩
  ·exact ⟨o,keep b o hb e⟩
 ·obtain ⟨o1,es1,ep1,e1,d1,k1,f1⟩:=hm
  obtain ⟨o2,es2,ep2,e2,d2,k2,f2⟩:=F0.ns
  rw [e1] at e2;cases e2
  rw [d1] at d2;cases d2
  obtain ⟨o3,es3,ep3,e3,d3,k3,f3⟩:=F.ns
  exact ⟨o3,es3,ep3,e3,d3,k3,λname=>(f3 name).trans ((f2 name).symm.trans (f1 name))⟩
 ·refine (I.hok b u e).stay (λc v hc q=>keep c v (λz=>?_) q) (λc q=>q) λc ys q=>q
  rcases hc with rfl | hc
  ·rw [z,I.free] at e;cases e
  ·rw [z,I.free] at hc;cases hc
theorem bools_of:∀ {bs:List Bool}{us:List Value},Vals (bs.map V.bl) us->LSm.BoolsAre us bs
 | [],us,r=>by cases r;exact .nil
 | b::bs,us,r=>by
  cases r with
  | cons x y=>
   cases x
   exact .cons b (bools_of y)
theorem call_all {K:PySem.W.Frag} (hK:X.K=K) (hc:X.calm=true):CallR X (.builtin "all") (λxs H Q=>∃ p,∃ bs:List Bool,xs=[.ref p]/\SqL K H p (bs.map V.bl)/\Q (.bl (bs.all id)) H):=by
 subst hK
 intro pins s σ H xs us Q I r h
 obtain ⟨p,bs,rfl,hq,q⟩:=h
 obtain ⟨u,rfl,rx⟩:=vals1 r
 cases rx
 obtain ⟨its,r',pl,hz⟩:=I.list hq
 obtain ⟨m,F⟩:=I.fr
 exact LSm.all_bools F (news_all (g:=X.base) (h:=s.heap)) (I.ok.hd hc) pl.isList (bools_of r') λh' tk F' N'=>⟨.bl _,H,I.keptAll F F' N',rfl,q⟩
end
end L2
namespace Sm
open PySem L2 SmSort
end Sm
namespace Sm
open PySem L2 SmSort
theorem ixt {K:PySem.W.Frag}{H:Hp}{a:Addr}{xs:List V}{i:Int}{v:V}{Q:V->Prop} (h:H a=some (.tup xs)) (hi:atI xs i=some v) (q:Q v):∃ p xs' i' v',V.ref a=.ref p/\V.int i=.int i'/\SqT K H p xs'/\atI xs' i'=some v'/\Q v':=⟨a,xs,i,v,rfl,rfl,SqT.of h,hi,q⟩
theorem ixl {K:PySem.W.Frag}{H:Hp}{a:Addr}{xs:List V}{i:Int}{v:V}{Q:V->Prop} (h:H a=some (.lst xs)) (hi:atI xs i=some v) (q:Q v):∃ p xs' i' v',V.ref a=.ref p/\V.int i=.int i'/\SqL K H p xs'/\atI xs' i'=some v'/\Q v':=⟨a,xs,i,v,rfl,rfl,SqL.of h,hi,q⟩
theorem usC {P:List Value->Prop}{us:List Value}{n:Nat} (h:us.length=n + 1) (q:∀ a r,r.length=n->P (a::r)):P us:=by
 cases us with
 | nil=>cases h
 | cons a r=>exact q a r (Nat.succ.inj h)
theorem usN {P:List Value->Prop}{us:List Value} (h:us.length=0) (q:P []):P us:=by rw [List.eq_nil_of_length_eq_zero h];exact q
theorem us1 {fd:FuncData}{ps:List Str}{us:List Value} (h:us.length=1) (q:∀ a,bindArgs fd ⟨[a],[]⟩=pure (ps.zip [a])):bindArgs fd ⟨us,[]⟩=pure (ps.zip us):=usC (P:=λus=>bindArgs fd ⟨us,[]⟩=pure (ps.zip (us))) h λa us h=>usN (P:=λus=>bindArgs fd ⟨a::us,[]⟩=pure (ps.zip (a::us))) h (q a)
theorem us2 {fd:FuncData}{ps:List Str}{us:List Value} (h:us.length=2) (q:∀ a b,bindArgs fd ⟨[a,b],[]⟩=pure (ps.zip [a,b])):bindArgs fd ⟨us,[]⟩=pure (ps.zip us):=usC (P:=λus=>bindArgs fd ⟨us,[]⟩=pure (ps.zip (us))) h λa us h=>usC (P:=λus=>bindArgs fd ⟨a::us,[]⟩=pure (ps.zip (a::us))) h λb us h=>usN (P:=λus=>bindArgs fd ⟨a::b::us,[]⟩=pure (ps.zip (a::b::us))) h (q a b)
theorem us3 {fd:FuncData}{ps:List Str}{us:List Value} (h:us.length=3) (q:∀ a b c,bindArgs fd ⟨[a,b,c],[]⟩=pure (ps.zip [a,b,c])):bindArgs fd ⟨us,[]⟩=pure (ps.zip us):=usC (P:=λus=>bindArgs fd ⟨us,[]⟩=pure (ps.zip (us))) h λa us h=>usC (P:=λus=>bindArgs fd ⟨a::us,[]⟩=pure (ps.zip (a::us))) h λb us h=>usC (P:=λus=>bindArgs fd ⟨a::b::us,[]⟩=pure (ps.zip (a::b::us))) h λc us h=>usN (P:=λus=>bindArgs fd ⟨a::b::c::us,[]⟩=pure (ps.zip (a::b::c::us))) h (q a b c)
theorem us4 {fd:FuncData}{ps:List Str}{us:List Value} (h:us.length=4) (q:∀ a b c d,bindArgs fd ⟨[a,b,c,d],[]⟩=pure (ps.zip [a,b,c,d])):bindArgs fd ⟨us,[]⟩=pure (ps.zip us):=usC (P:=λus=>bindArgs fd ⟨us,[]⟩=pure (ps.zip (us))) h λa us h=>usC (P:=λus=>bindArgs fd ⟨a::us,[]⟩=pure (ps.zip (a::us))) h λb us h=>usC (P:=λus=>bindArgs fd ⟨a::b::us,[]⟩=pure (ps.zip (a::b::us))) h λc us h=>usC (P:=λus=>bindArgs fd ⟨a::b::c::us,[]⟩=pure (ps.zip (a::b::c::us))) h λd us h=>usN (P:=λus=>bindArgs fd ⟨a::b::c::d::us,[]⟩=pure (ps.zip (a::b::c::d::us))) h (q a b c d)
theorem ex7 {α0 α1 α2 α3 α4 α5 α6:Type}{P:α0->α1->α2->α3->α4->α5->α6->Prop} (x0:α0) (x1:α1) (x2:α2) (x3:α3) (x4:α4) (x5:α5) (x6:α6) (h:P x0 x1 x2 x3 x4 x5 x6):∃ y0:α0,∃ y1:α1,∃ y2:α2,∃ y3:α3,∃ y4:α4,∃ y5:α5,∃ y6:α6,P y0 y1 y2 y3 y4 y5 y6:=⟨x0,x1,x2,x3,x4,x5,x6,h⟩
theorem un4 {K:PySem.W.Frag}{H:Hp}{a:Addr} {v0 v1 v2 v3:V}{Q:V->V->V->V->Prop} (h:H a=some (.tup [v0,v1,v2,v3])) (q:Q v0 v1 v2 v3):∃ a' xs,V.ref a=.ref a'/\SqT K H a' xs/\xs.length=4/\∃ w0 r0,xs=w0::r0/\∃ w1 r1,r0=w1::r1/\∃ w2 r2,r1=w2::r2/\∃ w3 r3,r2=w3::r3/\r3=[]/\Q w0 w1 w2 w3:=⟨a,_,rfl,SqT.of h,rfl,_,_,rfl,_,_,rfl,_,_,rfl,_,_,rfl,rfl,q⟩
theorem zr {α:Sort _}{A Q:α->Prop}{x:α} (a:A x) (q:Q x):∃ y,A y/\Q y:=⟨x,a,q⟩
theorem zr1 {α β:Sort _}{A Q:α->β->Prop}{x:α}{y:β} (a:A x y) (q:Q x y):∃ x y,A x y/\Q x y:=⟨x,y,a,q⟩
theorem zr2 {α β:Sort _}{A B Q:α->β->Prop}{x:α}{y:β} (a:A x y) (b:B x y) (q:Q x y):∃ x y,A x y/\B x y/\Q x y:=⟨x,y,a,b,q⟩
end Sm
namespace L2
open PySem PySem.Spec PyProof.Rows
section
variable {X:Cx}
theorem kit_str {K:PySem.W.Frag}{t:String} (h:t = "NoneType" \/ t = "bool" \/ t = "int" \/ t = "str" \/ t = "list" \/ t = "tuple" \/ t = "dict"):PySem.W.kitOne K (.type t) (.type "str")=some (t == "str"):=by
 rcases h with rfl | rfl | rfl | rfl | rfl | rfl | rfl <;> first | rfl | decide +kernel
theorem call_isinstS:CallR X (.builtin "isinstance") (λxs H Q=>∃ x t,xs=[x,.ty "str"]/\tyS H x=some t/\Q (.bl (t == "str")) H):=by
 intro pins s σ H xs us Q I r h
 obtain ⟨x,t,rfl,ht,q⟩:=h
 obtain ⟨u,w',rfl,r1,r2⟩:=vals2 r
 cases r2
 exact isinst_ok I r1 (tyS_of ht) (kit_str (tyS_six ht)) λtk=>⟨.bl _,H,I.tok tk,rfl,q⟩
theorem op_le_str:OpR X (compareOp .LtE) (λx y H Q=>∃ i j,x=.str i/\y=.str j/\Q (.bl (!decide (j.cps.toList < i.cps.toList))) H):=by
 intro pins s σ H x y v u Q I rx ry h
 obtain ⟨i,j,rfl,rfl,q⟩:=h
 obtain ⟨t,rfl⟩:=rx
 obtain ⟨t',rfl⟩:=ry
 exact PySem.P.le_str (xc I q (by simp))
theorem part_of {v:Value}{o:Option Int} (h:IsPart v o):∃ p:Option (Int×Tok),v=partValue p/\o=p.map (·.1):=by
 cases h with
 | none=>exact ⟨none,rfl,rfl⟩
 | int i t=>exact ⟨some (i,t),rfl,rfl⟩
theorem sl_str:SlR X (λx lo hi H Q=>∃ z:Str,x=.str z/\z.length<=sizeLine/\Q (.str (Txt.slice z lo hi)) H):=by
 intro pins s σ H x v vl vu lo hi sl Q I rx hs pl pu h
 obtain ⟨z,rfl,hz,q⟩:=h
 obtain ⟨t,rfl⟩:=rx
 obtain ⟨l,rfl,rfl⟩:=part_of pl
 obtain ⟨u,rfl,rfl⟩:=part_of pu
 refine ⟨"str", _,F.slot_str_getitem.lookup,typeIs_str _ _ _,?_⟩
 refine wpAny_getItem_str_slice (l:=l) (u:=u) (st:=none) hs rfl ?_
 refine post_val_or_str ⟨zj (Txt.slice_le z _ _) hz,λt' k=>⟨.str (Txt.slice z (l.map (·.1)) (u.map (·.1))),H,I.tok k,⟨t',rfl⟩,q⟩⟩
def ItS (z:Str):It:=⟨λi _=>i < z.cps.size,λi H x H'=>H'=H/\∃ c,z.cps[i]?=some c/\x=.str ⟨#[c]⟩,λi _=>z.cps.size<=i⟩
theorem pi_str {tg l:Expr}{tl:TE} (hl:PE X l tl):PI X tg l (fun σ H R=>tl σ H λx H1=>∃ z,x=.str z/\R (ItS z) H1):=by
 intro pins s σ H R I h
 refine thn (hl pins s σ H _ I h) λv s1 ⟨x,H1,I1,r1,q1⟩=>?_
 obtain ⟨z,e,q⟩:=q1
 subst e
 obtain ⟨t,rfl⟩:=r1
 have fin:∀ (ty:String),["enumerate", "zip", "dict_itemiterator", "dict_reverseitemiterator", "odict_iterator", "itertools.zip_longest", "itertools.pairwise"].contains ty=false ->
   (∀ (A:Around),A.handled=none->Walks X.prog X.w A s1.heap.objs.size [s1.heap.objs.size] [s1.heap.objs.size] z.cps.size (SignAt z) (λi h=>h.IsStrIter s1.heap.objs.size ty z t i)) ->
   (∀ (A:Around) (i:Nat) (s:Shared) (Q:Value->Shared->Prop) (E:Value->Shared->Prop),s.heap.IsStrIter s1.heap.objs.size ty z t i->Q (.ref s1.heap.objs.size) s->wpAny (model X.prog X.w) A (pyIter (.ref s1.heap.objs.size)) Q E s) ->
   (∀ (A:Around),A.handled=none->∀ (i:Nat) (s:Shared) (Q:Option Value->Shared->Prop) (E:Value->Shared->Prop),s.heap.IsStrIter s1.heap.objs.size ty z t i->z.cps.size<=i->(∀ h',Heap.ExtBut s1.heap.objs.size s.heap h'->Q none { s with heap:=h' })->wpAny (model X.prog X.w) A (pyNext (.ref s1.heap.objs.size)) Q E s) ->
   PIE X pins σ tg R (.ref s1.heap.objs.size) { s1 with heap:=s1.heap.push { cls:=.type ty,data:=.fields #[.str z t,.int 0 0] } }:=λty hty W self done=>by
  refine ⟨s1.heap.objs.size,[s1.heap.objs.size],λi h=>h.IsStrIter s1.heap.objs.size ty z t i,_,H1,rfl,I1.kept (t':=s1.toks) λb o e=>Heap.get?_push_of_some _ e,?_,⟨_,Heap.get?_push_size _ rfl,rfl,rfl⟩,λb hb=>?_,q⟩
  ·generalize s1.heap.objs.size=it at W self done
   exact {
    mem:=by simp
    obj:=λi h st b hb=>by
     have e:b=it:=by simpa using hb
     subst e
     obtain ⟨o,e,c,d⟩:=st
     exact ⟨o,e,λv z=>by rw [d] at z;cases z⟩
    keep:=λi h h' st k=>by
     obtain ⟨o,e,r⟩:=st
     exact ⟨o,k it (by simp) o e,r⟩
    item:=by
     intro X' hP hw hK hc i pins s σ H E I hf st hg
     obtain ⟨f0,f1,f2,f3,f4,f5⟩:=hf it (by simp)
     refine (W X'.A (I.ok.hd hc)).item i s _ _ hg st λv h' tk hv st' kk=>?_
     obtain ⟨c,u,hcu,rfl⟩:=hv
     have I2:Inv X' pins σ H { s with heap:=h',toks:=tk }:=I.turned (λb o hb e=>kk b o (by simpa using hb) e) f0 f1 f3 f4 f5
     obtain ⟨o,e,c',d⟩:=id st'
     exact ⟨_,rfl,go_of (s:={ s with heap:=h',toks:=tk }) e c' d hty ⟨.str ⟨#[c]⟩,H,I2,⟨u,rfl⟩,⟨rfl,c,hcu,rfl⟩,st',λb hb=>(hf b hb).1⟩⟩
    done:=by
     intro X' hP hw hK hc i pins s σ H E I hf st hg
     obtain ⟨f0,f1,f2,f3,f4,f5⟩:=hf it (by simp)
     exact done X'.A (I.ok.hd hc) i s _ _ st hg λh' eb=>⟨rfl,I.turned (t':=s.toks) (λb o hb e=>eb b o hb e) f0 f1 f3 f4 f5⟩
    self:=λA i s Q E st h=>self A i s Q E st h }
  ·have e:b=s1.heap.objs.size:=by simpa using hb
   subst e
   exact I1.fpOk (zD _) (I1.hok.fresh (zD _))
 cases ha:z.cps.all (· < 128)
 ·exact wpAny_pyIter_wide ha (fin "str_iterator" (by decide) (λA hA=>Walks.strWide hA _ z t) (λA i s Q E st h=>wpAny_pyIter_striter_wide st h) λA hA i s Q E st hi h=>wpAny_pyNext_wide_end hA st (by simp [hi]) h)
 ·exact wpAny_pyIter_ascii ha (fin "str_ascii_iterator" (by decide) (λA hA=>Walks.strAscii hA _ z t) (λA i s Q E st h=>wpAny_pyIter_striter_ascii st h) λA hA i s Q E st hi h=>wpAny_pyNext_ascii_end hA st (by simp [hi]) h)
def iStr (tl:TE):TI:=fun σ H R=>tl σ H λx H1=>∃ z,x=.str z/\R (ItS z) H1
theorem pi_str' {K:PySem.W.Frag}{tg l:Expr}{tl:TE} (_:X.K=K) (hl:PE X l tl):PI X tg l (iStr tl):=pi_str hl
end
section
variable {n:Nat}{caps:List Nat}{g:TG}{tc:TT}{te:TE}{σ:St}{H:Hp}{Qf:Addr->Hp->List V->Prop}
theorem comp_str {z:Str} (Pv:Nat->St->List V->Hp->Prop) (h0:Pv 0 (tau0 n caps σ) [] H) (hn:z.cps.size<=1000) (hl:∀ i τ acc H,Pv i τ acc H->acc.length<=i)
  (hs:∀ i c τ acc H (C:St->List V->Hp->Prop),z.cps[i]?=some c->Pv i τ acc H->(∀ τ acc H,Pv (i + 1) τ acc H->C τ acc H)->g (.str ⟨#[c]⟩) τ H fun τ2 H2=>tc τ2 H2 λb H3=>if b=true then te τ2 H3 λy H4=>C τ2 (acc++[y]) H4 else C τ2 acc H3)
  (hd:∀ τ acc H,Pv z.cps.size τ acc H->∀ p,H p=none->Qf p H acc) :
  ∃ W:Nat->Nat->St->List V->Hp->Prop,(∃ m,W 0 m (tau0 n caps σ) [] H)/\∀ i m' τ acc H,W i m' τ acc H ->
   ((ItS z).stop i H/\acc.length<=sizeLine/\∀ p,H p=none->Qf p H acc) \/
   ((ItS z).go i H/\acc.length < sizeLine/\∀ x H',(ItS z).yld i H x H'->g x τ H' fun τ2 H2=>tc τ2 H2 λb H3=>if b=true then te τ2 H3 λy H4=>∃ m'',m'' < m'/\W (i + 1) m'' τ2 (acc++[y]) H4 else ∃ m'',m'' < m'/\W (i + 1) m'' τ2 acc H3):=
 comp_of (J:=ItS z) Pv z.cps.size h0 hn hl (λi τ acc H hi p=>hi) (fun τ acc H p=>zD _)
  (λi τ acc H C hi p c x H' y=>by obtain ⟨e1,k,hk,e2⟩:=y;subst e1;subst e2;exact hs i k τ acc _ C hk p c) hd
end
end L2
namespace L2
open PySem PySem.Spec PyProof.Rows
section
variable {X:Cx}
def FmtOk (x:V) (z:Str):Prop:=(x=.str z/\z.length<=sizeLine)\/∃ i:Int,x=.int i/\i.natAbs.log2 < 1920/\z=Str.ofString (toString i)
def tFmt (te:TE):TE:=fun σ H Q=>te σ H λx H1=>∃ z,FmtOk x z/\Q (.str z) H1
theorem pe_fmt {e:Expr}{te:TE}{pos:Pos} (he:PE X e te):PE X (.FormattedValue e (-1) none pos) (tFmt te):=by
 intro pins s σ H Q I h
 refine wpAny_FormattedValue_plain (thn (he pins s σ H _ I h) λv s1 ⟨x,H1,I1,r1,q1⟩=>?_)
 obtain ⟨z,hz,q⟩:=q1
 rcases hz with ⟨rfl,l⟩ | ⟨i,rfl,l,rfl⟩
 ·obtain ⟨t,rfl⟩:=r1
  exact formatField_str (λt' tk=>⟨.str z,H1,I1.tok tk,⟨_,rfl⟩,q⟩) l
 ·obtain ⟨t,rfl⟩:=r1
  exact wpAny_formatField_int l ⟨.str _,H1,I1.tok _,⟨_,rfl⟩,q⟩
abbrev TJ:=Str->St->Hp->(Str->Hp->Prop)->Prop
def PJ (X:Cx) (es:List Expr) (t:TJ):Prop:=∀ (pins:List (Addr×Obj)) (s:Shared) (σ:St) (H:Hp) (acc:Str) (Q:Str->Hp->Prop),Inv X pins σ H s->t acc σ H Q->Joins (model X.prog X.w) X.A X.xe (evalEach es X.env) acc (λout s1=>∃ H1,Inv X pins σ H1 s1/\Q out H1) s
def jNil:TJ:=λacc σ H Q=>Q acc H
def jCons (te:TE) (ts:TJ):TJ:=λacc σ H Q=>te σ H λx H1=>∃ y,x=.str y/\(acc++y).length<=sizeLine/\ts (acc++y) σ H1 Q
theorem pj_nil:PJ X [] jNil:=λpins s σ H acc Q I h=>Joins_nil ⟨H,I,h⟩
theorem pj_c {e:Expr}{es:List Expr}{te:TE}{ts:TJ} (he:PE X e te) (hs:PJ X es ts):PJ X (e::es) (jCons te ts):=by
 intro pins s σ H acc Q I h
 refine Joins_cons (thn (he pins s σ H _ I h) λv s1 ⟨x,H1,I1,r1,q1⟩=>?_)
 obtain ⟨y,rfl,l,q⟩:=q1
 obtain ⟨t,rfl⟩:=r1
 exact ⟨y,t,rfl,l,hs pins s1 σ H1 _ Q I1 q⟩
def tJ (ts:TJ):TE:=fun σ H Q=>ts Str.empty σ H λout H1=>out.length<=sizeLine/\Q (.str out) H1
theorem Joins.mono {M:Model}{A:Around}{E:Value->Shared->Prop}{env:Env}{Q Q':Str->Shared->Prop} (h:∀ a s,Q a s->Q' a s):∀ {ps:List (Sem Value)}{acc:Str}{s:Shared},Joins M A E ps acc Q s->Joins M A E ps acc Q' s
 | [],acc,s,j=>h _ _ j
 | p::ps,acc,s,j=>thn (show wpAny M A p _ E s from j) λv s1 ⟨y,t,e,l,k⟩=>⟨y,t,e,l,Joins.mono (env:=env) h k⟩
theorem pe_fstr {e1 e2:Expr}{es:List Expr}{ts:TJ}{pos:Pos} (h:PJ X (e1::e2::es) ts):PE X (.JoinedStr (e1::e2::es) pos) (tJ ts):=by
 intro pins s σ H Q I hw
 refine wpAny_JoinedStr (Joins.mono (env:=X.env) (λout s1 ⟨H1,I1,l,q⟩=>?_) (h pins s σ H _ _ I hw))
 exact ⟨l,.str out,H1,I1.tok _,⟨_,rfl⟩,q⟩
theorem str_items:∀ {ns:List Str}{its:List Value},Vals (ns.map V.str) its->StrsAre its ns
 | [],_,r=>by cases r;exact .nil
 | n::ns,_,r=>by
  cases r with
  | cons r1 rr=>
   obtain ⟨t,rfl⟩:=r1
   exact .cons n t (str_items rr)
theorem mt_join:MtR X "str.join" (λx xs H Q=>∃ z:Str,∃ p ys,x=.str z/\xs=[.ref p]/\SqL X.K H p (ys.map V.str)/\(ys.map λy=>y.length).sum + ys.length * z.length<=16777216/\Q (.str (Txt.join z ys)) H):=by
 intro pins s σ H x xs v us Q I rx rv h
 obtain ⟨z,p,ys,rfl,rfl,hp,hz,q⟩:=h
 obtain ⟨t,rfl⟩:=rx
 obtain ⟨u,rfl,ru⟩:=vals1 rv
 cases ru
 obtain ⟨its,r,pl,_⟩:=I.list hp
 exact join_list pl.isList (str_items r) hz λt' k=>⟨.str _,H,I.tok k,⟨_,rfl⟩,q⟩
theorem fills_list_iadd:fillsInplaceSlot (.type "list") "add" true=pure false:=by
 show (do let fi <- typeLookup (.type "list") (dunderI "add");pure (fi.isSome && !isSeqSlot fi))=_
 rw [F.slot_list_iadd.lookup];rfl
theorem seq_list_iadd:seqSlot? (.type "list") (dunderI "add")=pure (some (.builtin "list.__iadd__")):=by
 unfold seqSlot?
 rw [F.slot_list_iadd.lookup];rfl
theorem wp_iadd_list {prog:Program}{w:World}{A:Around}{E:Value->Shared->Prop}{s:Shared}{a b:Value}{Q:Value->Shared->Prop} (ta:s.TypeIs a "list") (tb:s.TypeIs b "list") (h:wpAny (model prog w) A (call (.builtin "list.__iadd__") [a,b]) Q E s):wpAny (model prog w) A (inplaceOp .Add a b) Q E s:=by
 unfold inplaceOp
 refine wpAny_holding (wpAny_bind (wpAny_typeOf ta (wpAny_bind (wpAny_of_eq fills_list_iadd ?_))))
 dsimp only
 rw [if_neg zL]
 refine wpAny_bind (wpAny_binaryOp1_none ta tb noFill_list_add ?_)
 dsimp only
 refine wpAny_bind (wpAny_of_eq seq_list_iadd ?_)
 dsimp only
 exact wpAny_bind (wpAny_rule h)
theorem ip_cat:PIp X .Add (λx y H Q=>∃ l b xs zs,x=.ref l/\y=.ref b/\H l=some (.lst xs)/\H b=some (.lst zs)/\xs.length + zs.length<=sizeLine/\Q (.ref l) (upd H l (.lst (xs++zs)))):=by
 intro pins s σ H x y v u Q I rx ry h
 obtain ⟨l,b,xs,zs,rfl,rfl,hH,hB,hz,q⟩:=h
 cases rx
 cases ry
 obtain ⟨z,its,n,r,hl,e⟩:=I.lstM hH
 obtain ⟨z2,its2,n2,r2,hl2,e2⟩:=I.lstM hB
 have hsz:its.toArray.size + its2.toArray.size<=sizeLine:=by rw [zF,zF];omega
 have hlong:¬ (!its.toArray.isEmpty && Builtin.List.listTooLong (its.toArray.size + its2.toArray.size))=true:=by
  rw [notLongL hsz,yt]
  exact zL
 refine wp_iadd_list ⟨_,e,rfl⟩ ⟨_,e2,rfl⟩ (call_meets F.slot_list_iadd ⟨_,e,rfl⟩ F.entry_list_iadd (F.args_list_iadd_2 _ _)
  (AutoSeq1.list___iadd___list_list_0 l its.toArray n b its2.toArray n2 hlong (by rw [zF];omega) (by omega)) ⟨e,e2,?_⟩)
 refine ⟨.ref l,_,I.lset (its':=its++its2) hH e (by simp) (r.append r2) ?_,rfl,q⟩
 rw [zI]
 omega
end
end L2
namespace L2
open PySem PySem.Spec PyProof.Rows
section
variable {prog:Program}{w:World}{A:Around}{E:Value->Shared->Prop}{s:Shared}
structure ZD (prog:Program) (w:World) (A:Around) (z TI TO i1 i2:Addr) (fp1 fp2:List Addr) (n:Nat) (P1 P2:Nat->Value->Prop) (S1 S2:Nat->Heap->Prop):Prop where
 d1:Draws prog w A i1 fp1 n P1 S1
 d2:Draws prog w A i2 fp2 n P2 S2
 ne:TI≠z/\TO≠z/\i1≠z/\i2≠z/\TI≠TO/\TI≠i1/\TI≠i2/\TO≠i1/\TO≠i2/\i1≠i2
 f1:z ∉ fp1/\TO ∉ fp1/\i2 ∉ fp1
 f2:z ∉ fp2/\TO ∉ fp2/\i1 ∉ fp2
variable {z TI TO i1 i2:Addr} {fp1 fp2:List Addr}{n:Nat} {P1 P2:Nat->Value->Prop} {S1 S2:Nat->Heap->Prop}
theorem keep_of {fp:List Addr}{a:Addr}{h h':Heap} (n:a ∉ fp) (x:Heap.SameBut a h h'):∀ b∈fp,∀ o,h.get? b=some o->h'.get? b=some o:=λb hb o e=>x.extBut b o (λq=>n (q ▸ hb)) e
theorem zd_item {k:Nat}{a b:Value}{Q:Value->Shared->Prop} (D:ZD prog w A z TI TO i1 i2 fp1 fp2 n P1 P2 S1 S2) (hk:k < n)
  (hz:IsZip s.heap z TI TO .none) (hTI:IsPair s.heap TI (.ref i1) (.ref i2)) (hTO:IsPair s.heap TO a b) (t1:S1 k s.heap) (t2:S2 k s.heap)
  (hQ:∀ x y h' tk,P1 k x->P2 k y->IsZip h' z TI TO (rawInt s.heap.objs.size)->IsPair h' TO x y->S1 (k + 1) h'->S2 (k + 1) h'->IsPair h' s.heap.objs.size x y->h'.objs.size=s.heap.objs.size + 1 ->
   (∀ c o,c≠z->c≠TO->c≠i1->c≠i2->s.heap.get? c=some o->h'.get? c=some o)->Q (.ref s.heap.objs.size) { s with heap:=h',toks:=tk })
  (w1:∀ b∈fp1,b < s.heap.objs.size) (w2:∀ b∈fp2,b < s.heap.objs.size) :
  wpAny (model prog w) A (Builtin.«zip.__next__» ⟨[.ref z],[]⟩) (λfin s'=>∃ v,fin=.done (.ret v)/\Q v s') E s:=by
 obtain ⟨n1,n2,n3,n4,n5,n6,n7,n8,n9,n10⟩:=D.ne
 show wpAny _ _ (field (.ref z) 2 >>= _) _ _ _
 refine wpAny_bind (wpAny_field hz rfl (x:=.bool false) rfl ?_)
 show wpAny _ _ (field (.ref z) 3 >>= _) _ _ _
 refine wpAny_bind (wpAny_field hz rfl (x:=.ref TI) rfl (wpAny_bind (wpAny_seqItems hTI rfl ?_)))
 show wpAny _ _ (Builtin.SmallTypes.ownedTupleIsFree (.ref z) >>= _) _ _ _
 refine wpAny_bind ?_
 unfold Builtin.SmallTypes.ownedTupleIsFree
 refine wpAny_bind (wpAny_field hz rfl (x:=.none) rfl (wpAny_pure ?_))
 simp only [if_true]
 refine wpAny_bind (wpAny_rule (wpAny_bind (wpAny_field hz rfl (x:=.ref TO) rfl (wpAny_bind (wpAny_setField_rec hz (by simp) λh1 hz1 e1=>wpAny_bind ?_)))))
 replace hz1:IsZip h1 z TI TO .ellipsis:=hz1
 simp only [List.zipIdx_cons,List.zipIdx_nil,List.forIn_cons,List.forIn_nil]
 refine wpAny_bind (wpAny_bind (wpAny_onRaise (show wpAny _ _ (Builtin.SmallTypes.nextOf (.ref i1) >>= _) _ _ _ from wpAny_bind (D.d1.item k _ _ _ hk (D.d1.frame _ _ _ t1 (keep_of D.f1.1 e1)) λx h2 tk2 px u1 e2=>wpAny_pure ?_))))
 have o2:IsPair h2 TO a b:=e2.extBut _ _ n8 (e1.extBut _ _ n2 hTO)
 refine wpAny_bind (wpAny_seqItems o2 rfl (wpAny_bind (wpAny_updateSeq_pair o2 λh3 o3 e3=>wpAny_bind (wpAny_letGo (wpAny_pure ?_)))))
 replace o3:IsPair h3 TO x b:=o3
 refine wpAny_bind (wpAny_bind (wpAny_onRaise (show wpAny _ _ (Builtin.SmallTypes.nextOf (.ref i2) >>= _) _ _ _ from wpAny_bind (D.d2.item k _ _ _ hk (D.d2.frame _ _ _ (D.d2.frame _ _ _ (D.d2.frame _ _ _ t2 (keep_of D.f2.1 e1)) (keep_of D.f2.2.2 e2)) (keep_of D.f2.2.1 e3)) λy h4 tk4 py u2 e4=>wpAny_pure ?_))))
 have o4:IsPair h4 TO x b:=e4.extBut _ _ n9 o3
 refine wpAny_bind (wpAny_seqItems o4 rfl (wpAny_bind (wpAny_updateSeq_pair o4 λh5 o5 e5=>wpAny_bind (wpAny_letGo (wpAny_pure (wpAny_pure ?_))))))
 replace o5:IsPair h5 TO x y:=o5
 refine wpAny_bind (wpAny_seqItems o5 rfl (wpAny_bind (wpAny_newTuple ?_)))
 have sz:h5.objs.size=s.heap.objs.size:=by rw [e5.1,e4.1,e3.1,e2.1,e1.1]
 have z5:IsZip h5 z TI TO .ellipsis:=e5.extBut _ _ n2.symm (e4.extBut _ _ n4.symm (e3.extBut _ _ n2.symm (e2.extBut _ _ n3.symm hz1)))
 have old:∀ c o,c≠z->c≠TO->c≠i1->c≠i2->s.heap.get? c=some o->h5.get? c=some o:=λc o c1 c2 c3 c4 e=>
  e5.extBut _ _ c2 (e4.extBut _ _ c4 (e3.extBut _ _ c2 (e2.extBut _ _ c3 (e1.extBut _ _ c1 e))))
 have v1:S1 (k + 1) h5:=D.d1.frame _ _ _ (D.d1.frame _ _ _ (D.d1.frame _ _ _ u1 (keep_of D.f1.2.1 e3)) (keep_of D.f1.2.2 e4)) (keep_of D.f1.2.1 e5)
 have v2:S2 (k + 1) h5:=D.d2.frame _ _ _ u2 (keep_of D.f2.2.1 e5)
 have zl:z < h5.objs.size:=Heap.lt_size z5
 show wpAny _ _ (Builtin.SmallTypes.ownedTupleHandOut (.ref z) (.ref h5.objs.size) >>= _) _ _ _
 refine wpAny_bind ?_
 unfold Builtin.SmallTypes.ownedTupleHandOut
 have z6:IsZip (h5.push { cls:=.type "tuple", data:=.seq #[x,y] }) z TI TO .ellipsis:=Heap.get?_push_of_some _ z5
 refine wpAny_bind (wpAny_setField_rec z6 (by simp) λh7 z7 e7=>?_)
 replace z7:IsZip h7 z TI TO (rawInt h5.objs.size):=z7
 refine wpAny_setField_rec z7 (by simp) λh8 z8 e8=>wpAny_pure ⟨_,rfl,?_⟩
 replace z8:IsZip h8 z TI TO (rawInt h5.objs.size):=z8
 have up:∀ c o,c≠z->h5.get? c=some o->h8.get? c=some o:=λc o c1 e=>e8.extBut _ _ c1 (e7.extBut _ _ c1 (Heap.get?_push_of_some _ e))
 have t8:IsPair h8 h5.objs.size x y:=e8.extBut _ _ (yA zl) (e7.extBut _ _ (yA zl) (Heap.get?_push_size _ rfl))
 have s8:h8.objs.size=h5.objs.size + 1:=by rw [e8.1,e7.1,Heap.size_push]
 rw [sz] at z8 t8 s8
 show Q (.ref h5.objs.size) _
 rw [sz]
 exact hQ x y h8 _ px py z8 (up _ _ n2 o5) (D.d1.frame _ _ _ v1 λb hb o e=>up b o (λq=>D.f1.1 (q ▸ hb)) e) (D.d2.frame _ _ _ v2 λb hb o e=>up b o (λq=>D.f2.1 (q ▸ hb)) e) t8 s8 λc o c1 c2 c3 c4 e=>up c o c1 (old c o c1 c2 c3 c4 e)
theorem zd_end {a b:Value}{Q:PySem.Fin->Shared->Prop} (D:ZD prog w A z TI TO i1 i2 fp1 fp2 n P1 P2 S1 S2)
  (hz:IsZip s.heap z TI TO .none) (hTI:IsPair s.heap TI (.ref i1) (.ref i2)) (hTO:IsPair s.heap TO a b) (t1:S1 n s.heap)
  (hE:∀ h' e,(∀ c o,c≠z->c≠TO->c≠i1->c≠i2->s.heap.get? c=some o->h'.get? c=some o)->(∃ o,h'.get? e=some o/\o.cls=.type "StopIteration")->E (.ref e) { s with heap:=h' }) :
  wpAny (model prog w) A (Builtin.«zip.__next__» ⟨[.ref z],[]⟩) Q E s:=by
 obtain ⟨n1,n2,n3,n4,n5,n6,n7,n8,n9,n10⟩:=D.ne
 show wpAny _ _ (field (.ref z) 2 >>= _) _ _ _
 refine wpAny_bind (wpAny_field hz rfl (x:=.bool false) rfl ?_)
 show wpAny _ _ (field (.ref z) 3 >>= _) _ _ _
 refine wpAny_bind (wpAny_field hz rfl (x:=.ref TI) rfl (wpAny_bind (wpAny_seqItems hTI rfl ?_)))
 show wpAny _ _ (Builtin.SmallTypes.ownedTupleIsFree (.ref z) >>= _) _ _ _
 refine wpAny_bind ?_
 unfold Builtin.SmallTypes.ownedTupleIsFree
 refine wpAny_bind (wpAny_field hz rfl (x:=.none) rfl (wpAny_pure ?_))
 simp only [if_true]
 refine wpAny_bind (wpAny_rule (wpAny_bind (wpAny_field hz rfl (x:=.ref TO) rfl (wpAny_bind (wpAny_setField_rec hz (by simp) λh1 hz1 e1=>wpAny_bind ?_)))))
 replace hz1:IsZip h1 z TI TO .ellipsis:=hz1
 simp only [List.zipIdx_cons,List.zipIdx_nil,List.forIn_cons,List.forIn_nil]
 refine wpAny_bind (wpAny_bind (wpAny_onRaise (show wpAny _ _ (Builtin.SmallTypes.nextOf (.ref i1) >>= _) _ _ _ from wpAny_bind (D.d1.done _ _ _ (D.d1.frame _ _ _ t1 (keep_of D.f1.1 e1)) λh2 e e2 he=>?_))))
 obtain ⟨oe,hoe,hce⟩:=he
 have z2:IsZip h2 z TI TO .ellipsis:=e2 _ _ n3.symm hz1
 have hez:e≠z:=λx=>by subst x;rw [z2] at hoe;cases hoe;simp at hce
 exact wpAny_setField_rec z2 (by simp) λh3 _ e3=>hE h3 e (λc o c1 _ c3 _ x=>e3.extBut _ _ c1 (e2 _ _ c3 (e1.extBut _ _ c1 x))) ⟨oe,e3.extBut _ _ hez hoe,hce⟩
end
end L2
namespace L2
open PySem PySem.Spec PyProof.Rows
section
variable {prog:Program}{w:World}{A:Around}{E:Value->Shared->Prop}{s:Shared}
variable {z TI TO i1 i2:Addr} {fp1 fp2:List Addr}{n:Nat} {P1 P2:Nat->Value->Prop} {S1 S2:Nat->Heap->Prop}
theorem zdn_item {k:Nat}{a b:Value}{Q:Option Value->Shared->Prop} (D:ZD prog w A.in1 z TI TO i1 i2 fp1 fp2 n P1 P2 S1 S2) (hk:k < n)
  (hz:IsZip s.heap z TI TO .none) (hTI:IsPair s.heap TI (.ref i1) (.ref i2)) (hTO:IsPair s.heap TO a b) (t1:S1 k s.heap) (t2:S2 k s.heap)
  (hQ:∀ x y h' tk,P1 k x->P2 k y->IsZip h' z TI TO (rawInt s.heap.objs.size)->IsPair h' TO x y->S1 (k + 1) h'->S2 (k + 1) h'->IsPair h' s.heap.objs.size x y->h'.objs.size=s.heap.objs.size + 1 ->
   (∀ c o,c≠z->c≠TO->c≠i1->c≠i2->s.heap.get? c=some o->h'.get? c=some o)->Q (some (.ref s.heap.objs.size)) { s with heap:=h',toks:=tk })
  (w1:∀ b∈fp1,b < s.heap.objs.size) (w2:∀ b∈fp2,b < s.heap.objs.size) :
  wpAny (model prog w) A (pyNext (.ref z)) Q E s:=by
 have hT:s.TypeIs (.ref z) "zip" := ⟨_,hz,rfl⟩
 unfold pyNext
 exact wpAny_bind (wpAny_attempt (wpAny_callSpecial?_slot (name:=Str.ofString "__next__") hT F.slot_zip_next
  (wpAny_call_entry F.slot_zip_next hT F.entry_zip_next
   (zd_item D hk hz hTI hTO t1 t2 (λx y h' tk a0 a00 a1 a2 a3 a4 a5 a6 a7=>wpAny_pure (hQ x y h' tk a0 a00 a1 a2 a3 a4 a5 a6 a7)) w1 w2) (F.args_zip_next_1 _))))
theorem zdn_end {a b:Value}{Q:Option Value->Shared->Prop} (D:ZD prog w A.in1 z TI TO i1 i2 fp1 fp2 n P1 P2 S1 S2)
  (hz:IsZip s.heap z TI TO .none) (hTI:IsPair s.heap TI (.ref i1) (.ref i2)) (hTO:IsPair s.heap TO a b) (t1:S1 n s.heap)
  (hQ:∀ h',(∀ c o,c≠z->c≠TO->c≠i1->c≠i2->s.heap.get? c=some o->h'.get? c=some o)->Q none { s with heap:=h' }):wpAny (model prog w) A (pyNext (.ref z)) Q E s:=by
 have hT:s.TypeIs (.ref z) "zip" := ⟨_,hz,rfl⟩
 unfold pyNext
 refine wpAny_bind (wpAny_attempt (wpAny_callSpecial?_slot (name:=Str.ofString "__next__") hT F.slot_zip_next
  (wpAny_call_entry F.slot_zip_next hT F.entry_zip_next (zd_end D hz hTI hTO t1 λh' e hk he=>?_) (F.args_zip_next_1 _))))
 obtain ⟨o,ho,hc⟩:=he
 exact wpAny_bind (wpAny_isInstance (T := "StopIteration") (b:=true) ⟨o,ho,hc⟩ isSubtype_stop (wpAny_pure (hQ _ hk)))
end
abbrev ZN (z TI TO i1 i2:Addr):Prop:=TI≠z/\TO≠z/\i1≠z/\i2≠z/\TI≠TO/\TI≠i1/\TI≠i2/\TO≠i1/\TO≠i2/\i1≠i2
section
variable {K:PySem.W.Frag}{a b:Addr}{xs ys:List V}{n:Nat}{caps:List Nat}{g:TG}{tc:TT}{te:TE}{σ:St}{H:Hp}{Qf:Addr->Hp->List V->Prop}
end
end L2
namespace L2
open PySem PySem.Spec PyProof.Rows
theorem zipM_new (l1 l2:Addr) (xs ys:Array Value) :
  Meets (Builtin.«zip.__new__» ⟨[.type "zip", .ref l1,.ref l2],[]⟩) (λ_ R s=>s.heap.IsList l1 xs/\s.heap.IsTuple l2 ys /\
   ∀ h':Heap,IsZip h' (s.heap.objs.size + 4) (s.heap.objs.size + 2) (s.heap.objs.size + 3) .none->IsPair h' (s.heap.objs.size + 2) (.ref s.heap.objs.size) (.ref (s.heap.objs.size + 1)) ->
   IsPair h' (s.heap.objs.size + 3) .none .none->h'.IsListIter s.heap.objs.size l1 0->h'.IsTupleIter (s.heap.objs.size + 1) l2 0 -> 
   (∀ c o,s.heap.get? c=some o->h'.get? c=some o)->R (.ok (.ret (.ref (s.heap.objs.size + 4)))) { s with heap:=h' }):=
 .of_wp λprog w A R s h=>by
  obtain ⟨hp,g,d,tk,os⟩:=s;obtain ⟨hl1,hl2,h⟩:=h
  have hsub:=sub_zip
  have hL1:Heap.IsList (Shared.heap ⟨hp,g,d,tk,os⟩) l1 xs:=hl1
  have hL2:Heap.IsTuple (Shared.heap ⟨hp.push { cls:=.type "list_iterator", data:=.fields #[.ref l1,.int 0 0] },g,d,tk,os⟩) l2 ys:=let ⟨o,e,r⟩:=hl2;⟨o,Heap.get?_push_of_some _ e,r⟩
  wp_walk using wpAny_pyIter_list hL1,wpAny_pyIter_tuple hL2
  refine ⟨_,rfl,?_⟩
  have sp:∀ (h:Heap) (o:Obj),(h.push o).objs.size=h.objs.size + 1:=λh o=>Heap.size_push ..
  have h':=h (((((hp.push { cls:=.type "list_iterator", data:=.fields #[.ref l1,.int 0 0] }).push { cls:=.type "tuple_iterator", data:=.fields #[.ref l2,.int 0 0] }).push { cls:=.type "tuple", data:=.seq #[.ref hp.objs.size,.ref (hp.objs.size + 1)] }).push { cls:=.type "tuple", data:=.seq #[.none,.none] }).push { cls:=.type "zip", data:=.fields #[.none,.bool false,.bool false,.ref (hp.objs.size + 2),.ref (hp.objs.size + 3)] })
   (by show Heap.get? _ (hp.objs.size + 4)=_;rw [show hp.objs.size + 4=((((hp.push { cls:=.type "list_iterator", data:=.fields #[.ref l1,.int 0 0] }).push { cls:=.type "tuple_iterator", data:=.fields #[.ref l2,.int 0 0] }).push { cls:=.type "tuple", data:=.seq #[.ref hp.objs.size,.ref (hp.objs.size + 1)] }).push { cls:=.type "tuple", data:=.seq #[.none,.none] }).objs.size from by simp only [sp]];exact Heap.get?_push_size _ rfl)
   (by
    refine Heap.get?_push_of_some _ (Heap.get?_push_of_some _ ?_)
    show Heap.get? _ (hp.objs.size + 2)=_
    rw [show hp.objs.size + 2=((hp.push { cls:=.type "list_iterator", data:=.fields #[.ref l1,.int 0 0] }).push { cls:=.type "tuple_iterator", data:=.fields #[.ref l2,.int 0 0] }).objs.size from by simp only [sp]];exact Heap.get?_push_size _ rfl)
   (by
    refine Heap.get?_push_of_some _ ?_
    show Heap.get? _ (hp.objs.size + 3)=_
    rw [show hp.objs.size + 3=(((hp.push { cls:=.type "list_iterator", data:=.fields #[.ref l1,.int 0 0] }).push { cls:=.type "tuple_iterator", data:=.fields #[.ref l2,.int 0 0] }).push { cls:=.type "tuple", data:=.seq #[.ref hp.objs.size,.ref (hp.objs.size + 1)] }).objs.size from by simp only [sp]];exact Heap.get?_push_size _ rfl)
   ⟨_,Heap.get?_push_of_some _ (Heap.get?_push_of_some _ (Heap.get?_push_of_some _ (Heap.get?_push_of_some _ (Heap.get?_push_size _ rfl)))),rfl,rfl⟩
   ⟨{ cls:=.type "tuple_iterator", data:=.fields #[.ref l2,.int 0 0] },(by
    refine Heap.get?_push_of_some _ (Heap.get?_push_of_some _ (Heap.get?_push_of_some _ ?_))
    show Heap.get? _ (hp.objs.size + 1)=_
    rw [show hp.objs.size + 1=(hp.push { cls:=.type "list_iterator", data:=.fields #[.ref l1,.int 0 0] }).objs.size from by simp only [sp]];exact Heap.get?_push_size _ rfl),rfl,rfl⟩
   (λc o x=>Heap.get?_push_of_some _ (Heap.get?_push_of_some _ (Heap.get?_push_of_some _ (Heap.get?_push_of_some _ (Heap.get?_push_of_some _ x)))))
  simp only [sp] at h' ⊢
  exact h'
end L2
namespace L2
open PySem PySem.Spec PyProof.Rows
section
variable {prog:Program}{w:World}{A:Around}{E:Value->Shared->Prop}{s:Shared}
variable {z TI TO i1 i2:Addr} {fp1 fp2:List Addr}{n:Nat} {P1 P2:Nat->Value->Prop} {S1 S2:Nat->Heap->Prop}
theorem ZD.mix {l1 l2:Addr} (hh:A.handled=none) (ne:TI≠z/\TO≠z/\i1≠z/\i2≠z/\TI≠TO/\TI≠i1/\TI≠i2/\TO≠i1/\TO≠i2/\i1≠i2) (a1:∀ x∈[z,TO,i1,i2],l1≠x) (a2:∀ x∈[z,TO,i1,i2],l2≠x) {xs ys:Array Value} (hs:ys.size=xs.size) :
  ZD prog w A z TI TO i1 i2 [i1,l1] [i2,l2] xs.size (λi v=>xs[i]?=some v) (λi v=>ys[i]?=some v) (λi h=>h.IsListIter i1 l1 i/\h.IsList l1 xs) (λi h=>h.IsTupleIter i2 l2 i/\h.IsTuple l2 ys) where
 d1:=Draws.list hh i1 l1 (a1 _ (by simp)) xs
 d2:=hs ▸ drawsT hh i2 l2 (a2 _ (by simp)) ys
 ne:=ne
 f1:=by
  obtain ⟨n1,n2,n3,n4,n5,n6,n7,n8,n9,n10⟩:=ne
  have b1:=a1 z (by simp);have b2:=a1 TO (by simp);have b3:=a1 i2 (by simp)
  simp only [zH,zK,or_false,not_or]
  exact ⟨⟨n3.symm,b1.symm⟩,⟨n8,b2.symm⟩,n10.symm,b3.symm⟩
 f2:=by
  obtain ⟨n1,n2,n3,n4,n5,n6,n7,n8,n9,n10⟩:=ne
  have b1:=a2 z (by simp);have b2:=a2 TO (by simp);have b3:=a2 i1 (by simp)
  simp only [zH,zK,or_false,not_or]
  exact ⟨⟨n4.symm,b1.symm⟩,⟨n9,b2.symm⟩,n10,b3.symm⟩
end
def IzM (K:PySem.W.Frag) (a b:Addr):It:=
 ⟨λi H=>∃ xs ys x y,SqL K H a xs/\SqT K H b ys/\xs.length=ys.length/\xs[i]?=some x/\ys[i]?=some y,λi H v H'=>∃ p x y,H p=none/\v=.ref p/\H'=upd H p (.tup [x,y])/\∀ xs ys,SqL K H a xs->SqT K H b ys->xs[i]?=some x/\ys[i]?=some y,
  λi H=>∃ xs ys,SqL K H a xs/\SqT K H b ys/\xs.length=ys.length/\xs.length=i⟩
theorem turn_zipM {P:Program}{w:World}{K:PySem.W.Frag}{es:List Expr}{k:Nat}{pos:Pos} (l1 l2 z TI TO i1 i2:Addr) (ap:ZN z TI TO i1 i2) (a1:∀ x∈[z,TO,i1,i2],l1≠x) (a2:∀ x∈[z,TO,i1,i2],l2≠x) :
  Turn P w K (.Tuple es k pos) (IzM K l1 l2) [z,TI,TO,i1,i2] z (λi h=>IsZip h z TI TO .none/\IsPair h TI (.ref i1) (.ref i2)/\(∃ a b,IsPair h TO a b)/\h.IsListIter i1 l1 i/\h.IsTupleIter i2 l2 i) where
 mem:=by simp
 obj:=λi h st b hb=>by
  obtain ⟨hz,hTI,⟨a,c,hTO⟩,⟨o1,g1,c1,d1⟩,⟨o2,g2,c2,d2⟩⟩:=st
  simp only [zH,zK,or_false] at hb
  rcases hb with e | e | e | e | e <;> subst e
  ·exact ⟨_,hz,λv q=>nomatch q⟩
  ·exact ⟨_,hTI,λv q=>nomatch q⟩
  ·exact ⟨_,hTO,λv q=>nomatch q⟩
  ·exact ⟨o1,g1,λv q=>by rw [d1] at q;cases q⟩
  ·exact ⟨o2,g2,λv q=>by rw [d2] at q;cases q⟩
 keep:=λi h h' st q=>by
  obtain ⟨hz,hTI,⟨a,c,hTO⟩,⟨o1,g1,r1⟩,⟨o2,g2,r2⟩⟩:=st
  exact ⟨q z (by simp) _ hz,q TI (by simp) _ hTI,⟨a,c,q TO (by simp) _ hTO⟩,⟨o1,q i1 (by simp) o1 g1,r1⟩,⟨o2,q i2 (by simp) o2 g2,r2⟩⟩
 item:=by
  intro X hP hw hK hc i pins s σ H E I hf st hg
  subst hP hw hK
  obtain ⟨xs,ys,x,y,hq1,hq2,el,hx,hy⟩:=hg
  obtain ⟨its1,rv1,p1,hz1⟩:=I.list hq1
  obtain ⟨its2,rv2,p2,hz2⟩:=I.tuple hq2
  obtain ⟨u,hu,ru⟩:=rv1.get hx
  obtain ⟨v,hv,rv⟩:=rv2.get hy
  obtain ⟨hZ,hTI,⟨a0,c0,hTO⟩,hi1,hi2⟩:=st
  have t1:s.heap.IsList l1 its1.toArray:=p1.isList
  have t2:s.heap.IsTuple l2 its2.toArray:=p2
  have fp:=λb hb=>hf b hb
  have lt:∀ b,b∈[z,TI,TO,i1,i2]->b < s.heap.objs.size:=λb hb=>by
   simp only [zH,zK,or_false] at hb
   rcases hb with e | e | e | e | e <;> subst e
   ·exact Heap.lt_size hZ
   ·exact Heap.lt_size hTI
   ·exact Heap.lt_size hTO
   ·exact let ⟨_,z,_⟩:=hi1;Heap.lt_size z
   ·exact let ⟨_,z,_⟩:=hi2;Heap.lt_size z
  have ll1:l1 < s.heap.objs.size:=let ⟨_,z,_⟩:=t1;Heap.lt_size z
  have ll2:l2 < s.heap.objs.size:=let ⟨_,z,_⟩:=t2;Heap.lt_size z
  have e1:=rv1.length
  have e2:=rv2.length
  have ix:=(zT.mp hu).1
  refine zdn_item (ZD.mix (A:=X.A.in1) (I.ok.hd hc) ap a1 a2 (xs:=its1.toArray) (ys:=its2.toArray) (by simp;omega)) (by simpa using ix) hZ hTI hTO ⟨hi1,t1⟩ ⟨hi2,t2⟩ (λu' v' h1 tk hu' hv' hZ1 hTO1 hs1 hs2 hT hsz hk=>?_) (λb hb=>?_) (λb hb=>?_)
  rotate_left
  ·simp only [zH,zK,or_false] at hb
   rcases hb with e | e
   ·rw [e];exact lt i1 (by simp)
   ·rw [e];exact ll1
  ·simp only [zH,zK,or_false] at hb
   rcases hb with e | e
   ·rw [e];exact lt i2 (by simp)
   ·rw [e];exact ll2
  obtain rfl:u=u':=by
   have q:its1.toArray[i]?=some u:=by simpa using hu
   exact Option.some.inj (q.symm.trans hu')
  obtain rfl:v=v':=by
   have q:its2.toArray[i]?=some v:=by simpa using hv
   exact Option.some.inj (q.symm.trans hv')
  refine ⟨_,rfl,?_⟩
  refine wpAny_letOwnedTupleGo_zip hZ1 λh2 hZ2 hs2'=>?_
  replace hs2':Heap.SameBut z h1 h2:=hs2'
  obtain ⟨n1,n2,n3,n4,n5,n6,n7,n8,n9,n10⟩:=ap
  have old2:∀ b o,b ∉ [z,TO,i1,i2]->s.heap.get? b=some o->h2.get? b=some o:=λb o hb q=>by
   simp only [zH,zK,or_false,not_or] at hb
   exact hs2'.extBut b o hb.1 (hk b o hb.1 hb.2.1 hb.2.2.1 hb.2.2.2 q)
  have hT2:h2.get? s.heap.objs.size=some { cls:=.type "tuple", data:=.seq #[u,v] }:=hs2'.extBut _ _ (yA (lt z (by simp))) hT
  have nT:H s.heap.objs.size=none:=I.hok.fresh (zD _)
  have sub:∀ b,b∈[z,TO,i1,i2]->b∈[z,TI,TO,i1,i2]:=λb hb=>by
   simp only [zH,zK,or_false] at hb ⊢
   rcases hb with e | e | e | e <;> simp [e]
  refine ⟨.ref s.heap.objs.size,upd H s.heap.objs.size (.tup [x,y]),?_,rfl,⟨_,x,y,nT,rfl,rfl,λys' zs' h1 h2=>by rw [I.list_inj h1 hq1,I.tuple_inj h2 hq2];exact ⟨hx,hy⟩⟩,⟨hZ2,?_,⟨u,v,?_⟩,?_,?_⟩,λb hb=>?_⟩
  ·refine Inv.step (s:=s) (h':=h2) (g':=s.gens) (d':=s.drawn) (t':=tk) (ch:=[z,TO,i1,i2]) I (λb hb=>?_) (λb o _ _ hb q _=>old2 b o hb q) (λb o _ _ hb q _=>⟨o.slots,old2 b o hb q⟩)
    (λb o _ q n=>by rw [xH (zW (Heap.lt_size q))];exact n) (λb o hb q=>⟨o,old2 b o hb q⟩)
    (λb ys q=>by rw [xH (xF q nT)];exact q) (λb o v q=>by rw [xH (xF q nT)];exact q) (λb ps q=>⟨#[],by rw [xH (xF q nT),q];simp⟩)
    (λm hm=>by
     obtain ⟨o,es',ep,q,r⟩:=hm
     exact ⟨o,es',ep,old2 _ o (λhb=>(fp _ (sub _ hb)).2.1 rfl) q,r⟩) (λb v' q=>?_) I.bare
   ·obtain ⟨e0,e1,e2,e3,e4,e5⟩:=fp b (sub b hb)
    exact ⟨e3,e1,e4,e5⟩
   ·by_cases hb:b=s.heap.objs.size
    ·subst hb
     rw [xC] at q
     cases q
     exact ⟨⟨by show 2<=sizeLine;rw [sizeLine_eq];decide,λob e=>by rw [hT2] at e;cases e;rfl⟩,[u,v],.cons ru (.cons rv .nil),⟨_,hT2,rfl,_,rfl⟩⟩
    ·rw [xH hb] at q
     refine (I.hok b v' q).stay (λc ob hc qc=>old2 c ob (λhb=>?_) qc) (λc qc=>by rw [xH (xF qc nT)];exact qc) λc ys qc=>by rw [xH (xF qc nT)];exact qc
     have e0:=(fp c (sub c hb)).1
     rcases hc with z | z
     ·subst z;exact xF q e0 rfl
     ·exact xF z e0 rfl
  ·exact old2 _ _ (by simp only [zH,zK,or_false,not_or];exact ⟨n1,n5,n6,n7⟩) hTI
  ·exact hs2'.extBut _ _ n2 hTO1
  ·obtain ⟨o,q,r⟩:=hs1.1
   exact ⟨o,hs2'.extBut i1 o n3 q,r⟩
  ·obtain ⟨o,q,r⟩:=hs2.1
   exact ⟨o,hs2'.extBut i2 o n4 q,r⟩
  ·rw [xH (zW (lt b hb))];exact (fp b hb).1
 done:=by
  intro X hP hw hK hc i pins s σ H E I hf st hg
  subst hP hw hK
  obtain ⟨xs,ys,hq1,hq2,el,hx⟩:=hg
  obtain ⟨its1,rv1,p1,hz1⟩:=I.list hq1
  obtain ⟨its2,rv2,p2,hz2⟩:=I.tuple hq2
  obtain ⟨hZ,hTI,⟨a0,c0,hTO⟩,hi1,hi2⟩:=st
  have t1:s.heap.IsList l1 its1.toArray:=p1.isList
  have l1':=rv1.length
  have l2':=rv2.length
  have en:i=its1.toArray.size:=by simp;omega
  subst en
  have sub:∀ b,b∈[z,TO,i1,i2]->b∈[z,TI,TO,i1,i2]:=λb hb=>by
   simp only [zH,zK,or_false] at hb ⊢
   rcases hb with e | e | e | e <;> simp [e]
  refine zdn_end (ZD.mix (A:=X.A.in1) (I.ok.hd hc) ap a1 a2 (xs:=its1.toArray) (ys:=its2.toArray) (by simp;omega)) hZ hTI hTO ⟨hi1,t1⟩ λh' hk=>⟨rfl,?_⟩
  have old2:∀ b o,b ∉ [z,TO,i1,i2]->s.heap.get? b=some o->h'.get? b=some o:=λb o hb q=>by
   simp only [zH,zK,or_false,not_or] at hb
   exact hk b o hb.1 hb.2.1 hb.2.2.1 hb.2.2.2 q
  refine Inv.step (s:=s) (h':=h') (g':=s.gens) (d':=s.drawn) (t':=s.toks) (ch:=[z,TO,i1,i2]) I (λb hb=>?_) (λb o _ _ hb q _=>old2 b o hb q) (λb o _ _ hb q _=>⟨o.slots,old2 b o hb q⟩)
    (λb o _ q n=>n) (λb o hb q=>⟨o,old2 b o hb q⟩)
    (λb ys q=>q) (λb o v q=>q) (λb ps q=>⟨#[],by rw [q];simp⟩)
    (λm hm=>by
     obtain ⟨o,es',ep,q,r⟩:=hm
     exact ⟨o,es',ep,old2 _ o (λhb=>(hf _ (sub _ hb)).2.1 rfl) q,r⟩) (λb v' q=>?_) I.bare
  ·obtain ⟨e0,e1,e2,e3,e4,e5⟩:=hf b (sub b hb)
   exact ⟨e3,e1,e4,e5⟩
  ·refine (I.hok b v' q).stay (λc ob hc qc=>old2 c ob (λhb=>?_) qc) (λc qc=>qc) λc ys qc=>qc
   have e0:=(hf c (sub c hb)).1
   rcases hc with z | z
   ·subst z;exact xF q e0 rfl
   ·exact xF z e0 rfl
 self:=λ_ _ _ _ _ st h=>wpAny_pyIter_zip st.1 h
def iZipM (K:PySem.W.Frag) (ta:TA):TI:=fun σ H R=>ta σ H λvs H1=>∃ a b,vs=[.ref a,.ref b]/\(∃ xs,SqL K H1 a xs)/\(∃ ys,SqT K H1 b ys)/\R (IzM K a b) H1
theorem pi_zipM {X:Cx}{a b:Expr}{ta:TA} {p pos pos2:Pos}{es:List Expr}{k:Nat}{K:PySem.W.Frag} (hK:X.K=K) (hg:Gl X "zip") (hm:X.mg "zip" = none) (ha:PA X [a,b] ta)
  (hs:starEach [a,b] X.env=(false,eval a X.env)::starEach [b] X.env:=by rfl) (hs2:starEach [b] X.env=[(false,eval b X.env)]:=by rfl) :
  PI X (.Tuple es k pos2) (.Call (.Name "zip" p) [a,b] [] pos) (iZipM K ta):=by
 subst hK
 intro pins s σ H R I h
 refine Call_ (ld_blt I hg hm boot_zip (yQ (thn (ha pos pins s σ H _ I h) λus s1 ⟨vs,H1,I1,r1,q1⟩=>?_) (by rw [hs,hs2]) (by rw [hs2];rfl)))
 obtain ⟨l1,l2,e,⟨xs,hq1⟩,⟨ys,hq2⟩,q⟩:=q1
 subst e
 cases r1 with
 | cons r rr=>
  cases rr with
  | cons r' rr=>
   cases rr
   cases r
   cases r'
   obtain ⟨its1,rv1,p1,hz1⟩:=I1.list hq1
   obtain ⟨its2,rv2,p2,hz2⟩:=I1.tuple hq2
   have t1:s1.heap.IsList l1 its1.toArray:=p1.isList
   have t2:s1.heap.IsTuple l2 its2.toArray:=p2
   have lt1:l1 < s1.heap.objs.size:=let ⟨_,z,_⟩:=t1;Heap.lt_size z
   have lt2:l2 < s1.heap.objs.size:=let ⟨_,z,_⟩:=t2;Heap.lt_size z
   refine callType_new F.called_zip (by decide) (F.typeCall_zip_2 _ _) (F.newCall_zip_2 _ _) (λobj=>F.args_object_init_3 obj _ _) F.entry_zip_new (zipM_new l1 l2 its1.toArray its2.toArray) ⟨t1,t2,λh' hZ hTI hTO hi1 hi2 hk=>⟨⟨_,hZ,rfl⟩,?_⟩⟩
   refine wpAny_pyIter_zip hZ ?_
   have I2:Inv X pins σ H1 { s1 with heap:=h' }:=I1.kept (t':=s1.toks) hk
   refine ⟨s1.heap.objs.size + 4,[s1.heap.objs.size + 4,s1.heap.objs.size + 2,s1.heap.objs.size + 3,s1.heap.objs.size,s1.heap.objs.size + 1],_,_,H1,rfl,I2,turn_zipM l1 l2 _ _ _ _ _ ?_ ?_ ?_,⟨hZ,hTI,⟨_,_,hTO⟩,hi1,hi2⟩,λb hb=>?_,q⟩
   ·have z:=zipApart_new lt1 lt2
    exact ⟨z.TIz,z.TOz,z.i1z,z.i2z,z.TITO,z.TIi1,z.TIi2,z.TOi1,z.TOi2,z.i12⟩
   ·intro x hx
    have z:=zipApart_new lt1 lt2
    simp only [zH,zK,or_false] at hx
    rcases hx with e | e | e | e <;> subst e
    ·exact z.l1z
    ·exact z.l1TO
    ·exact z.l1i1
    ·exact z.l1i2
   ·intro x hx
    have z:=zipApart_new lt1 lt2
    simp only [zH,zK,or_false] at hx
    rcases hx with e | e | e | e <;> subst e
    ·exact z.l2z
    ·exact z.l2TO
    ·exact z.l2i1
    ·exact z.l2i2
   ·have hb':s1.heap.objs.size<=b:=by
     simp only [zH,zK,or_false] at hb
     rcases hb with e | e | e | e | e <;> rw [e] <;> first | exact zD _ | exact Nat.le_add_right _ _
    exact I1.fpOk hb' (I1.hok.fresh hb')
section
variable {K:PySem.W.Frag}{a b:Addr}{xs ys:List V}{n:Nat}{caps:List Nat}{g:TG}{tc:TT}{te:TE}{σ:St}{H:Hp}{Qf:Addr->Hp->List V->Prop}
theorem comp_zipM (el:xs.length=ys.length) (Pv:Nat->St->List V->Hp->Prop) (h0:Pv 0 (tau0 n caps σ) [] H) (hn:xs.length<=1000) (hl:∀ i τ acc H,Pv i τ acc H->acc.length<=i/\SqL K H a xs/\SqT K H b ys)
  (hs:∀ i x y q τ acc H (C:St->List V->Hp->Prop),xs[i]?=some x->ys[i]?=some y->H q=none->Pv i τ acc H->(∀ τ acc H,Pv (i + 1) τ acc H->C τ acc H)->g (.ref q) τ (upd H q (.tup [x,y])) fun τ2 H2=>tc τ2 H2 λb H3=>if b=true then te τ2 H3 λy H4=>C τ2 (acc++[y]) H4 else C τ2 acc H3)
  (hd:∀ τ acc H,Pv xs.length τ acc H->∀ p,H p=none->Qf p H acc) :
  ∃ W:Nat->Nat->St->List V->Hp->Prop,(∃ m,W 0 m (tau0 n caps σ) [] H)/\∀ i m τ acc H,W i m τ acc H ->
   ((IzM K a b).stop i H/\acc.length<=sizeLine/\∀ p,H p=none->Qf p H acc) \/
   ((IzM K a b).go i H/\acc.length < sizeLine/\∀ x H',(IzM K a b).yld i H x H'->g x τ H' fun τ2 H2=>tc τ2 H2 λb H3=>if b=true then te τ2 H3 λy H4=>∃ m',m' < m/\W (i + 1) m' τ2 (acc++[y]) H4 else ∃ m',m' < m/\W (i + 1) m' τ2 acc H3):=
 comp_of (J:=IzM K a b) Pv xs.length h0 hn (λi τ acc H p=>(hl i τ acc H p).1) (λi τ acc H hi p=>⟨xs,ys,xs[i],ys[i]'(by omega),(hl i τ acc H p).2.1,(hl i τ acc H p).2.2,el,by simp [hi],by simp [<-el,hi]⟩) (fun τ acc H p=>⟨xs,ys,(hl _ τ acc H p).2.1,(hl _ τ acc H p).2.2,el,rfl⟩)
  (λi τ acc H C hi p c x H' y=>by obtain ⟨q,x',y',hq,e1,e2,y⟩:=y;subst e1;subst e2;exact hs i x' y' q τ acc _ C (y xs ys (hl i τ acc _ p).2.1 (hl i τ acc _ p).2.2).1 (y xs ys (hl i τ acc _ p).2.1 (hl i τ acc _ p).2.2).2 hq p c) hd
end
end L2
namespace Sm
open PySem L2 SmSort
theorem cut_drop (xs:List V) (k:Nat):cutV xs (some (k:Int)) none=xs.drop k:=by
 unfold cutV
 rw [HT.sIx_nat]
 show (xs.drop (min k xs.length)).take (xs.length - min k xs.length)=xs.drop k
 by_cases h:k<=xs.length
 ·rw [Nat.min_eq_left h,za (by rw [ya];exact zD _)]
 ·rw [Nat.min_eq_right (by omega),List.drop_eq_nil_of_le (by omega),List.drop_eq_nil_of_le (by omega),List.take_nil]
theorem cut_take (xs:List V) (k:Nat):cutV xs none (some (k:Int))=xs.take k:=by
 unfold cutV
 rw [HT.sIx_nat]
 show (xs.drop 0).take (min k xs.length - 0)=xs.take k
 rw [List.drop_zero,Nat.sub_zero]
 by_cases h:k<=xs.length
 ·rw [Nat.min_eq_left h]
 ·rw [Nat.min_eq_right (by omega),za (zD _),za (by omega)]
end Sm
namespace L2
open PySem
theorem iteN {c:Bool}{A:Prop}{D:Ends}{σ:St}{H:Hp} (Pre:St->Hp->Prop) (k:∀ σ H,Pre σ H->D.nx σ H) (h1:c=true->(∀ σ H,Pre σ H->D.nx σ H)->A) (h2:c=false->Pre σ H):if c=true then A else tNext D σ H:=by
 cases c with
 | true=>exact h1 rfl k
 | false=>exact k _ _ (h2 rfl)
end L2
namespace Sm
open PySem L2 SmSort
theorem Go.free {p l:Addr}{H H':Hp} (g:Go p H H') (h:H' l=none) (np:l≠p):H l=none:=by
 cases e:H l with
 | none=>rfl
 | some u=>rw [g.1 l u np e] at h;cases h
end Sm
namespace Sm
open PySem L2 SmSort
def jstep (row F:Fn) (x:W3):Fn:=if below (row x.g) x.t=true/\upto (F x.o) x.t=false then put F x.o (some x.t) else F
def jac (ws:List W3) (row:Fn):Fn:=ws.foldl (jstep row) row
def jrow (ws:List W3) (row:Fn):Nat->Fn
 | 0=>row
 | k + 1=>jac ws (jrow ws row k)
def rk (ws:List W3):Option Int->Nat
 | none=>ws.length + 1
 | some y=>ws.countP λx=>decide (x.t < y)
end Sm
namespace Sm
open PySem L2 SmSort
structure Rows (H0 H:Hp) (ms:List M4) (n k:Nat) (x:Int) (as:List Addr):Prop where
 pos:as≠[]
 few:as.length<=200000
 at':∀ (i:Nat) (a:Addr),as[i]?=some a->H0 a=none/\H a=some (.lst ((rep n (jrow (ways2 ms) (lone k x) i)).map oV))
 ne:∀ i,i + 1 < as.length->rep n (jrow (ways2 ms) (lone k x) (i + 1))≠rep n (jrow (ways2 ms) (lone k x) i)
 last:rep n (jrow (ways2 ms) (lone k x) as.length)=rep n (jrow (ways2 ms) (lone k x) (as.length - 1))
end Sm
namespace L2
open PySem PySem.Spec PyProof.Rows
section
variable {K:PySem.W.Frag}{a:Addr}{xs:List V}{n:Nat}{caps:List Nat}{g:TG}{tc:TT}{te:TE}{σ:St}{H:Hp}{Qf:Addr->Hp->List V->Prop}
end
end L2
namespace Sm
open PySem L2 SmSort
end Sm
namespace Sm
open PySem L2 SmSort
end Sm
namespace Sm
open PySem L2
end Sm
namespace Sm
open PySem L2 SmSort
def again (ms:List M4) (day first:Int):Nat->List M4
 | 0=>[]
 | r + 1=>again ms day first r++ms.map (M4.late ((first + r) * day))
end Sm
namespace L2
open PySem PySem.Spec PyProof.Rows
section
variable {X:Cx}{pins:List (Addr×Obj)}{σ:St}{H:Hp}{s:Shared}
theorem wC {xs:List V}{us:List Value} (r:Vals xs us) {j:Nat} (h:j < us.toArray.size):∃ x,xs[j]?=some x/\RelV x us.toArray[j]:=by
 have hl:=r.length
 simp only [zF] at h
 have a1:j < xs.length:=by omega
 obtain ⟨u,eu,ru⟩:=r.get (i:=j) (x:=xs[j]) (by simp [a1])
 have e1:us.toArray[j]=u:=by rw [List.getElem_toArray];exact Option.some.inj ((zJ h).symm.trans eu)
 exact ⟨xs[j],by simp [a1],by rw [e1];exact ru⟩
end
end L2
namespace L2
open PySem PySem.Spec PyProof.Rows
def Eqv (K:PySem.W.Frag) (H:Hp):Nat->V->V->Bool->Prop
 | 0,x,y,b=>(x=y/\(∃ a,x=.ref a)/\b=true)\/(flatV x=true/\flatV y=true/\b=eqV x y)
 | n + 1,x,y,b=>(x=y/\(∃ a,x=.ref a)/\b=true)\/(flatV x=true/\flatV y=true/\b=eqV x y)\/∃ (a c:Addr) (xs ys:List V) (e:Nat->Bool),x=.ref a/\y=.ref c/\((SqL K H a xs/\SqL K H c ys)\/(SqT K H a xs/\SqT K H c ys))/\(a=c->b=true)/\b=(decide (xs.length=ys.length) && (List.range xs.length).all e)/\∀ (i:Nat) (x y:V),xs[i]?=some x->ys[i]?=some y->Eqv K H n x y (e i)
section
variable {X:Cx}{pins:List (Addr×Obj)}{σ:St}{H:Hp}{s:Shared}
theorem eqv_base {A:Around}{x y:V}{b:Bool}{u v:Value} (h:(x=y/\(∃ a,x=.ref a)/\b=true)\/(flatV x=true/\flatV y=true/\b=eqV x y)) (ru:RelV x u) (rv:RelV y v):SeqAt.EqAt A s u v b:=by
 rcases h with ⟨rfl,⟨a,rfl⟩,rfl⟩ | ⟨h1,h2,rfl⟩
 ·cases ru;cases rv
  exact SeqAt.EqAt.same _
 ·exact eqAt_V (A:=A) (s:=s) ru rv h1 h2
theorem eqv_eq (I:Inv X pins σ H s):∀ (n:Nat) {A:Around}{x y:V}{b:Bool}{u v:Value},A.units + n < cLine->Eqv X.K H n x y b->RelV x u->RelV y v->SeqAt.EqAt A s u v b:=by
 intro n
 induction n with
 | zero=>intro A x y b u v hu h ru rv;exact eqv_base h ru rv
 | succ n ih=>
  intro A x y b u v hu h ru rv
  rcases h with h | h | ⟨a,c,xs,ys,e,rfl,rfl,h,hs,hb,hi⟩
  ·exact eqv_base (.inl h) ru rv
  ·exact eqv_base (.inr h) ru rv
  ·cases ru;cases rv
   by_cases ne:a=c
   ·rw [hs ne,ne];exact SeqAt.EqAt.same _
   refine SeqAt.EqAt.of_refs ne ?_
   have hu2:(A.units + 1) + n < cLine:=by omega
   rcases h with ⟨h1,h2⟩ | ⟨h1,h2⟩
   ·obtain ⟨its,r1,p1,_⟩:=I.list h1
    obtain ⟨its2,r2,p2,_⟩:=I.list h2
    have l1:=r1.length
    have l2:=r2.length
    by_cases hl:xs.length=ys.length
    ·have:=SeqAt.RcAt.lists (A:=A) (e:=e) p1.isList p2.isList (by simp;omega) (by omega) λj h1 h2=>by
      obtain ⟨x,ex,rx⟩:=wC r1 h1
      obtain ⟨y,ey,ry⟩:=wC r2 h2
      exact ih hu2 (hi j x y ex ey) rx ry
     rw [hb,decide_eq_true hl,yZ,l1]
     simpa using this
    ·rw [hb,decide_eq_false hl,yM]
     exact SeqAt.RcAt.lists_lengths (A:=A) p1.isList p2.isList (by simp;omega) (by omega)
   ·obtain ⟨its,r1,p1,_⟩:=I.tuple h1
    obtain ⟨its2,r2,p2,_⟩:=I.tuple h2
    have l1:=r1.length
    have l2:=r2.length
    have:=SeqAt.RcAt.tuples (A:=A) (e:=e) p1 p2 (by omega) λj h1 h2=>by
     obtain ⟨x,ex,rx⟩:=wC r1 h1
     obtain ⟨y,ey,ry⟩:=wC r2 h2
     exact ih hu2 (hi j x y ex ey) rx ry
    by_cases hl:xs.length=ys.length
    ·rw [hb,decide_eq_true hl,yZ,l1]
     have e1:its2.length=its.length:=by omega
     simpa [e1] using this
    ·rw [hb,decide_eq_false hl,yM]
     have e1:¬ its.length=its2.length:=by omega
     have e2:(its.toArray.size == its2.toArray.size)=false:=by simp [e1]
     rw [e2,yt] at this
     exact this
def rEqv (K:PySem.W.Frag) (neg:Bool):R2:=λx y H Q=>∃ (n:Nat) (a c:Addr) (xs ys:List V) (e:Nat->Bool) (b:Bool),n<=20/\x=.ref a/\y=.ref c/\((SqL K H a xs/\SqL K H c ys)\/(SqT K H a xs/\SqT K H c ys))/\b=(decide (xs.length=ys.length) && (List.range xs.length).all e)/\(∀ (i:Nat) (x y:V),xs[i]?=some x->ys[i]?=some y->Eqv K H n x y (e i))/\Q (.bl (if neg then !b else b)) H
theorem op_eqE (hu:X.A.units + 64 < cLine):OpR X (compareOp .Eq) (rEqv X.K false):=by
 intro pins s σ H x y v u Q I rx ry h
 obtain ⟨n,a,c,xs,ys,e,b,hn,rfl,rfl,h,hb,hi,q⟩:=h
 cases rx;cases ry
 rw [if_neg (by decide),hb] at q
 rcases h with ⟨h1,h2⟩ | ⟨h1,h2⟩
 ·obtain ⟨its,r1,p1,_⟩:=I.list h1
  obtain ⟨its2,r2,p2,_⟩:=I.list h2
  have l1:=r1.length
  have l2:=r2.length
  by_cases hl:xs.length=ys.length
  ·rw [decide_eq_true hl,yZ,l1] at q
   exact SeqAt.RcAt.lists (e:=e) p1.isList p2.isList (by simp;omega) (by omega) (λj h1 h2=>by
    obtain ⟨x,ex,rx⟩:=wC r1 h1
    obtain ⟨y,ey,ry⟩:=wC r2 h2
    exact eqv_eq I n (by show X.A.units + 1 + n < cLine;omega) (hi j x y ex ey) rx ry) _ _ _ _ ⟨.bl _,H,I,rfl,by simpa using q⟩
  ·rw [decide_eq_false hl,yM] at q
   exact SeqAt.RcAt.lists_lengths p1.isList p2.isList (by simp;omega) (by omega) _ _ _ _ ⟨.bl _,H,I,rfl,q⟩
 ·obtain ⟨its,r1,p1,_⟩:=I.tuple h1
  obtain ⟨its2,r2,p2,_⟩:=I.tuple h2
  have l1:=r1.length
  have l2:=r2.length
  have key:((List.range (min its.toArray.size its2.toArray.size)).all e && its.toArray.size == its2.toArray.size)=(decide (xs.length=ys.length) && (List.range xs.length).all e):=by
   by_cases hl:xs.length=ys.length
   ·have e1:its2.length=its.length:=by omega
    rw [decide_eq_true hl,yZ,l1];simp [e1]
   ·have e1:¬ its.length=its2.length:=by omega
    rw [decide_eq_false hl,yM];simp [e1]
  rw [<-key] at q
  exact SeqAt.RcAt.tuples (e:=e) p1 p2 (by omega) (λj h1 h2=>by
   obtain ⟨x,ex,rx⟩:=wC r1 h1
   obtain ⟨y,ey,ry⟩:=wC r2 h2
   exact eqv_eq I n (by show X.A.units + 1 + n < cLine;omega) (hi j x y ex ey) rx ry) _ _ _ _ ⟨.bl _,H,I,rfl,q⟩
theorem op_neE (hu:X.A.units + 64 < cLine):OpR X (compareOp .NotEq) (rEqv X.K true):=by
 intro pins s σ H x y v u Q I rx ry h
 obtain ⟨n,a,c,xs,ys,e,b,hn,rfl,rfl,h,hb,hi,q⟩:=h
 cases rx;cases ry
 rw [if_pos rfl,hb] at q
 rcases h with ⟨h1,h2⟩ | ⟨h1,h2⟩
 ·obtain ⟨its,r1,p1,_⟩:=I.list h1
  obtain ⟨its2,r2,p2,_⟩:=I.list h2
  have l1:=r1.length
  have l2:=r2.length
  by_cases hl:xs.length=ys.length
  ·rw [decide_eq_true hl,yZ,l1] at q
   exact SeqAt.RcNeAt.lists (e:=e) p1.isList p2.isList (by simp;omega) (by omega) (λj h1 h2=>by
    obtain ⟨x,ex,rx⟩:=wC r1 h1
    obtain ⟨y,ey,ry⟩:=wC r2 h2
    exact eqv_eq I n (by show X.A.units + 1 + n < cLine;omega) (hi j x y ex ey) rx ry) _ _ _ _ ⟨.bl _,H,I,rfl,by simpa using q⟩
  ·rw [decide_eq_false hl,yM] at q
   exact SeqAt.RcNeAt.lists_lengths p1.isList p2.isList (by simp;omega) (by omega) _ _ _ _ ⟨.bl _,H,I,rfl,q⟩
 ·obtain ⟨its,r1,p1,_⟩:=I.tuple h1
  obtain ⟨its2,r2,p2,_⟩:=I.tuple h2
  have l1:=r1.length
  have l2:=r2.length
  have key:((List.range (min its.toArray.size its2.toArray.size)).all e && its.toArray.size == its2.toArray.size)=(decide (xs.length=ys.length) && (List.range xs.length).all e):=by
   by_cases hl:xs.length=ys.length
   ·have e1:its2.length=its.length:=by omega
    rw [decide_eq_true hl,yZ,l1];simp [e1]
   ·have e1:¬ its.length=its2.length:=by omega
    rw [decide_eq_false hl,yM];simp [e1]
  rw [<-key] at q
  exact SeqAt.RcNeAt.tuples (e:=e) p1 p2 (by omega) (λj h1 h2=>by
   obtain ⟨x,ex,rx⟩:=wC r1 h1
   obtain ⟨y,ey,ry⟩:=wC r2 h2
   exact eqv_eq I n (by show X.A.units + 1 + n < cLine;omega) (hi j x y ex ey) rx ry) _ _ _ _ ⟨.bl _,H,I,rfl,q⟩
end
theorem Eqv.rows {α:Type} [DecidableEq α] {f:α->V} (hf:∀ x,flatV (f x)=true) (he:∀ x y,eqV (f x) (f y)=decide (x=y)) {K:PySem.W.Frag}{H:Hp}{n:Nat}{a c:Addr}{xs ys:List α} (h:(H a=some (.lst (xs.map f))/\H c=some (.lst (ys.map f)))\/(H a=some (.tup (xs.map f))/\H c=some (.tup (ys.map f)))):Eqv K H (n + 1) (.ref a) (.ref c) (decide (xs=ys)):=by
 have fi:∀ x y,f x=f y->x=y:=λx y e=>by
  have:=he x y
  rw [e,he y y] at this
  simpa using this.symm
 have inj:∀ {l m:List α},l.map f=m.map f->l=m:=λ{l m} e=>List.map_inj_right (λx y=>fi x y) |>.mp e
 refine .inr (.inr ⟨a,c,xs.map f,ys.map f,λi=>decide (xs[i]?=ys[i]?),rfl,rfl,h.imp (λh=>⟨SqL.of h.1,SqL.of h.2⟩) (λh=>⟨SqT.of h.1,SqT.of h.2⟩),λe=>?_,?_,λi x y hx hy=>?_⟩)
 ·subst e
  rw [decide_eq_true_eq]
  rcases h with ⟨h1,h2⟩ | ⟨h1,h2⟩
  ·rw [h1] at h2
   injection h2 with h2;injection h2 with h2;exact inj h2
  ·rw [h1] at h2
   injection h2 with h2;injection h2 with h2;exact inj h2
 ·rw [zA,zA]
  by_cases hl:xs.length=ys.length
  ·rw [decide_eq_true hl,yZ]
   symm
   refine all_range ?_
   simp only [decide_eq_true_eq]
   constructor
   ·intro h
    apply List.ext_getElem?
    intro j
    by_cases hj:j < xs.length
    ·exact h j hj
    ·rw [List.getElem?_eq_none (by omega),List.getElem?_eq_none (by omega)]
   ·rintro rfl j _;rfl
  ·rw [decide_eq_false hl,yM,decide_eq_false_iff_not]
   rintro rfl;exact hl rfl
 ·rw [zX] at hx hy
  cases e1:xs[i]? with
  | none=>rw [e1] at hx;cases hx
  | some p=>
   cases e2:ys[i]? with
   | none=>rw [e2] at hy;cases hy
   | some q=>
    rw [e1] at hx;rw [e2] at hy
    cases hx;cases hy
    have key:flatV (f p)=true/\flatV (f q)=true/\decide (some p=some q)=eqV (f p) (f q):=⟨hf p,hf q,by
     rw [he]
     simp⟩
    cases n with
    | zero=>exact .inr (by simpa only [e1,e2] using key)
    | succ n=>exact .inr (.inl (by simpa only [e1,e2] using key))
theorem eqV_int (x y:Int):eqV (.int x) (.int y)=decide (x=y):=rfl
end L2
namespace Sm
open PySem L2 SmSort
def mx:Option Int->Option Int->Option Int
 | none,b=>b
 | some a,none=>some a
 | some a,some b=>some (if b > a then b else a)
theorem ahead {n:Nat}{ms:List M4}{m:M4} (g:Good n (ms++[m])) {v:Nat}{x y:Int}{i:Nat} (hi:i≠v) (h:fwd ms (lone v x) i=some y):y<=m.t/\((i=m.lo.toNat\/i=m.hi.toNat)->y < m.t):=by
 obtain ⟨a,ha,ao,at',_⟩:=run_from (ws:=ways2 ms) h (by simp [lone,hi])
 unfold ways2 at ha
 obtain ⟨c,hc,hx⟩:=List.mem_flatMap.mp ha
 have od:=(yk.mp g.order).2.2 c hc m (by simp)
 obtain ⟨c1,c2,c3,_⟩:=g.each c (by simp [hc])
 obtain ⟨m1,m2,m3,_⟩:=g.each m (by simp)
 unfold two at hx
 simp only [zH,zK,or_false] at hx
 have ct:c.t=y:=by rcases hx with rfl | rfl <;> exact at'
 have ci:i=c.lo.toNat\/i=c.hi.toNat:=by
  rcases hx with rfl | rfl
  ·exact .inr ao.symm
  ·exact .inl ao.symm
 refine ⟨by rcases od with h | h <;> omega,λhm=>?_⟩
 rcases od with h | ⟨h1,h2,h3,h4,h5,h6⟩
 ·omega
 ·exfalso
  rcases ci with e | e <;> rcases hm with e' | e' <;> omega
end Sm
namespace L2
open PySem PySem.Spec PyProof.Rows
section
variable {X:Cx}{pins:List (Addr×Obj)}{σ:St}{H:Hp}{s:Shared}
theorem wG {ix:Nat}{xn:Str}{pos' spos:Pos}{own:List Str}{caps:List Nat}{elt tg iter:Expr}{ifs:List Expr}{scope:Scope}{pos:Pos}{wi:TI}{g:TG}{tc:TT}{te:TE} (hN:X.N.Nodup) (hix:X.N[ix]?=some xn) (hxl:locB X.env.scope xn=true) (hc:X.calm=true) (S:CompScope own caps X.N X.env.scope scope) (hi:PI X tg iter wi)
  (hg:∀ s H fp C,PG (cxComp X own caps scope s H fp C) tg g) (ht:∀ s H fp C,PTs (cxComp X own caps scope s H fp C) ifs tc) (he:∀ s H fp C,PE (cxComp X own caps scope s H fp C) elt te)
  (hs:∀ x,foldedSetIterable iter X.env x=pure x:=by intro _;rfl) (hsw:swapsWith (.ListComp elt [⟨tg,iter,ifs,0⟩] scope pos) (some (.Name xn pos')) spos.line X.env=pure true:=by rfl)
  (hf:fnLoc X xn=true:=by rfl) :
  PS X (.Assign [.Name xn pos'] (.ListComp elt [⟨tg,iter,ifs,0⟩] scope pos) spos) (tAsg (tComp own.length caps wi g tc te) (gName ix)):=by
 have hxl:=locB_of hxl
 intro pins s σ H D0 I h
 rw [exec_Assign_Name_used _ _ _ _ hsw,arm_evalThenUse_ListComp]
 suffices main:wpAny (model X.prog X.w) X.A (comprehension (.ListComp elt [⟨tg,iter,ifs,0⟩] scope pos) scope X.env (firstIterPos [⟨tg,iter,ifs,0⟩] pos) (newList []) false (eval iter X.env) (some (assign (.Name xn pos') X.env))) (λ_ s1=>SP X pins D0 .next s1) X.xe s from
  wpAny_bind (wpAny_standAt (wpAny_bind (wpAny_bind (wpAny_mono main (λ_ s1 h=>wpAny_pure (wpAny_pure h)) λ_ _ e=>e))))
 refine wpAny_comprehension_free (use:=some _) (cl:=clOf scope.names X.env []) rfl hs (closureFor_eq λy hy e=>I.ok.has y.1 (S.fr y hy e)) S.kind S.loc
  (wpAny_mono (hi pins s σ H _ I h) (λv s1 h1=>thn h1 λitv s2 h2=>?_) λ_ _ e=>e)
 obtain ⟨it,fp,tn,J,H2,e,I2,T,st2,f2,W,⟨m0,w0⟩,turn⟩:=h2
 subst e
 refine wpAny_newObj_type (wpAny_newFunctionEnv S.nocell (by intro y hy;simp at hy) (λh₁ hns₁ hsb₁=>?_) S.kind)
 dsimp only at hns₁ hsb₁ ⊢
 generalize hH2:s2.heap.push { cls:=.type "list", dict:=none,data:=.seq ([]:List Value).toArray }=G at hns₁ hsb₁ ⊢
 have hG:G.objs.size=s2.heap.objs.size + 1:=by rw [<-hH2,Heap.size_push]
 have hDC:s2.heap.objs.size≠G.objs.size:=by rw [hG];exact zW (Nat.lt_succ_self _)
 have hCle:s2.heap.objs.size<=G.objs.size:=by rw [hG];exact yj _
 have below:∀ b,b < s2.heap.objs.size->b≠G.objs.size:=λb hb=>by rw [hG];exact zW (yD hb)
 have old:∀ b o,s2.heap.get? b=some o->h₁.get? b=some o:=λb o e=>hsb₁.extBut b o (below b (Heap.lt_size e)) (Heap.get?_push_of_some _ (hH2 ▸ Heap.get?_push_of_some _ e))
 have hacc:h₁.get? s2.heap.objs.size=some { cls:=.type "list", dict:=none,data:=.seq ([]:List Value).toArray }:=hsb₁.extBut _ _ hDC (Heap.get?_push_of_some _ (hH2 ▸ Heap.get?_push_size _ rfl))
 have fl:∀ b∈fp,b < s2.heap.objs.size:=λb hb=>let ⟨o,e,_⟩:=T.obj _ _ st2 b hb;Heap.lt_size e
 have hns₁':h₁.Ns G.objs.size λ_=>none:=hns₁
 have I4:=inv_comp (tk:=s2.toks + ([]:List (Str×Value)).length) I2 S f2 fl (zD _) hCle hDC old hns₁' hacc (λv z=>nomatch z)
 have st4:tn 0 h₁:=T.keep _ _ _ st2 λb _ o e=>old b o e
 generalize hs4:({ s2 with heap:=h₁,toks:=s2.toks + ([]:List (Str×Value)).length }:Shared)=s4 at I4 ⊢
 have e4:s4.heap=h₁:=by rw [<-hs4]
 rw [<-e4] at st4
 -- the loop
 have loop:codeAny (model X.prog X.w) X.A (.compLoop (.ListComp elt [⟨tg,iter,ifs,0⟩] scope pos) 0 (.ref it) (.ref s2.heap.objs.size) (compEnvC scope (clOf scope.names X.env []) G.objs.size X.env))
   (compPost (model X.prog X.w) X.A X.xe (some (assign (.Name xn pos') X.env)) (λ_ s1=>SP X pins D0 .next s1) (.ref s2.heap.objs.size) G.objs.size) s4:=by
  let Y:=cxComp X own caps scope s2 H2 fp G.objs.size
  have stat:∀ {H':Hp}{its:List Value}{n:Nat},(∀ b∈fp,H' b=none)->∀ b∈fp,FpOk Y [(s2.heap.objs.size,({ cls:=.type "list", data:=.seq its.toArray n }:Obj))] H' b:=λ{H' its n} hn b hb=>by
   refine ⟨hn b hb,below b (fl b hb),λz=>?_,.inl hb,λx c e=>(f2 b hb).2.2.2.2.1 x c (xp e),λp hp=>?_⟩
   ·rcases zH.mp (I2.stkSub b z) with e | e
    ·exact (f2 b hb).2.1 e
    ·exact (f2 b hb).2.2.1 e
   ·have e:p=(s2.heap.objs.size,({ cls:=.type "list", data:=.seq its.toArray n }:Obj)):=by simpa using (show p∈[]++[_] from hp)
    subst e
    exact yA (fl b hb)
  refine loop_comp (λn s'=>∃ i τ acc its k H',Inv Y [(s2.heap.objs.size,({ cls:=.type "list", data:=.seq its.toArray k }:Obj))] τ H' s'/\tn i s'.heap/\(∀ b∈fp,H' b=none)/\Vals acc its/\W i n τ acc H') ?_ m0
   ⟨0,_,[],[],0,H2,I4,st4,λb hb=>(f2 b hb).1,.nil,w0⟩
  rintro n s5 ⟨i,τ,acc,its,k,H5,I5,st5,fr5,rv5,w5⟩
  rcases turn i n τ acc H5 w5 with ⟨stop,hz,q⟩ | ⟨go,hz,step⟩
  ·refine thn (T.done Y rfl rfl rfl hc i _ s5 τ H5 (λ_ _=>False) I5 (stat fr5) st5 stop) λr s6 ⟨hr,I6⟩=>?_
   subst hr
   obtain ⟨eD,nD,_,_,_⟩:=I6.pin _ (zN _ (zP.mpr rfl))
   obtain ⟨m6,hm6,_⟩:=I6.loc
   have hC6:H5 G.objs.size=none:=I6.free
   have hok6:HOk X.prog X.w H5 s6.heap:=I6.hok
   have ub:=I6.base
   have IX:Inv X pins σ (upd H5 s2.heap.objs.size (.lst acc)) s6:=by
    refine I2.call' (ch:=fp) (s':=s6) I6.os ⟨λb o e n' hb hx=>ub.keep b o e n' hb hx,λb o e n' hb hx=>?_,λb o e n' hx=>?_,λb o e hx=>?_,λb xs e=>?_,λb o u e=>?_,λb ps e=>?_⟩
     (hok6.track nD ⟨hz,its,k,rv5,eD⟩) I6.bare λb hb=>⟨(f2 b hb).2.2.2.1,(f2 b hb).2.1,(f2 b hb).2.2.2.2.1,(f2 b hb).2.2.2.2.2⟩
    ·exact ub.slot b o e n' hb hx
    ·rw [xH (zW (Heap.lt_size e))]
     exact ub.free b o e n' hx
    ·exact ub.there b o e hx
    ·have z:=ub.tups b xs e
     rw [xH (xF z nD)];exact z
    ·have z:=ub.frzs b o u e
     rw [xH (xF z nD)];exact z
    ·obtain ⟨more,z⟩:=ub.tbls b ps e
     exact ⟨more,by rw [xH (xF z nD)];exact z⟩
   have hCX:(upd H5 s2.heap.objs.size (.lst acc)) G.objs.size=none:=by rw [xH (Ne.symm hDC)];exact hC6
   have fC:FpOk X pins (upd H5 s2.heap.objs.size (.lst acc)) G.objs.size:=I2.fpOk hCle hCX
   obtain ⟨oC,esC,epC,gC,dC,rC⟩:=hm6
   have IP:=IX.pinned (fp:=[G.objs.size]) (λb hb=>by cases zP.mp hb;exact fC) (λb hb=>by cases zP.mp hb;exact ⟨oC,gC,λv z=>by rw [dC] at z;cases z⟩)
   refine wpAny_assign_Name (store_ok IP hN hix hxl (v:=.ref s2.heap.objs.size) rfl (λs7 I7=>?_) hf)
   have pC:=(I7.pin (G.objs.size,oC) (zN _ (zN _ (wK (zP.mpr rfl) gC)))).1
   refine ⟨m6,⟨oC,esC,epC,pC,dC,rC⟩,λh' hsb=>?_⟩
   have I8:Inv X pins (σ.set ix (some (.ref s2.heap.objs.size))) (upd H5 s2.heap.objs.size (.lst acc)) { s7 with heap:=h' }:=I7.unpinned.turned (t':=s7.toks) (λb o hb e=>hsb.extBut b o hb e) fC.1 fC.2.1 fC.2.2.2.1 fC.2.2.2.2.1 fC.2.2.2.2.2
   exact ⟨_,_,I8,q _ nD⟩
  ·refine thn (T.item Y rfl rfl rfl hc i _ s5 τ H5 (λ_ _=>False) I5 (stat fr5) st5 go) λr s6 ⟨u,hr,h6⟩=>?_
   subst hr
   refine thn h6 λ_ s7 ⟨x,H7,I7,r7,y7,st7,fr7⟩=>?_
   have I7':=I7.pinned (stat fr7) (T.obj _ _ st7)
   refine thn (hg s2 H2 fp G.objs.size _ s7 τ H7 x u _ I7' r7 (step x H7 y7)) λ_ s8 ⟨τ8,H8,I8,q8⟩=>?_
   refine thn (ht s2 H2 fp G.objs.size _ s8 τ8 H8 _ I8 q8) λok s9 ⟨H9,I9,q9⟩=>?_
   -- the iterator's state behind the turn
   have back:∀ {s':Shared}{τ':St}{H':Hp},Inv Y ([(s2.heap.objs.size,({ cls:=.type "list", data:=.seq its.toArray k }:Obj))]++pinsAt fp s7.heap) τ' H' s'->(tn (i + 1) s'.heap/\∀ b∈fp,H' b=none):=λ{s' τ' H'} Ib=>
    ⟨T.keep _ _ _ st7 λb hb o e=>(Ib.pin (b,o) (zN _ (zN _ (wK hb e)))).1,λb hb=>by
     obtain ⟨o,e,d⟩:=T.obj _ _ st7 b hb
     exact (Ib.pin (b,o) (zN _ (zN _ (wK hb e)))).2.1⟩
   cases ok with
   | false=>
    obtain ⟨m',hm',w'⟩:=q9
    obtain ⟨sb,fb⟩:=back I9
    exact ⟨m',hm',i + 1,τ8,acc,its,k,H9,I9.unpinned,sb,fb,rv5,w'⟩
   | true=>
    refine thn (he s2 H2 fp G.objs.size _ s9 τ8 H9 _ I9 q9) λy s10 ⟨yv,H10,I10,r10,q10⟩=>?_
    obtain ⟨m',hm',w'⟩:=q10
    obtain ⟨sb,fb⟩:=back I10
    obtain ⟨eD,nD,neD,nfD,_⟩:=I10.pin (s2.heap.objs.size,_) (zN _ (yi _ (zP.mpr rfl)))
    have hl:acc.length=its.length:=rv5.length
    refine call_meets F.slot_list_append ⟨_,eD,rfl⟩ F.entry_list_append (F.args_list_append_2 _ _) (PySem.list_append s2.heap.objs.size its.toArray k y (by rw [zF];omega)) ⟨eD,?_⟩
    have q:=PySem.IsL.update eD (λa:Array Value=>a.push y)
    have Iu:Inv Y [] τ8 H10 s10:=I10.pins_of λp hp=>nomatch hp
    have It:=Iu.turned (t':=s10.toks) (it:=s2.heap.objs.size) (h':=s10.heap.update s2.heap.objs.size (Obj.mapSeq (λa:Array Value=>a.push y))) (λb o hb e=>(Heap.get?_update_other s10.heap _ (Ne.symm hb)).trans e) nD neD (.inr (zD _))
     (λx c e z=>by
      obtain ⟨v,ob,hob,_⟩:=I2.cell x c (xp e)
      exact absurd (Heap.lt_size hob) (by rw [z];exact zw _)) (λp hp=>nomatch hp)
    have It':=It.pins_of (pins':=[(s2.heap.objs.size,({ cls:=.type "list", data:=.seq (its++[y]).toArray (k + 1) }:Obj))]) λp hp=>by
     have e:p=_:=zP.mp hp
     subst e
     exact ⟨by simpa using q,nD,neD,nfD,λv z=>nomatch z⟩
    refine ⟨m',hm',i + 1,τ8,acc++[yv],its++[y],_,H10,It',T.keep _ _ _ sb λb hb o e=>(Heap.get?_update_other s10.heap _ (yA (fl b hb))).trans e,fb,rv5.append (.cons r10 .nil),w'⟩
 exact codeAny_compStart_list loop (T.self _ 0 s4 _ _ st4 loop)
end
end L2
namespace Sm
open PySem L2 SmSort
theorem iteO {c:Bool}{A B:Prop}{D:Ends}{σ:St}{H:Hp} (Pre:St->Hp->Prop) (k:∀ σ H,Pre σ H->D.nx σ H) (h1:c=true->(∀ σ H,Pre σ H->D.nx σ H)->A) (h2:c=false->(∀ σ H,Pre σ H->D.nx σ H)->B):if c=true then (if true=true then A else tNext D σ H) else B:=by
 cases c with
 | true=>exact h1 rfl k
 | false=>exact h2 rfl k
theorem iteA {c:Bool} {T2 A:Prop}{D:Ends}{σ:St}{H:Hp} (Pre:St->Hp->Prop) (k:∀ σ H,Pre σ H->D.nx σ H) (h1:c=true->(∀ σ H,Pre σ H->D.nx σ H)->T2) (h2:c=false->Pre σ H):if c=true then T2 else (if false=true then A else tNext D σ H):=by
 cases c with
 | true=>exact h1 rfl k
 | false=>exact k _ _ (h2 rfl)
end Sm
namespace Sm
open PySem L2 SmSort
structure Loose (w:Int) (ms:List M4):Prop where
 few:ms.length<=60
 each:∀ r∈ms,0<=r.lo/\r.lo < r.hi/\r.hi < w/\1<=r.t/\r.t<=1000000000/\1<=r.m/\r.m<=99
 pw:ms.Pairwise λa b=>a.t=b.t->apart a b
theorem Good.loose {w:Int}{ms:List M4} (g:Good w ms):Loose w ms:=⟨g.few,g.each,g.order.imp λh e=>by
 rcases h with h | h
 ·omega
 ·exact h.2.2⟩
def ListAt (H:Hp) (l:Addr) (fs:List (Addr×M4)):Prop:=H l=some (.lst (fs.map λa=>V.ref a.1))/\RowsAt H fs
theorem ListAt.same {H H':Hp}{l:Addr}{fs:List (Addr×M4)} (h:ListAt H l fs) (s:Same H H'):ListAt H' l fs:=⟨s _ _ h.1,h.2.tups (Tups.same s)⟩
end Sm
namespace Sm
open PySem L2 SmSort
end Sm
namespace SmSet
open PySem
theorem below_go {xs:Array Nat}{j:Nat} (so:xs.toList.Pairwise (· < ·)):∀ (fuel lo hi:Nat),hi - lo<=fuel->lo<=hi->hi<=xs.size->(∀ i (h:i < xs.size),i < lo->xs[i] < j)->(∀ i (h:i < xs.size),hi<=i->j<=xs[i]) ->
  SetTable.below.go xs j fuel lo hi<=xs.size/\(∀ i (h:i < xs.size),i < SetTable.below.go xs j fuel lo hi->xs[i] < j)/\∀ i (h:i < xs.size),SetTable.below.go xs j fuel lo hi<=i->j<=xs[i]
 | 0,lo,hi,hf,h1,h2,hl,hh=>by
  have:lo=hi:=by omega
  subst this
  unfold SetTable.below.go
  exact ⟨h2,hl,hh⟩
 | fuel + 1,lo,hi,hf,h1,h2,hl,hh=>by
  unfold SetTable.below.go
  have mono:∀ a b (ha:a < xs.size) (hb:b < xs.size),a < b->xs[a] < xs[b]:=λa b ha hb ab=>by
   have:=zt.mp so a b (by simpa using ha) (by simpa using hb) ab
   simpa using this
  by_cases c:lo < hi
  ·rw [if_pos c]
   dsimp only
   have hm:(lo + hi) / 2 < xs.size:=by omega
   have e:xs.getD ((lo + hi) / 2) j=xs[(lo + hi) / 2]:=by simp [Array.getD,hm]
   rw [e]
   by_cases d:xs[(lo + hi) / 2] < j
   ·rw [if_pos d]
    refine below_go so fuel _ _ (by omega) (by omega) h2 (λi h hi'=>?_) hh
    by_cases q:i=(lo + hi) / 2
    ·subst q;exact d
    ·exact Nat.lt_trans (mono i ((lo + hi) / 2) h hm (by omega)) d
   ·rw [if_neg d]
    refine below_go so fuel _ _ (by omega) (by omega) (by omega) hl (λi h hi'=>?_)
    by_cases q:i=(lo + hi) / 2
    ·subst q;omega
    ·have:=mono ((lo + hi) / 2) i hm h (by omega)
     omega
  ·rw [if_neg c]
   have:lo=hi:=by omega
   subst this
   exact ⟨h2,hl,hh⟩
theorem below_spec {xs:Array Nat}{j:Nat} (so:xs.toList.Pairwise (· < ·)):SetTable.below xs j<=xs.size/\(∀ i (h:i < xs.size),i < SetTable.below xs j->xs[i] < j)/\∀ i (h:i < xs.size),SetTable.below xs j<=i->j<=xs[i]:=
 below_go so _ _ _ (by omega) (by omega) (zD _) (λ_ _ h=>absurd h (yI _)) (λi h hi=>absurd h (by omega))
theorem below_at {xs:Array Nat}{j i:Nat} (so:xs.toList.Pairwise (· < ·)) (h:xs[i]?=some j):SetTable.below xs j=i:=by
 obtain ⟨hi,e⟩:=Array.getElem?_eq_some_iff.mp h
 obtain ⟨b1,b2,b3⟩:=below_spec (j:=j) so
 rcases Nat.lt_trichotomy (SetTable.below xs j) i with c | c | c
 ·have hb:SetTable.below xs j < xs.size:=by omega
  have:=b3 _ hb (zD _)
  have m:=zt.mp so (SetTable.below xs j) i (by simpa using hb) (by simpa using hi) c
  simp only [Array.getElem_toList] at m
  omega
 ·exact c
 ·have:=b2 i hi c
  omega
theorem slot_live {t:SetTable}{j i:Nat} (so:t.place.toList.Pairwise (· < ·)) (h:t.place[i]?=some j):t.slot j=.live i:=by
 unfold SetTable.slot
 dsimp only
 rw [below_at so h,h]
 simp
theorem slot_empty {t:SetTable}{j:Nat} (nd:t.dummies=#[]) (h:j ∉ t.place.toList):t.slot j=.empty:=by
 unfold SetTable.slot
 dsimp only
 rw [if_neg,if_neg]
 ·rw [nd]
  unfold SetTable.has
  simp
 ·intro c
  have:t.place[SetTable.below t.place j]?=some j:=by simpa using c
  exact h (by simpa using Array.mem_of_getElem? this)
def adv (m:Nat) (p:SetTable.Probe):SetTable.Probe:=
 if p.more > 0 then { p with j:=p.j + 1,more:=p.more - 1 } else
 { p with j:=(SetTable.leap m p.i p.perturb).1,more:=SetTable.runEnd m (SetTable.leap m p.i p.perturb).1 - (SetTable.leap m p.i p.perturb).1,i:=(SetTable.leap m p.i p.perturb).1,perturb:=(SetTable.leap m p.i p.perturb).2 }
theorem advance_eq (t:SetTable) (p:SetTable.Probe):t.advance p=adv t.mask p:=rfl
def run (m i u:Nat):SetTable.Probe:={ j:=i,more:=SetTable.runEnd m i - i,i,perturb:=u,dummy:=none }
def start (m:Nat) (h:Int):SetTable.Probe:=run m (SetTable.bits h % (m + 1)) (SetTable.bits h)
def ad (m:Nat):Nat->SetTable.Probe->SetTable.Probe
 | 0,p=>p
 | n + 1,p=>ad m n (adv m p)
theorem ad_succ (m n:Nat) (p:SetTable.Probe):ad m (n + 1) p=adv m (ad m n p):=by
 induction n generalizing p with
 | zero=>rfl
 | succ n ih=>exact ih (adv m p)
theorem ad_add (m a b:Nat) (p:SetTable.Probe):ad m (a + b) p=ad m b (ad m a p):=by
 induction a generalizing p with
 | zero=>rw [yq];rfl
 | succ a ih=>rw [Nat.succ_add];exact ih (adv m p)
theorem adv_dummy {m:Nat}{p:SetTable.Probe}:(adv m p).dummy=p.dummy:=by unfold adv;split <;> rfl
theorem ad_dummy {m:Nat}:∀ {n:Nat}{p:SetTable.Probe},(ad m n p).dummy=p.dummy
 | 0,_=>rfl
 | n + 1,p=>(ad_dummy (n:=n)).trans adv_dummy
def at' (m:Nat) (h:Int) (n:Nat):Nat:=(ad m n (start m h)).j
theorem ad_in_run {m i u:Nat}:∀ k,k<=SetTable.runEnd m i - i->ad m k (run m i u)={ j:=i + k,more:=SetTable.runEnd m i - i - k,i,perturb:=u,dummy:=none }
 | 0,_=>rfl
 | k + 1,h=>by
  rw [ad_succ,ad_in_run k (by omega)]
  unfold adv
  dsimp only
  rw [if_pos (by omega)]
  rfl
theorem ad_next_run {m i u:Nat}:ad m (SetTable.runEnd m i - i + 1) (run m i u)=run m ((i * 5 + 1 + u / 32) % (m + 1)) (u / 32):=by
 rw [ad_succ,ad_in_run _ (zD _)]
 unfold adv
 dsimp only
 rw [if_neg (by omega)]
 rfl
theorem runEnd_le {m i:Nat}:SetTable.runEnd m i - i<=9/\i<=SetTable.runEnd m i/\(i<=m->SetTable.runEnd m i<=m):=by
 unfold SetTable.runEnd
 split <;> omega
def runs (m:Nat):Nat->Nat->Nat->Nat×Nat
 | 0,i,u=>(i,u)
 | r + 1,i,u=>runs m r ((i * 5 + 1 + u / 32) % (m + 1)) (u / 32)
theorem runs_at {m:Nat}:∀ (r i u:Nat),∃ c,c<=10 * r/\ad m c (run m i u)=run m (runs m r i u).1 (runs m r i u).2
 | 0,i,u=>⟨0,zD _,rfl⟩
 | r + 1,i,u=>by
  obtain ⟨c,hc,e⟩:=runs_at r ((i * 5 + 1 + u / 32) % (m + 1)) (u / 32)
  refine ⟨SetTable.runEnd m i - i + 1 + c,?_,?_⟩
  ·have:=(runEnd_le (m:=m) (i:=i)).1;omega
  ·rw [ad_add,ad_next_run,e];rfl
theorem runs_add {m:Nat}:∀ (a b i u:Nat),runs m (a + b) i u=runs m b (runs m a i u).1 (runs m a i u).2
 | 0,b,i,u=>by rw [yq];rfl
 | a + 1,b,i,u=>by rw [Nat.succ_add];exact runs_add a b _ _
theorem runs_perturb {m:Nat}:∀ (r i u:Nat),(runs m r i u).2=u / 32 ^ r
 | 0,i,u=>by simp [runs]
 | r + 1,i,u=>by
  show (runs m r _ (u / 32)).2=_
  rw [runs_perturb r,Nat.div_div_eq_div_mul,Nat.pow_succ,Nat.mul_comm]
theorem runs_small {m:Nat}:∀ (r i u:Nat),i<=m->(runs m r i u).1<=m
 | 0,i,u,h=>h
 | r + 1,i,u,h=>runs_small r _ _ (yT.mp (Nat.mod_lt _ (by omega)))
def f5 (m:Nat):Nat->Nat->Nat
 | 0,i=>i
 | s + 1,i=>f5 m s ((i * 5 + 1) % (m + 1))
theorem runs_f5 {m:Nat}:∀ (s i:Nat),(runs m s i 0).1=f5 m s i
 | 0,i=>rfl
 | s + 1,i=>by
  show (runs m s ((i * 5 + 1 + 0 / 32) % (m + 1)) (0 / 32)).1=f5 m s ((i * 5 + 1) % (m + 1))
  rw [Nat.zero_div,Nat.add_zero]
  exact runs_f5 s _
theorem f5_add {m:Nat}:∀ (a b i:Nat),f5 m (a + b) i=f5 m b (f5 m a i)
 | 0,b,i=>by rw [yq];rfl
 | a + 1,b,i=>by rw [Nat.succ_add];exact f5_add a b _
def bitsOf (m:Nat):Nat->Nat->Nat->Nat
 | 0,_,acc=>acc
 | s + 1,i,acc=>bitsOf m s ((i * 5 + 1) % (m + 1)) (acc ||| (2 ^ i))
theorem bitsOf_spec {m j:Nat}:∀ (s i acc:Nat),(bitsOf m s i acc).testBit j=true->acc.testBit j=true\/∃ a,a < s/\f5 m a i=j
 | 0,i,acc,h=>.inl h
 | s + 1,i,acc,h=>by
  rcases bitsOf_spec s _ _ h with h | ⟨a,ha,e⟩
  ·rw [Nat.testBit_or,Bool.or_eq_true] at h
   rcases h with h | h
   ·exact .inl h
   ·rw [Nat.testBit_two_pow] at h
    exact .inr ⟨0,by omega,of_decide_eq_true h⟩
  ·exact .inr ⟨a + 1,by omega,e⟩
def Mask (m:Nat):Prop:=m=7\/m=31\/m=127\/m=511\/m=2047\/m=8191
theorem cover0 {m:Nat} (hm:Mask m):f5 m (m + 1) 0=0/\∀ j,j<=m->∃ a,a<=m/\f5 m a 0=j:=by
 have key:f5 m (m + 1) 0=0/\bitsOf m (m + 1) 0 0=2 ^ (m + 1) - 1:=by
  rcases hm with rfl | rfl | rfl | rfl | rfl | rfl <;> constructor <;> decide +kernel
 refine ⟨key.1,λj hj=>?_⟩
 have:(bitsOf m (m + 1) 0 0).testBit j=true:=by
  rw [key.2,Nat.testBit_two_pow_sub_one]
  exact decide_eq_true (by omega)
 rcases bitsOf_spec _ _ _ this with h | ⟨a,ha,e⟩
 ·simp at h
 ·exact ⟨a,by omega,e⟩
theorem cover {m i j:Nat} (hm:Mask m) (hi:i<=m) (hj:j<=m):∃ s,s<=m/\f5 m s i=j:=by
 obtain ⟨z,all⟩:=cover0 hm
 obtain ⟨a,ha,rfl⟩:=all i hi
 obtain ⟨b,hb,rfl⟩:=all j hj
 by_cases c:a<=b
 ·exact ⟨b - a,by omega,by rw [<-f5_add];congr 1;omega⟩
 ·refine ⟨b + (m + 1) - a,by omega,?_⟩
  rw [<-f5_add,show a + (b + (m + 1) - a)=(m + 1) + b from by omega,f5_add,z]
theorem reach {m i u j:Nat} (hm:Mask m) (hi:i<=m) (hu:u < 2 ^ 64) (hj:j<=m):∃ r,r<=m + 13/\(runs m r i u).1=j:=by
 have p0:(runs m 13 i u).2=0:=by
  rw [runs_perturb]
  exact Nat.div_eq_of_lt (zQ hu (by decide))
 obtain ⟨s,hs,e⟩:=cover hm (runs_small 13 i u hi) hj
 refine ⟨13 + s,by omega,?_⟩
 rw [runs_add,p0,runs_f5,e]
theorem bits_lt (h:Int):SetTable.bits h < 2 ^ 64:=by
 unfold SetTable.bits
 have a:=yN h (show (2 ^ 64:Int)≠0 by decide)
 have b:=yB h (show (0:Int) < 2 ^ 64 by decide)
 have c:((h % 2 ^ 64).toNat:Int)=h % 2 ^ 64:=Int.toNat_of_nonneg a
 have d:((2 ^ 64:Nat):Int)=(2:Int) ^ 64:=by decide
 omega
theorem reach_at {m j:Nat}{h:Int} (hm:Mask m) (hj:j<=m):∃ n,n<=10 * (m + 13)/\at' m h n=j:=by
 obtain ⟨r,hr,e⟩:=reach (u:=SetTable.bits h) hm (yT.mp (Nat.mod_lt (SetTable.bits h) (show 0 < m + 1 by omega))) (bits_lt h) hj
 obtain ⟨c,hc,e2⟩:=runs_at (m:=m) r (SetTable.bits h % (m + 1)) (SetTable.bits h)
 refine ⟨c,by omega,?_⟩
 unfold at' start
 rw [e2,e];rfl
theorem least {P:Nat->Prop}:∀ n,P n->∃ k,k<=n/\P k/\∀ i,i < k->¬ P i:=by
 intro n
 induction n using Nat.strongRecOn with
 | _ n ih=>
  intro h
  by_cases c:∃ i,i < n/\P i
  ·obtain ⟨i,hi,pi⟩:=c
   obtain ⟨k,hk,pk,al⟩:=ih i hi pi
   exact ⟨k,by omega,pk,al⟩
  ·exact ⟨n,zD _,h,λi hi pi=>c ⟨i,hi,pi⟩⟩
theorem first_free {m:Nat}{O:Nat->Prop} (h:Int) (hm:Mask m) (he:∃ j,j<=m/\¬ O j):∃ N,N<=10 * (m + 13)/\¬ O (at' m h N)/\∀ n,n < N->O (at' m h n):=by
 obtain ⟨j,hj,no⟩:=he
 obtain ⟨n,hn,e⟩:=reach_at (h:=h) hm hj
 obtain ⟨k,hk,pk,al⟩:=least (P:=λn=>¬ O (at' m h n)) n (by rw [e];exact no)
 exact ⟨k,by omega,pk,λi hi=>Classical.byContradiction λc=>al i hi c⟩
theorem at_le {m:Nat}{h:Int}:∀ n,at' m h n<=m:=by
 have key:∀ n,(ad m n (start m h)).j + (ad m n (start m h)).more<=m:=by
  have step:∀ p:SetTable.Probe,p.j + p.more<=m->(adv m p).j + (adv m p).more<=m:=λp hp=>by
   unfold adv
   split
   ·dsimp only;omega
   ·dsimp only
    have l:(SetTable.leap m p.i p.perturb).1<=m:=yT.mp (Nat.mod_lt _ (by omega))
    have:=runEnd_le (m:=m) (i:=(SetTable.leap m p.i p.perturb).1)
    have:=this.2.2 l
    omega
  intro n
  induction n with
  | zero=>
   show SetTable.bits h % (m + 1) + (SetTable.runEnd m (SetTable.bits h % (m + 1)) - SetTable.bits h % (m + 1))<=m
   have l:SetTable.bits h % (m + 1)<=m:=yT.mp (Nat.mod_lt _ (by omega))
   have:=runEnd_le (m:=m) (i:=SetTable.bits h % (m + 1))
   have:=this.2.2 l
   omega
  | succ n ih=>rw [ad_succ];exact step _ ih
 intro n
 have:=key n
 unfold at'
 omega
end SmSet
namespace SmSet
open PySem
structure Tab (t:SetTable) (es:Array (Int×Value)):Prop where
 mask:Mask t.mask
 nd:t.dummies=#[]
 so:t.place.toList.Pairwise (· < ·)
 sz:t.place.size=es.size
 small:∀ j∈t.place.toList,j<=t.mask
 light:es.size * 5 < t.mask * 3
 way:∀ i (h:i < es.size),∃ n,t.place[i]?=some (at' t.mask es[i].1 n)/\∀ n',n' < n->at' t.mask es[i].1 n'∈t.place.toList
theorem Tab.room {t:SetTable}{es:Array (Int×Value)} (T:Tab t es):es.size<=t.mask:=by have:=T.light;omega
theorem Tab.fits {t:SetTable}{es:Array (Int×Value)} (T:Tab t es):t.fits es.size=true:=by
 unfold SetTable.fits SetTable.fill
 have:=T.room
 rw [T.sz,T.nd]
 simp
 exact this
theorem Tab.odd {t:SetTable}{es:Array (Int×Value)} (T:Tab t es):t.gaveWay=false:=by
 unfold SetTable.gaveWay
 rcases T.mask with h | h | h | h | h | h <;> rw [h] <;> rfl
theorem as_long:∀ (n:Nat) (l:List Nat),(∀ j,j < n->j∈l)->n<=l.length
 | 0,_,_=>zf _
 | n + 1,l,h=>by
  have:=as_long n (l.erase n) λj hj=>(List.mem_erase_of_ne (by omega)).mpr (h j (by omega))
  rw [List.length_erase_of_mem (h n (by omega))] at this
  have:=List.length_pos_of_mem (h n (by omega))
  omega
theorem left_out {l:List Nat}{m:Nat} (h:l.length<=m):∃ j,j<=m/\j ∉ l:=by
 refine Classical.byContradiction λc=>?_
 have:=as_long (m + 1) l λj hj=>Classical.byContradiction λz=>c ⟨j,by omega,z⟩
 omega
theorem Tab.left {t:SetTable}{es:Array (Int×Value)} (T:Tab t es):∃ j,j<=t.mask/\¬ j∈t.place.toList:=by
 have:=left_out (l:=t.place.toList) (m:=t.mask) (by rw [Array.length_toList,T.sz];exact T.room)
 exact this
theorem Tab.first {t:SetTable}{es:Array (Int×Value)} (T:Tab t es) (h:Int):∃ N,N<=10 * (t.mask + 13)/\¬ at' t.mask h N∈t.place.toList/\∀ n,n < N->at' t.mask h n∈t.place.toList:=first_free h T.mask T.left
theorem at_index {t:SetTable}{j:Nat} (h:j∈t.place.toList):∃ i:Nat,t.place[i]?=some j:=by
 obtain ⟨i,hi,e⟩:=yo h
 exact ⟨i,by rw [<-Array.getElem?_toList,zJ hi,e]⟩
theorem probe_go {t:SetTable}{es:Array (Int×Value)} (T:Tab t es) {hashAt:Nat->Int}{h:Int}{N:Nat} (hN:¬ at' t.mask h N∈t.place.toList) (hall:∀ n,n < N->at' t.mask h n∈t.place.toList) :
  ∀ (d k fuel:Nat),N - k=d->k<=N->d < fuel ->
   (∃ n i,k<=n/\n < N/\t.place[i]?=some (at' t.mask h n)/\hashAt i=h/\(∀ n',k<=n'->n' < n->∀ i',t.place[i']?=some (at' t.mask h n')->hashAt i'≠h)/\SetTable.probe.go t hashAt h fuel (ad t.mask k (start t.mask h))=some (.candidate (at' t.mask h n) i (ad t.mask (n + 1) (start t.mask h)))) \/
   ((∀ n',k<=n'->n' < N->∀ i',t.place[i']?=some (at' t.mask h n')->hashAt i'≠h)/\SetTable.probe.go t hashAt h fuel (ad t.mask k (start t.mask h))=some (.empty (at' t.mask h N) none))
 | d,k,0,e,hk,hf=>absurd hf (yI _)
 | 0,k,fuel + 1,e,hk,hf=>by
  have:k=N:=by omega
  subst this
  refine .inr ⟨λn' h1 h2=>absurd h1 (by omega),?_⟩
  unfold SetTable.probe.go
  rw [show (ad t.mask k (start t.mask h)).j=at' t.mask h k from rfl,slot_empty T.nd hN]
  dsimp only
  rw [ad_dummy]
  rfl
 | d + 1,k,fuel + 1,e,hk,hf=>by
  obtain ⟨i,hi⟩:=at_index (hall k (by omega))
  by_cases c:hashAt i=h
  ·refine .inl ⟨k,i,zD _,by omega,hi,c,λn' h1 h2=>absurd h1 (by omega),?_⟩
   unfold SetTable.probe.go
   rw [show (ad t.mask k (start t.mask h)).j=at' t.mask h k from rfl,slot_live T.so hi]
   dsimp only
   rw [if_pos (by rw [c];simp),advance_eq,<- ad_succ]
  ·have step:SetTable.probe.go t hashAt h (fuel + 1) (ad t.mask k (start t.mask h))=SetTable.probe.go t hashAt h fuel (ad t.mask (k + 1) (start t.mask h)):=by
    conv=>lhs;unfold SetTable.probe.go
    rw [show (ad t.mask k (start t.mask h)).j=at' t.mask h k from rfl,slot_live T.so hi]
    dsimp only
    rw [if_neg (by simpa using c),advance_eq,<- ad_succ]
   have here:∀ i',t.place[i']?=some (at' t.mask h k)->hashAt i'≠h:=λi' hi'=>by
    have:=(below_at T.so hi').symm.trans (below_at T.so hi)
    rw [this];exact c
   rw [step]
   rcases probe_go T hN hall d (k + 1) fuel (by omega) (by omega) (by omega) with ⟨n,i2,a1,a2,a3,a4,a5,a6⟩ | ⟨a1,a2⟩
   ·refine .inl ⟨n,i2,by omega,a2,a3,a4,λn' h1 h2 i' hi'=>?_,a6⟩
    by_cases q:n'=k
    ·subst q;exact here i' hi'
    ·exact a5 n' (by omega) h2 i' hi'
   ·refine .inr ⟨λn' h1 h2 i' hi'=>?_,a2⟩
    by_cases q:n'=k
    ·subst q;exact here i' hi'
    ·exact a1 n' (by omega) h2 i' hi'
end SmSet
namespace SmSet
open PySem
section
variable {prog:Program}{w:World}{K:Type} [DecidableEq K] {knd:HeapKind prog w K}{A:Around}{E:Value->Shared->Prop}{s:Shared}{a:Addr}
def Keys (knd:HeapKind prog w K) (h:Heap) (es:Array (Int×Value)) (ks:Nat->K):Prop:=∀ i (hi:i < es.size),∃ b,es[i]=(knd.hash (ks i),.ref b)/\knd.is h (ks i) b
def Calm (knd:HeapKind prog w K) (A:Around) (s:Shared):Prop:=∀ (k:K) (b:Addr),knd.is s.heap k b->∀ (E:Value->Shared->Prop) (Q:Bool->Shared->Prop),Q false s->wpAny (model prog w) A (ofAClassStatement 8 (.ref b)) Q E s
theorem not_seen {k:K}{c:Addr} (hk:knd.is s.heap k c) (cl:Calm knd A s):∀ (ys:List Value),(∀ y∈ys,∃ k b,y=.ref b/\knd.is s.heap k b)->∀ {Q:Bool->Shared->Prop},Q false s->wpAny (model prog w) A (searchCouldBeSeen (.ref c) ys) Q E s:=by
 intro ys hy Q q
 unfold searchCouldBeSeen
 refine wpAny_bind ?_
 refine wpAny_forIn_list _ (λrest r s'=>r.1=none/\s'=s/\∀ y∈rest,∃ k b,y=.ref b/\knd.is s.heap k b) _ ?_ ?_ _ _ ⟨rfl,rfl,hy⟩
 ·rintro y rest r s' ⟨hr,rfl,hall⟩
  obtain ⟨k2,b,rfl,hb⟩:=hall _ zd
  have next:∀ u∈rest,∃ k b,u=Value.ref b/\knd.is s'.heap k b:=λu hu=>hall u (zb _ hu)
  dsimp only
  split
  ·exact wpAny_pure ⟨rfl,rfl,next⟩
  ·refine wpAny_bind (knd.quiet hk ?_)
   simp only [Bool.not_true,zc,if_false]
   refine wpAny_bind (knd.quiet hb ?_)
   simp only [Bool.not_true,zc,if_false]
   refine wpAny_bind (cl _ _ hk _ _ ?_)
   simp only [zc,if_false]
   refine wpAny_bind (cl _ _ hb _ _ ?_)
   simp only [zc,if_false]
   exact wpAny_pure ⟨rfl,rfl,next⟩
 ·rintro ⟨r1,r2⟩ s' ⟨hr,rfl,_⟩
  simp only at hr
  subst hr
  exact wpAny_pure q
theorem search {o:Obj}{es:Array (Int×Value)}{ep:Nat}{t:SetTable}{ks:Nat->K}{kx:K}{c:Addr}{adding:Bool}{Q:SetFound->Shared->Prop} (hr:knd.room A) (ho:s.heap.get? a=some o) (hd:o.data=.set es ep t) (T:Tab t es) (ke:Keys knd s.heap es ks) (hx:knd.is s.heap kx c) (cl:Calm knd A s)
  (qt:∀ r:Option Nat,(r=none->adding=true)->(∃ i,i < es.size/\ks i=kx)->Q (.there r) s) {N:Nat} (hN:¬ at' t.mask (knd.hash kx) N∈t.place.toList) (hall:∀ n,n < N->at' t.mask (knd.hash kx) n∈t.place.toList) (hNb:N<=10 * (t.mask + 13))
  (qf:(∀ i,i < es.size->ks i≠kx)->Q (.free (at' t.mask (knd.hash kx) N) false) s) :
  ∀ (fuel k:Nat) (st:Option SetTable.Probe),N - k < fuel->k<=N->st.getD (t.probeStart (knd.hash kx))=ad t.mask k (start t.mask (knd.hash kx))->(∀ n',n' < k->∀ i',t.place[i']?=some (at' t.mask (knd.hash kx) n')->ks i'≠kx) ->
   wpAny (model prog w) A (setSearchFrom a (.ref c) (knd.hash kx) adding fuel st) Q E s
 | 0,k,st,hf,_,_,_=>absurd hf (yI _)
 | fuel + 1,k,st,hf,hk,hst,prev=>by
  unfold setSearchFrom
  refine wpAny_bind (wpAny_setState_of ho hd T.fits ?_)
  dsimp only
  rw [T.odd,hst]
  simp only [zc,if_false]
  unfold SetTable.probe
  rcases probe_go T hN hall (hashAt:=λi=>((es[i]?).map (·.1)).getD 0) _ k (10 * SetTable.turns t.mask) rfl hk (by unfold SetTable.turns;omega) with ⟨n,i,a1,a2,a3,a4,a5,a6⟩ | ⟨a1,a2⟩
  ·generalize hp:SetTable.probe.go t _ (knd.hash kx) (10 * SetTable.turns t.mask) (ad t.mask k (start t.mask (knd.hash kx)))=pr
   have e:=hp.symm.trans a6
   subst e
   have hi:i < es.size:=by
    have:=(Array.getElem?_eq_some_iff.mp a3).1
    rw [T.sz] at this;exact this
   obtain ⟨b,eb,hb⟩:=ke i hi
   have eg:es[i]?=some (knd.hash (ks i),.ref b):=by rw [<-eb];exact Array.getElem?_eq_getElem hi
   dsimp only
   rw [eg]
   dsimp only
   have sl:=slot_live T.so a3
   have mem:t.sameMemory t.moves t.mask=some true:=by simp [SetTable.sameMemory]
   have again:=search (adding:=adding) hr ho hd T ke hx cl qt hN hall hNb qf fuel (n + 1) (some (ad t.mask (n + 1) (start t.mask (knd.hash kx)))) (by omega) (by omega) rfl
   have more:ks i≠kx->∀ n',n' < n + 1->∀ i',t.place[i']?=some (at' t.mask (knd.hash kx) n')->ks i'≠kx:=λne n' hn i' hi'=>by
    by_cases q:n' < k
    ·exact prev n' q i' hi'
    by_cases q2:n'=n
    ·subst q2
     have:=(below_at T.so hi').symm.trans (below_at T.so a3)
     rw [this];exact ne
    ·intro z
     have hl:i' < es.size:=by
      have:=(Array.getElem?_eq_some_iff.mp hi').1
      rw [T.sz] at this;exact this
     obtain ⟨b',eb',_⟩:=ke i' hl
     exact a5 n' (by omega) (by omega) i' hi' (by simp [eb',hl,z])
   have stored:∀ y∈List.map (λx=>x.snd) (Array.filter (λx=>x.fst == knd.hash kx) es).toList,∃ k b,y=Value.ref b/\knd.is s.heap k b:=λy hy=>by
    obtain ⟨e,he,rfl⟩:=zO.mp hy
    have he:e∈es:=by
     have:e∈es/\e.fst=knd.hash kx:=by simpa using he
     exact this.1
    obtain ⟨j,hj,rfl⟩:=Array.getElem_of_mem he
    obtain ⟨b',eb',hb'⟩:=ke j hj
    exact ⟨_,b',by rw [eb'],hb'⟩
   split
   ·refine wpAny_bind (not_seen hx cl _ stored ?_)
    simp only [zc,if_false]
    refine wpAny_bind (wpAny_holding (knd.eqBool hr hb hx ?_))
    refine wpAny_bind (wpAny_setState_of ho hd T.fits ?_)
    dsimp only
    rw [mem]
    dsimp only
    rw [if_pos (show (true=true) from rfl),sl]
    dsimp only
    rw [eg]
    dsimp only
    by_cases q:ks i=kx
    ·rw [decide_eq_true q]
     cases adding with
     | true=>exact wpAny_pure (qt _ (λ_=>rfl) ⟨i,hi,q⟩)
     | false=>
      simp only [yM,zc,if_false]
      refine wpAny_bind (wpAny_isSame_ref_self ?_)
      exact wpAny_pure (qt _ (λz=>by cases z) ⟨i,hi,q⟩)
    ·rw [decide_eq_false q]
     simp only [yt,zc,if_false]
     refine wpAny_bind (wpAny_isSame_ref_self ?_)
     exact again (more q)
   ·refine wpAny_bind (wpAny_holding (knd.eqBool hr hb hx ?_))
    refine wpAny_bind (wpAny_setState_of ho hd T.fits ?_)
    dsimp only
    rw [mem]
    dsimp only
    rw [if_pos (show (true=true) from rfl),sl]
    dsimp only
    rw [eg]
    dsimp only
    by_cases q:ks i=kx
    ·rw [decide_eq_true q]
     cases adding with
     | true=>exact wpAny_pure (qt _ (λ_=>rfl) ⟨i,hi,q⟩)
     | false=>
      simp only [yM,zc,if_false]
      refine wpAny_bind (wpAny_isSame_ref_self ?_)
      exact wpAny_pure (qt _ (λz=>by cases z) ⟨i,hi,q⟩)
    ·rw [decide_eq_false q]
     simp only [yt,zc,if_false]
     refine wpAny_bind (wpAny_isSame_ref_self ?_)
     exact again (more q)
  ·generalize hp:SetTable.probe.go t _ (knd.hash kx) (10 * SetTable.turns t.mask) (ad t.mask k (start t.mask (knd.hash kx)))=pr
   have e:=hp.symm.trans a2
   subst e
   dsimp only
   refine wpAny_pure (qf λi hi z=>?_)
   obtain ⟨m,hm,al⟩:=T.way i hi
   obtain ⟨b,eb,_⟩:=ke i hi
   rw [eb] at hm al
   dsimp only at hm al
   rw [z] at hm al
   have mN:m < N:=Classical.byContradiction λc=>by
    by_cases q:N=m
    ·subst q
     exact hN (by simpa using Array.mem_of_getElem? hm)
    ·exact hN (al N (by omega))
   by_cases q:m < k
   ·exact prev m q i hm z
   ·refine a1 m (by omega) mN i hm ?_
    simp [eb,hi,z]
structure SetT (knd:HeapKind prog w K) (h:Heap) (a:Addr) (es:Array (Int×Value)) (ep:Nat) (t:SetTable) (ks:Nat->K):Prop where
 obj:h.get? a=some { cls:=.type "set", data:=.set es ep t }
 tab:Tab t es
 keys:Keys knd h es ks
theorem find {es:Array (Int×Value)}{ep:Nat}{t:SetTable}{ks:Nat->K}{kx:K}{c:Addr}{Q:Option Nat->Shared->Prop} (hr:knd.room A) (S:SetT knd s.heap a es ep t ks) (hx:knd.is s.heap kx c) (cl:Calm knd A s)
  (qt:∀ r:Option Nat,r.isSome=true->(∃ i,i < es.size/\ks i=kx)->Q r s) (qf:(∀ i,i < es.size->ks i≠kx)->Q none s):wpAny (model prog w) A (setFind a (.ref c) (knd.hash kx)) Q E s:=by
 obtain ⟨N,n1,n2,n3⟩:=S.tab.first (knd.hash kx)
 unfold setFind setFindIn
 refine wpAny_bind (wpAny_setState_of S.obj rfl S.tab.fits ?_)
 dsimp only
 rw [show byScan (.ref c) es=false from rfl]
 simp only [zc,if_false]
 refine wpAny_bind ?_
 unfold setSearch
 have lim:10 * (t.mask + 13) < 100000:=by
  rcases S.tab.mask with h | h | h | h | h | h <;> rw [h] <;> decide
 refine search hr S.obj rfl S.tab S.keys hx cl (λr h f=>?_) n2 n3 n1 (λnf=>?_) 100000 0 none (by omega) (zf _) rfl (λn' h=>absurd h (yI _))
 ·refine wpAny_pure (qt r ?_ f)
  cases r with
  | none=>cases h rfl
  | some i=>rfl
 ·exact wpAny_pure (qf nf)
theorem set_typeIs {es:Array (Int×Value)}{ep:Nat}{t:SetTable}{ks:Nat->K} (S:SetT knd s.heap a es ep t ks):s.TypeIs (.ref a) "set" := ⟨_,S.obj,rfl⟩
theorem inSet {es:Array (Int×Value)}{ep:Nat}{t:SetTable}{ks:Nat->K}{kx:K}{c:Addr}{Q:Value->Shared->Prop} (hr:knd.room A.in1) (S:SetT knd s.heap a es ep t ks) (hx:knd.is s.heap kx c) (cl:∀ B (s':Shared),s'.heap=s.heap->Calm knd B s')
  (qt:(∃ i,i < es.size/\ks i=kx)->Q (.bool true) { s with toks:=s.toks + knd.draws kx }) (qf:(∀ i,i < es.size->ks i≠kx)->Q (.bool false) { s with toks:=s.toks + knd.draws kx }):wpAny (model prog w) A (compareOp .In (.ref c) (.ref a)) Q E s:=by
 have hT:=set_typeIs S
 show wpAny _ _ (do return .bool (<- contains (.ref a) (.ref c))) Q E s
 refine wpAny_bind ?_
 unfold contains
 try with_reducible refine wpAny_holding ?_
 refine wpAny_bind (wpAny_specialOf hT F.slot_set_contains.lookup ?_)
 show wpAny _ _ (if (some (Value.builtin "set.__contains__") == some Value.none)=true then _ else _) _ E s
 rw [if_neg (by rw [beq_builtin_none];exact zL)]
 refine wpAny_bind (wpAny_callSpecialUnlessNone?_slot (name:=Str.ofString "__contains__") hT F.slot_set_contains
  (wpAny_call_entry F.slot_set_contains hT entry_set_contains ?_ (F.args_set_contains_2 _ _)))
 unfold Builtin.«frozenset.__contains__» Builtin.Frozenset.oneOther
 simp only [List.isEmpty_nil,bind_assoc]
 unfold Builtin.Frozenset.addrOf Builtin.Frozenset.withSetAsKey setContains
 refine wpAny_bind (wpAny_pure ?_)
 try dsimp only
 refine wpAny_bind (wpAny_pure ?_)
 try dsimp only
 refine wpAny_bind (wpAny_tryCatch ?_)
 refine wpAny_holding ?_
 refine wpAny_bind (knd.pyHash hr hx ?_)
 refine wpAny_bind (find (s:={ s with toks:=s.toks + knd.draws kx }) hr ⟨S.obj,S.tab,S.keys⟩ hx (cl _ _ rfl) (λr hs f=>?_) (λnf=>?_))
 ·refine wpAny_pure ?_
  show wpAny _ _ (ret (Value.bool r.isSome)) _ _ _
  rw [hs]
  exact wpAny_pure ⟨_,rfl,wpAny_truthy_bool (wpAny_pure (qt f))⟩
 ·refine wpAny_pure ?_
  show wpAny _ _ (ret (Value.bool false)) _ _ _
  exact wpAny_pure ⟨_,rfl,wpAny_truthy_bool (wpAny_pure (qf nf))⟩
end
end SmSet
namespace SmSet
open PySem
theorem insert_get {α:Type}{l:List α}{p:Nat}{x:α} (hp:p<=l.length) (i:Nat):(l.take p++x::l.drop p)[i]?=if i < p then l[i]? else if i=p then some x else l[i - 1]?:=by
 have lt:(l.take p).length=p:=by rw [zY];omega
 by_cases c:i < p
 ·rw [if_pos c,yK (by omega),List.getElem?_take_of_lt c]
 ·rw [if_neg c,yG (by omega),lt]
  by_cases d:i=p
  ·rw [if_pos d,d,Nat.sub_self];rfl
  ·rw [if_neg d,show i - p=(i - p - 1) + 1 from by omega,yF,List.getElem?_drop]
   congr 1;omega
theorem Tab.put {t:SetTable}{es:Array (Int×Value)} (T:Tab t es) {h:Int}{x:Value}{N:Nat} (hN:¬ at' t.mask h N∈t.place.toList) (hall:∀ n,n < N->at' t.mask h n∈t.place.toList) (pl:Bool) :
  (((es.size + 1) * 5 < t.mask * 3)->Tab { (t.put (at' t.mask h N)).1 with plain:=pl } (SetTable.insertAt es (t.put (at' t.mask h N)).2 (h,x)))/\(t.put (at' t.mask h N)).1.dummies=#[]/\(t.put (at' t.mask h N)).1.mask=t.mask/\(t.put (at' t.mask h N)).1.place.size=es.size + 1:=by
 have e1:(t.put (at' t.mask h N)).1={ t with place:=SetTable.insertAt t.place (SetTable.below t.place (at' t.mask h N)) (at' t.mask h N) }:=by
  unfold SetTable.put
  dsimp only
  rw [T.nd]
  unfold SetTable.has
  simp
 have e2:(t.put (at' t.mask h N)).2=SetTable.below t.place (at' t.mask h N):=rfl
 rw [e1,e2]
 generalize hj:at' t.mask h N=j at *
 obtain ⟨b1,b2,b3⟩:=below_spec (j:=j) T.so
 generalize hp:SetTable.below t.place j=p at *
 have lp:(SetTable.insertAt t.place p j).toList=t.place.toList.take p++j::t.place.toList.drop p:=SetTable.toList_insertAt ..
 have le:(SetTable.insertAt es p (h,x)).toList=es.toList.take p++(h,x)::es.toList.drop p:=SetTable.toList_insertAt ..
 have p1:p<=t.place.toList.length:=by rw [Array.length_toList];exact b1
 have p2:p<=es.toList.length:=by rw [Array.length_toList,<- T.sz];exact b1
 have s1:(SetTable.insertAt t.place p j).size=es.size + 1:=by
  rw [<-Array.length_toList,lp,zI,zV,zY,ya,Array.length_toList,<- T.sz];omega
 have s2:(SetTable.insertAt es p (h,x)).size=es.size + 1:=by
  rw [<-Array.length_toList,le,zI,zV,zY,ya,Array.length_toList]
  have:=T.sz
  omega
 have mem:∀ j',j'∈(SetTable.insertAt t.place p j).toList↔j'=j\/j'∈t.place.toList:=λj'=>by
  rw [lp,zZ,zH]
  constructor
  ·rintro (h | h | h)
   ·exact .inr (List.mem_of_mem_take h)
   ·exact .inl h
   ·exact .inr (List.mem_of_mem_drop h)
  ·rintro (h | h)
   ·exact .inr (.inl h)
   ·rw [<-List.take_append_drop p t.place.toList,zZ] at h
    exact h.imp id .inr
 refine ⟨λlight=>⟨T.mask,T.nd,?_,by rw [s2];exact s1,λj' hj'=>?_,by rw [s2];exact light,λi hi=>?_⟩,T.nd,rfl,s1⟩
 ·show (SetTable.insertAt t.place p j).toList.Pairwise (· < ·)
  rw [lp,yk,List.pairwise_cons]
  refine ⟨T.so.sublist (List.take_sublist _ _),⟨λy hy=>?_,T.so.sublist (List.drop_sublist _ _)⟩,λy hy z hz=>?_⟩
  ·obtain ⟨i,hi,e⟩:=yo hy
   rw [List.getElem_drop] at e
   have hl:p + i < t.place.size:=by rw [ya,Array.length_toList] at hi;omega
   have q:=b3 (p + i) hl (by omega)
   rw [Array.getElem_toList] at e
   rw [e] at q
   have ne:y≠j:=λz=>hN (by rw [<-z];exact List.mem_of_mem_drop hy)
   omega
  ·obtain ⟨i,hi,e⟩:=yo hy
   rw [List.getElem_take] at e
   rw [zY,Array.length_toList] at hi
   have hl:i < t.place.size:=by omega
   have q:=b2 i hl (by omega)
   rw [Array.getElem_toList] at e
   rw [e] at q
   rcases zH.mp hz with z1 | z1
   ·rw [z1];exact q
   ·obtain ⟨k,hk,ek⟩:=yo z1
    rw [List.getElem_drop] at ek
    have hl':p + k < t.place.size:=by rw [ya,Array.length_toList] at hk;omega
    have q2:=b3 (p + k) hl' (by omega)
    rw [Array.getElem_toList] at ek
    rw [ek] at q2
    omega
 ·have hj':j'∈(SetTable.insertAt t.place p j).toList:=hj'
  rcases (mem j').mp hj' with z | z
  ·rw [z,<- hj];exact at_le N
  ·exact T.small j' z
 ·show ∃ n,(SetTable.insertAt t.place p j)[i]?=some (at' t.mask (SetTable.insertAt es p (h,x))[i].1 n)/\∀ n',n' < n->at' t.mask (SetTable.insertAt es p (h,x))[i].1 n'∈(SetTable.insertAt t.place p j).toList
  have ge:(SetTable.insertAt es p (h,x))[i]?=some (SetTable.insertAt es p (h,x))[i]:=Array.getElem?_eq_getElem hi
  generalize (SetTable.insertAt es p (h,x))[i]=e at ge ⊢
  rw [<-Array.getElem?_toList,le,insert_get p2] at ge
  rw [<-Array.getElem?_toList,lp,insert_get p1,<- lp]
  have old:∀ k,es.toList[k]?=some e->∃ n,t.place.toList[k]?=some (at' t.mask e.1 n)/\∀ n',n' < n->at' t.mask e.1 n'∈(SetTable.insertAt t.place p j).toList:=λk hk=>by
   rw [Array.getElem?_toList] at hk
   obtain ⟨hk',ek⟩:=Array.getElem?_eq_some_iff.mp hk
   obtain ⟨n,a1,a2⟩:=T.way k hk'
   rw [ek] at a1 a2
   exact ⟨n,by rw [Array.getElem?_toList];exact a1,λn' hn=>(mem _).mpr (.inr (a2 n' hn))⟩
  by_cases c:i < p
  ·rw [if_pos c] at ge ⊢;exact old i ge
  ·rw [if_neg c] at ge ⊢
   by_cases d:i=p
   ·rw [if_pos d] at ge ⊢
    cases ge
    exact ⟨N,by rw [hj],λn' hn=>(mem _).mpr (.inr (hall n' hn))⟩
   ·rw [if_neg d] at ge ⊢;exact old (i - 1) ge
def occ (ow:Array (Option Nat)) (j:Nat):Prop:=(ow.getD j (some 0)).isNone=false
theorem free_spec {m:Nat}{ow:Array (Option Nat)}:∀ (fuel i u:Nat),(∃ r,r < fuel/\¬ occ ow (runs m r i u).1) ->
  ∃ n,SetTable.layClean.free m ow fuel i u=some (ad m n (run m i u)).j/\¬ occ ow (ad m n (run m i u)).j/\∀ n',n' < n->occ ow (ad m n' (run m i u)).j
 | 0,i,u,⟨r,h,_⟩=>absurd h (yI _)
 | fuel + 1,i,u,⟨r,h,no⟩=>by
  unfold SetTable.layClean.free
  cases e:(List.range (SetTable.runEnd m i + 1 - i)).find? λk=>(ow.getD (i + k) (some 0)).isNone with
  | some k=>
   dsimp only
   obtain ⟨hk,hlt,before⟩:=List.find?_range_eq_some.mp e
   have hlt:k < SetTable.runEnd m i + 1 - i:=zk.mp hlt
   have inr:∀ k',k'<=k->(ad m k' (run m i u)).j=i + k':=λk' hk'=>by rw [ad_in_run k' (by omega)]
   refine ⟨k,by rw [inr k (zD _)],?_,λn' hn=>?_⟩
   ·rw [inr k (zD _)]
    unfold occ
    rw [hk];simp
   ·rw [inr n' (by omega)]
    unfold occ
    have:=before n' hn
    simpa using this
  | none=>
   dsimp only
   have all:∀ k,k < SetTable.runEnd m i + 1 - i->occ ow (i + k):=λk hk=>by
    have:=List.find?_eq_none.mp e k (zk.mpr hk)
    unfold occ
    cases q:(ow.getD (i + k) (some 0)).isNone with
    | false=>rfl
    | true=>exact absurd q this
   have r0:r≠0:=λz=>by
    subst z
    refine no ?_
    exact all 0 (by have:=(runEnd_le (m:=m) (i:=i)).2.1;omega)
   obtain ⟨r',rfl⟩:=Nat.exists_eq_succ_of_ne_zero r0
   obtain ⟨n,a1,a2,a3⟩:=free_spec fuel ((i * 5 + 1 + u / 32) % (m + 1)) (u / 32) ⟨r',by omega,no⟩
   have next:∀ n',ad m (SetTable.runEnd m i - i + 1 + n') (run m i u)=ad m n' (run m ((i * 5 + 1 + u / 32) % (m + 1)) (u / 32)):=λn'=>by rw [ad_add,ad_next_run]
   refine ⟨SetTable.runEnd m i - i + 1 + n,?_,?_,λn' hn=>?_⟩
   ·rw [next];exact a1
   ·rw [next];exact a2
   ·by_cases c:n' < SetTable.runEnd m i - i + 1
    ·rw [ad_in_run n' (by omega)]
     exact all n' (by have:=(runEnd_le (m:=m) (i:=i)).2.1;omega)
    ·rw [show n'=SetTable.runEnd m i - i + 1 + (n' - (SetTable.runEnd m i - i + 1)) from by omega,next]
     exact a3 _ (by omega)
structure Lay (m:Nat) (hs:List Int) (ow:Array (Option Nat)):Prop where
 sz:ow.size=m + 1
 each:∀ (k:Nat) (h:Int),hs[k]?=some h->∃ n,ow[at' m h n]?=some (some k)/\∀ n',n' < n->occ ow (at' m h n')
 low:∀ (j k:Nat),ow[j]?=some (some k)->k < hs.length
 one:∀ (j j' k:Nat),ow[j]?=some (some k)->ow[j']?=some (some k)->j=j'
theorem occ_iff {ow:Array (Option Nat)}{j:Nat} (h:j < ow.size):occ ow j↔∃ k,ow[j]?=some (some k):=by
 unfold occ
 rw [show ow.getD j (some 0)=ow[j] from by simp [Array.getD,h],Array.getElem?_eq_getElem h]
 cases ow[j] <;> simp
theorem Lay.left {m:Nat}{hs:List Int}{ow:Array (Option Nat)} (L:Lay m hs ow) (few:hs.length<=m):∃ j,j<=m/\¬ occ ow j:=by
 refine Classical.byContradiction λc=>?_
 have all:∀ j,j < m + 1->∃ k,ow[j]?=some (some k):=λj hj=>(occ_iff (by rw [L.sz];exact hj)).mp (Classical.byContradiction λz=>c ⟨j,by omega,z⟩)
 have pick:∀ k,∃ j,k < hs.length->ow[j]?=some (some k):=λk=>by
  by_cases hk:k < hs.length
  ·obtain ⟨n,a,_⟩:=L.each k hs[k] (zJ hk)
   exact ⟨_,λ_=>a⟩
  ·exact ⟨0,λz=>absurd z hk⟩
 have:=as_long (m + 1) ((List.range hs.length).map λk=>(pick k).choose) λj hj=>by
  obtain ⟨k,hk⟩:=all j hj
  have kl:=L.low j k hk
  exact zO.mpr ⟨k,zk.mpr kl,L.one _ _ _ ((pick k).choose_spec kl) hk⟩
 rw [zA,List.length_range] at this
 omega
theorem Lay.step {m:Nat}{hs:List Int}{ow:Array (Option Nat)} (hm:Mask m) (L:Lay m hs ow) (few:hs.length<=m) (h:Int) :
  ∃ j,SetTable.layClean.free m ow (SetTable.turns m) (SetTable.bits h % (m + 1)) (SetTable.bits h)=some j/\Lay m (hs++[h]) (ow.setIfInBounds j (some hs.length)):=by
 obtain ⟨j0,hj0,no⟩:=L.left few
 obtain ⟨r,hr,e⟩:=reach (u:=SetTable.bits h) hm (yT.mp (Nat.mod_lt (SetTable.bits h) (show 0 < m + 1 by omega))) (bits_lt h) hj0
 obtain ⟨n,a1,a2,a3⟩:=free_spec (m:=m) (ow:=ow) (SetTable.turns m) (SetTable.bits h % (m + 1)) (SetTable.bits h) ⟨r,by unfold SetTable.turns;omega,by rw [e];exact no⟩
 have ej:(ad m n (run m (SetTable.bits h % (m + 1)) (SetTable.bits h))).j=at' m h n:=rfl
 rw [ej] at a1 a2
 have a3:∀ n',n' < n->occ ow (at' m h n'):=a3
 have jl:at' m h n < ow.size:=by rw [L.sz];exact yT.mpr (at_le n)
 have get:∀ j,(ow.setIfInBounds (at' m h n) (some hs.length))[j]?=if at' m h n=j then some (some hs.length) else ow[j]?:=λj=>by
  rw [Array.getElem?_setIfInBounds]
  by_cases c:at' m h n=j
  ·rw [if_pos c,if_pos c,if_pos jl]
  ·rw [if_neg c,if_neg c]
 have keep:∀ j,occ ow j->j < ow.size->occ (ow.setIfInBounds (at' m h n) (some hs.length)) j:=λj oj hj=>by
  rw [occ_iff (by rw [Array.size_setIfInBounds];exact hj),get]
  by_cases c:at' m h n=j
  ·exact ⟨_,by rw [if_pos c]⟩
  ·rw [if_neg c];exact (occ_iff hj).mp oj
 have free:∀ k,ow[at' m h n]?≠some (some k):=λk z=>a2 ((occ_iff jl).mpr ⟨k,z⟩)
 refine ⟨_,a1,by rw [Array.size_setIfInBounds];exact L.sz,λk x hx=>?_,λj k hj=>?_,λj j' k h1 h2=>?_⟩
 ·by_cases c:k < hs.length
  ·rw [yK c] at hx
   obtain ⟨n2,b1,b2⟩:=L.each k x hx
   refine ⟨n2,?_,λn' hn=>keep _ (b2 n' hn) (by rw [L.sz];exact yT.mpr (at_le n'))⟩
   rw [get,if_neg λz=>free k (by rw [z];exact b1)]
   exact b1
  ·rw [yG (by omega)] at hx
   have:k - hs.length=0:=by
    have:=(zT.mp hx).1
    simp at this;omega
   rw [this] at hx
   cases hx
   have:k=hs.length:=by omega
   subst this
   exact ⟨n,by rw [get,if_pos rfl],λn' hn=>keep _ (a3 n' hn) (by rw [L.sz];exact yT.mpr (at_le n'))⟩
 ·rw [get] at hj
  rw [zI,zm]
  split at hj
  ·cases hj;omega
  ·have:=L.low j k hj;omega
 ·rw [get] at h1 h2
  split at h1 <;> split at h2
  ·rename_i x y;rw [<-x,<- y]
  ·cases h1;have:=L.low _ _ h2;omega
  ·cases h2;have:=L.low _ _ h1;omega
  ·exact L.one _ _ _ h1 h2
theorem lay_fold {m:Nat} (hm:Mask m):∀ (l hs:List Int) (ow:Array (Option Nat)),Lay m hs ow->hs.length + l.length<=m + 1 ->
  ∃ ow',l.foldl (λ(acc:Option (Array (Option Nat)×Nat)) h=>do
   let (owner,k) <- acc
   let j <- SetTable.layClean.free m owner (SetTable.turns m) (SetTable.bits h % (m + 1)) (SetTable.bits h)
   pure (owner.setIfInBounds j (some k),k + 1)) (some (ow,hs.length))=some (ow',hs.length + l.length)/\Lay m (hs++l) ow'
 | [],hs,ow,L,_=>⟨ow,rfl,by rw [zi];exact L⟩
 | h::l,hs,ow,L,few=>by
  obtain ⟨j,e,L'⟩:=L.step hm (by rw [zV] at few;omega) h
  have few':(hs++[h]).length + l.length<=m + 1:=by rw [zI,zm];rw [zV] at few;omega
  obtain ⟨ow',e2,L2⟩:=lay_fold hm l (hs++[h]) _ L' few'
  refine ⟨ow',?_,by rw [ym] at L2;exact L2⟩
  rw [List.foldl_cons]
  show l.foldl _ ((SetTable.layClean.free m ow (SetTable.turns m) (SetTable.bits h % (m + 1)) (SetTable.bits h)).bind λj=>some (ow.setIfInBounds j (some hs.length),hs.length + 1))=_
  rw [e]
  rw [zI,zm] at e2
  rw [zV]
  rw [show hs.length + (l.length + 1)=hs.length + 1 + l.length from by omega]
  exact e2
theorem lay_clean {m:Nat} (hm:Mask m) {hashes:Array Int} (few:hashes.size<=m + 1):∃ ow,SetTable.layClean m hashes=some ow/\Lay m hashes.toList ow:=by
 have L0:Lay m [] (Array.replicate (m + 1) none):=⟨by simp,λk h e=>(by cases e),(λj k e=>by rw [Array.getElem?_replicate] at e;split at e <;> cases e),(λj j' k e=>by rw [Array.getElem?_replicate] at e;split at e <;> cases e)⟩
 obtain ⟨ow,e,L⟩:=lay_fold hm hashes.toList [] _ L0 (by rw [zy,Array.length_toList];omega)
 refine ⟨ow,?_,by simpa using L⟩
 unfold SetTable.layClean
 rw [<-Array.foldl_toList]
 have:=congrArg (Option.map (·.1)) e
 exact this
theorem perm_of {l l':List Nat} (h:l.Nodup) (h':l'.Nodup) (e:∀ x,x∈l↔x∈l'):l.Perm l':=by
 rw [List.perm_iff_count]
 intro a
 rw [h.count,h'.count]
 by_cases c:a∈l
 ·rw [if_pos c,if_pos ((e a).mp c)]
 ·rw [if_neg c,if_neg λz=>c ((e a).mpr z)]
theorem fm_some {α β:Type}{f:α->Option β}{g:α->β}:∀ {l:List α},(∀ x∈l,f x=some (g x))->l.filterMap f=l.map g
 | [],_=>rfl
 | x::l,h=>by
  rw [List.filterMap_cons_some (h x zd),zu,fm_some λy hy=>h y (zb _ hy)]
theorem fm_pair {f:Nat->Option Nat}:∀ (l:List Nat),(l.filterMap λj=>(f j).map (j,·)).map (·.1)=l.filter λj=>(f j).isSome
 | []=>rfl
 | x::l=>by
  cases e:f x with
  | none=>rw [List.filterMap_cons_none (by rw [e];rfl),List.filter_cons_of_neg (by rw [e];simp),fm_pair l]
  | some k=>rw [List.filterMap_cons_some (b:=(x,k)) (by rw [e];rfl),List.filter_cons_of_pos (by rw [e];rfl),zu,fm_pair l]
theorem relaid_spec {t:SetTable}{es:Array (Int×Value)}{wanted m:Nat} (hw:SetTable.sizeAbove wanted - 1=m) (hm:Mask m) (light:es.size * 5 < m * 3) :
  ∃ t' order,t.relaid (es.map (·.1)) wanted=some (t',order)/\(order.filterMap (es[·]?)).toList.Perm es.toList/\Tab t' (order.filterMap (es[·]?)):=by
 obtain ⟨ow,e,L⟩:=lay_clean (hashes:=es.map (·.1)) hm (by rw [Array.size_map];omega)
 have lh:(es.map (·.1)).toList.length=es.size:=by rw [Array.length_toList,Array.size_map]
 have hh:∀ (k:Nat) (x:Int×Value),es[k]?=some x->(es.map (·.1)).toList[k]?=some x.1:=λk x hx=>by rw [Array.getElem?_toList,Array.getElem?_map,hx];rfl
 let lv:=(List.range (m + 1)).filterMap λj=>(ow.getD j none).map (j,·)
 have e2:t.relaid (es.map (·.1)) wanted=some ({ mask:=m,place:=(lv.map (·.1)).toArray,dummies:=#[],finger:=t.finger,led:=t.led,moves:=t.movedTo m,plain:=t.plain },(lv.map (·.2)).toArray):=by
  unfold SetTable.relaid SetTable.laid
  rw [hw,e]
  rfl
 have f1:lv.map (·.1)=(List.range (m + 1)).filter λj=>(ow.getD j none).isSome:=fm_pair _
 have f2:∀ p∈lv,ow[p.1]?=some (some p.2)/\p.1<=m:=λp hp=>by
  obtain ⟨j,hj,q⟩:=yO.mp hp
  have hj:j < m + 1:=zk.mp hj
  have hs:j < ow.size:=by rw [L.sz];exact hj
  rw [show ow.getD j none=ow[j] from by simp [Array.getD,hs]] at q
  cases eo:ow[j] with
  | none=>rw [eo] at q;cases q
  | some k=>rw [eo] at q;cases q;exact ⟨by rw [Array.getElem?_eq_getElem hs,eo],by show j<=m;omega⟩
 have f3:∀ j k,ow[j]?=some (some k)->(j,k)∈lv:=λj k h=>by
  obtain ⟨hs,eo⟩:=Array.getElem?_eq_some_iff.mp h
  refine yO.mpr ⟨j,zk.mpr (by rw [L.sz] at hs;exact hs),?_⟩
  rw [show ow.getD j none=ow[j] from by simp [Array.getD,hs],eo];rfl
 have so1:(lv.map (·.1)).Pairwise (· < ·):=by rw [f1];exact List.pairwise_lt_range.filter _
 have so2:lv.Pairwise λa b=>a.1 < b.1:=yE.mp so1
 have nd:(lv.map (·.2)).Nodup:=by
  refine yE.mpr (so2.imp_of_mem λ{a b} ha hb h z=>?_)
  have:=L.one _ _ _ (f2 a ha).1 (by rw [z];exact (f2 b hb).1)
  omega
 have kl:∀ p∈lv,p.2 < es.size:=λp hp=>by have:=L.low _ _ (f2 p hp).1;rw [lh] at this;exact this
 have pm:(lv.map (·.2)).Perm (List.range es.size):=perm_of nd List.nodup_range λk=>by
  constructor
  ·intro h
   obtain ⟨p,hp,rfl⟩:=zO.mp h
   exact zk.mpr (kl p hp)
  ·intro h
   have hk:k < es.size:=zk.mp h
   obtain ⟨n,a,_⟩:=L.each k es[k].1 (hh k _ (Array.getElem?_eq_getElem hk))
   exact zO.mpr ⟨_,f3 _ _ a,rfl⟩
 let g:Nat->Int×Value:=λk=>(es[k]?).getD (0,Value.none)
 have gk:∀ k,k < es.size->es[k]?=some (g k):=λk hk=>by show es[k]?=some ((es[k]?).getD _);rw [Array.getElem?_eq_getElem hk];rfl
 have e3:((lv.map (·.2)).toArray.filterMap (es[·]?)).toList=lv.map λp=>g p.2:=by
  rw [Array.toList_filterMap,List.filterMap_map]
  exact fm_some λp hp=>gk p.2 (kl p hp)
 have e4:es.toList=(List.range es.size).map g:=by
  have:=filterMap_getElem?_range es
  rw [fm_some (g:=g) λk hk=>gk k (zk.mp hk)] at this
  exact this.symm
 refine ⟨_,_,e2,?_,?_⟩
 ·rw [e3,e4,show (λp:Nat×Nat=>g p.2)=g ∘ (·.2) from rfl,<- zp]
  exact pm.map g
 ·have sz:((lv.map (·.2)).toArray.filterMap (es[·]?)).size=lv.length:=by rw [<-Array.length_toList,e3,zA]
  have ll:lv.length=es.size:=by have:=pm.length_eq;rw [zA,List.length_range] at this;exact this
  refine ⟨hm,rfl,by simpa using so1,by rw [sz];simp,λj hj=>?_,by rw [sz,ll];exact light,λi hi=>?_⟩
  ·have hj:j∈lv.map (·.1):=by simpa using hj
   obtain ⟨p,hp,rfl⟩:=zO.mp hj
   exact (f2 p hp).2
  ·have ge:((lv.map (·.2)).toArray.filterMap (es[·]?))[i]?=some ((lv.map (·.2)).toArray.filterMap (es[·]?))[i]:=Array.getElem?_eq_getElem hi
   generalize ((lv.map (·.2)).toArray.filterMap (es[·]?))[i]=x at ge ⊢
   rw [<-Array.getElem?_toList,e3,zX] at ge
   cases ep:lv[i]? with
   | none=>rw [ep] at ge;cases ge
   | some p=>
    rw [ep] at ge
    have ge:g p.2=x:=Option.some.inj ge
    have hp:=zB ep
    have hx:=gk p.2 (kl p hp)
    rw [ge] at hx
    obtain ⟨n,a1,a2⟩:=L.each p.2 x.1 (hh p.2 x hx)
    have ej:=L.one _ _ _ a1 (f2 p hp).1
    refine ⟨n,?_,λn' hn=>?_⟩
    ·show ((lv.map (·.1)).toArray)[i]?=some (at' m x.1 n)
     rw [List.getElem?_toArray,zX,ep,ej];rfl
    ·show at' m x.1 n'∈((lv.map (·.1)).toArray).toList
     obtain ⟨k,hk⟩:=(occ_iff (by rw [L.sz];exact yT.mpr (at_le n'))).mp (a2 n' hn)
     simpa using ⟨k,f3 _ _ hk⟩
end SmSet
namespace SmSet
open PySem
section
variable {prog:Program}{w:World}{K:Type} [DecidableEq K] {knd:HeapKind prog w K}{A:Around}{E:Value->Shared->Prop}{s:Shared}{a:Addr}
def Hashy (knd:HeapKind prog w K):Prop:=∀ (A:Around) (s:Shared) (k:K) (b:Addr),knd.is s.heap k b->∀ (E:Value->Shared->Prop) (Q:Bool->Shared->Prop),(∀ v,Q v s)->wpAny (model prog w) A (hashByValue 8 (.ref b)) Q E s
def SetObj (es:Array (Int×Value)) (ep:Nat) (t:SetTable):Obj:={ cls:=.type "set", data:=.set es ep t }
theorem store {es es':Array (Int×Value)}{ep:Nat}{t t':SetTable}{Q:Unit->Shared->Prop} (ho:s.heap.get? a=some (SetObj es ep t)) (hz:es'.size<=sizeLine)
  (h:∀ h',Heap.SameBut a s.heap h'->h'.get? a=some (SetObj es' (ep + 1) t')->Q () { s with heap:=h' }):wpAny (model prog w) A (storeSet a es' t') Q E s:=by
 refine wpAny_storeSet_of ho rfl (h _ (Heap.SameBut.update s.heap a (Obj.putSet es' t')) ?_) hz
 have:=Heap.get?_update_self (Obj.putSet es' t') ho (by rw [putSet_of es' t' rfl];rfl)
 rw [putSet_of es' t' rfl] at this;exact this
theorem grown_mask {n m:Nat} (hm:Mask m) (lt:(n - 1) * 5 < m * 3) (n1:1<=n) (full:n * 5 ≥ m * 3) (few:n<=4000):Mask (SetTable.sizeAbove (SetTable.grown n) - 1)/\n * 5 < (SetTable.sizeAbove (SetTable.grown n) - 1) * 3/\SetTable.sizeAbove (SetTable.grown n)<=8192:=by
 rcases hm with rfl | rfl | rfl | rfl | rfl | rfl
 ·have:n=5:=by omega
  subst this
  exact ⟨.inr (.inl (by decide +kernel)),by decide +kernel,by decide +kernel⟩
 ·have:n=19:=by omega
  subst this
  exact ⟨.inr (.inr (.inl (by decide +kernel))),by decide +kernel,by decide +kernel⟩
 ·have:n=77:=by omega
  subst this
  exact ⟨.inr (.inr (.inr (.inl (by decide +kernel)))),by decide +kernel,by decide +kernel⟩
 ·have:n=307:=by omega
  subst this
  exact ⟨.inr (.inr (.inr (.inr (.inl (by decide +kernel))))),by decide +kernel,by decide +kernel⟩
 ·have:n=1229:=by omega
  subst this
  exact ⟨.inr (.inr (.inr (.inr (.inr (by decide +kernel))))),by decide +kernel,by decide +kernel⟩
 ·omega
theorem add {es:Array (Int×Value)}{ep:Nat}{t:SetTable}{ks:Nat->K}{kx:K}{c:Addr}{Q:Bool->Shared->Prop} (hr:knd.room A) (S:SetT knd s.heap a es ep t ks) (hx:knd.is s.heap kx c) (cl:Calm knd A s) (hb:Hashy knd) (few:es.size < 4000)
  (qt:(∃ i,i < es.size/\ks i=kx)->Q false s)
  (qf:∀ (h':Heap) (es':Array (Int×Value)) (ep':Nat) (t':SetTable),(∀ i,i < es.size->ks i≠kx)->Heap.SameBut a s.heap h'->h'.get? a=some (SetObj es' ep' t')->Tab t' es'->es'.toList.Perm (es.toList++[(knd.hash kx,.ref c)])->Q true { s with heap:=h' }) :
  wpAny (model prog w) A (setAddHashed a (.ref c) (knd.hash kx)) Q E s:=by
 obtain ⟨N,n1,n2,n3⟩:=S.tab.first (knd.hash kx)
 have line:10000<=sizeLine:=by rw [sizeLine_eq];decide
 unfold setAddHashed setAddHashedIn
 refine wpAny_holding (wpAny_bind (wpAny_setState_of S.obj rfl S.tab.fits ?_))
 dsimp only
 rw [show byScan (.ref c) es=false from rfl]
 simp only [zc,if_false]
 refine wpAny_bind ?_
 unfold setSearch
 have lim:10 * (t.mask + 13) < 100000:=by
  rcases S.tab.mask with h | h | h | h | h | h <;> rw [h] <;> decide
 refine search hr S.obj rfl S.tab S.keys hx cl (λr h f=>?_) n2 n3 n1 (λnf=>?_) 100000 0 none (by omega) (zf _) rfl (λn' h=>absurd h (yI _))
 ·exact wpAny_pure (qt f)
 ·dsimp only
  refine wpAny_bind (wpAny_setState_of S.obj rfl S.tab.fits ?_)
  dsimp only
  have m7:7<=t.mask:=by rcases S.tab.mask with h | h | h | h | h | h <;> omega
  have lt:=S.tab.light
  have e200:SetTable.tooFull=λt=>decide (t.fill * 5 ≥ t.mask * 3):=rfl
  have tail:∀ tt,(∃ pl,tt={ (t.put (at' t.mask (knd.hash kx) N)).1 with plain:=pl })->wpAny (model prog w) A (do
    storeSet a (SetTable.insertAt es (t.put (at' t.mask (knd.hash kx) N)).2 (knd.hash kx,Value.ref c)) tt
    if (!false && tt.tooFull)=true then do
     setRelay a (SetTable.grown (es.size + 1))
     pure true
    else pure true) Q E s:=by
   rintro tt ⟨pl,rfl⟩
   obtain ⟨pt,pd,pm,ps⟩:=S.tab.put (x:=Value.ref c) n2 n3 pl
   have pp:=SetTable.insertAt_perm es (t.put (at' t.mask (knd.hash kx) N)).2 (knd.hash kx,Value.ref c)
   rw [Array.toList_push] at pp
   have sz:(SetTable.insertAt es (t.put (at' t.mask (knd.hash kx) N)).2 (knd.hash kx,Value.ref c)).size=es.size + 1:=by
    have:=pp.length_eq
    rw [Array.length_toList,zI,Array.length_toList,zm] at this;exact this
   generalize (t.put (at' t.mask (knd.hash kx) N)).1=T1 at pt pd pm ps ⊢
   generalize SetTable.insertAt es (t.put (at' t.mask (knd.hash kx) N)).2 (knd.hash kx,Value.ref c)=es1 at pt pp sz ⊢
   have fit:({ T1 with plain:=pl }:SetTable).fits es1.size=true:=by
    unfold SetTable.fits SetTable.fill
    dsimp only
    rw [ps,pd,sz,pm]
    simp
    omega
   refine wpAny_bind (store S.obj (by omega) λh' sb go=>?_)
   have full:({ T1 with plain:=pl }:SetTable).tooFull=decide ((es.size + 1) * 5 ≥ t.mask * 3):=by
    unfold SetTable.tooFull SetTable.fill
    dsimp only
    rw [ps,pd,pm];rfl
   rw [full]
   by_cases c:(es.size + 1) * 5 ≥ t.mask * 3
   ·rw [decide_eq_true c]
    simp only [Bool.not_false,Bool.and_self,if_true]
    obtain ⟨gm,gl,gz⟩:=grown_mask S.tab.mask (by rw [Nat.add_sub_cancel];exact lt) (by omega) c (by omega)
    obtain ⟨t2,order,er,pr,T2⟩:=relaid_spec (t:={ T1 with plain:=pl }) (es:=es1) rfl gm (by rw [sz];exact gl)
    refine wpAny_bind ?_
    unfold setRelay
    refine wpAny_bind (wpAny_setState_of (s:={ s with heap:=h' }) go rfl fit ?_)
    dsimp only
    rw [if_neg (by omega)]
    refine wpAny_bind ?_
    rw [er]
    show wpAny (model prog w) A (if ((order.filterMap (es1[·]?)).size != es1.size)=true then _ else _) _ _ _
    have s2:(order.filterMap (es1[·]?)).size=es1.size:=by have:=pr.length_eq;rw [Array.length_toList,Array.length_toList] at this;exact this
    rw [if_neg (by rw [s2];simp)]
    refine wpAny_pure ?_
    dsimp only
    refine store (s:={ s with heap:=h' }) go (by rw [s2];omega) λh2 sb2 go2=>?_
    exact wpAny_pure (qf h2 _ _ _ nf (sb.trans sb2) go2 T2 (pr.trans pp))
   ·rw [decide_eq_false c]
    simp only [Bool.not_false,yt,zc,if_false]
    exact wpAny_pure (qf h' _ _ _ nf sb go (pt (by omega)) pp)
  split
  ·refine wpAny_bind (hb _ _ _ _ hx _ _ λv=>tail _ ?_)
   cases v with
   | true=>exact ⟨(t.put (at' t.mask (knd.hash kx) N)).1.plain,rfl⟩
   | false=>exact ⟨false,rfl⟩
  ·refine wpAny_bind (wpAny_pure (tail _ ⟨(t.put (at' t.mask (knd.hash kx) N)).1.plain,rfl⟩))
end
end SmSet
namespace SmSet
open PySem
section
variable {prog:Program}{w:World}{K:Type} [DecidableEq K] {knd:HeapKind prog w K}{A:Around}{E:Value->Shared->Prop}{s:Shared}{a:Addr}
theorem callAdd {es:Array (Int×Value)}{ep:Nat}{t:SetTable}{ks:Nat->K}{kx:K}{c:Addr}{Q:Value->Shared->Prop} (hr:knd.room A.in1) (S:SetT knd s.heap a es ep t ks) (hx:knd.is s.heap kx c) (cl:∀ B (s':Shared),s'.heap=s.heap->Calm knd B s') (hb:Hashy knd) (few:es.size < 4000)
  (qt:(∃ i,i < es.size/\ks i=kx)->Q .none { s with toks:=s.toks + knd.draws kx })
  (qf:∀ (h':Heap) (es':Array (Int×Value)) (ep':Nat) (t':SetTable),(∀ i,i < es.size->ks i≠kx)->Heap.SameBut a s.heap h'->h'.get? a=some (SetObj es' ep' t')->Tab t' es'->es'.toList.Perm (es.toList++[(knd.hash kx,.ref c)])->Q .none { s with heap:=h',toks:=s.toks + knd.draws kx }) :
  wpAny (model prog w) A (call (.builtin "set.add") [.ref a,.ref c]) Q E s:=by
 refine wpAny_call_entry F.slot_set_add (set_typeIs S) F.entry_set_add ?_ (F.args_set_add_2 _ _)
 unfold Builtin.«set.add» Builtin.Frozenset.oneOther
 simp only [List.isEmpty_nil,bind_assoc]
 unfold Builtin.Frozenset.addrOf setAdd
 refine wpAny_bind (wpAny_pure ?_)
 try dsimp only
 refine wpAny_bind (wpAny_pure ?_)
 try dsimp only
 refine wpAny_bind ?_
 refine wpAny_holding ?_
 refine wpAny_bind (knd.pyHash hr hx ?_)
 refine add (s:={ s with toks:=s.toks + knd.draws kx }) hr ⟨S.obj,S.tab,S.keys⟩ hx (cl _ _ rfl) hb few (λf=>?_) (λh' es' ep' t' nf sb go T' pm=>?_)
 ·show wpAny _ _ (ret Value.none) _ _ _
  exact wpAny_pure ⟨_,rfl,qt f⟩
 ·show wpAny _ _ (ret Value.none) _ _ _
  exact wpAny_pure ⟨_,rfl,qf h' es' ep' t' nf sb go T' pm⟩
end
section
variable {prog:Program}{w:World}{K:Type} [DecidableEq K] {knd:KeyKind prog w K}
theorem plain_stm {v:Value} (h:carriedByValue v=true) (n:Nat):ofAClassStatement n v=pure false:=by
 cases v with
 | ref a=>cases h
 | _=>cases n <;> rfl
theorem tup_calm {A:Around}{s:Shared}:Calm (tupleKind knd) A s:=by
 intro k b hk E Q q
 have hT:s.TypeIs (.ref b) "tuple" := IsTupleKey.typeIs hk
 obtain ⟨o,items,n,ho,hc,hd,hi⟩:=hk
 unfold ofAClassStatement
 refine wpAny_bind (wpAny_typeOf hT ?_)
 dsimp only
 rw [if_pos (by decide)]
 refine wpAny_bind (wpAny_pure ?_)
 simp only [Bool.not_true,zc,if_false]
 refine wpAny_bind (wpAny_seqItems ho hd ?_)
 dsimp only
 refine wpAny_bind ?_
 rw [<-Array.forIn_toList]
 refine wpAny_forIn_list _ (λrest r s'=>r.1=none/\s'=s/\∀ v∈rest,carriedByValue v=true) _ ?_ ?_ _ _ ⟨rfl,rfl,hi.byValue⟩
 ·rintro v rest r s' ⟨hr,rfl,hall⟩
  rw [plain_stm (hall v zd)]
  refine wpAny_bind (wpAny_pure ?_)
  simp only [zc,if_false]
  exact wpAny_pure ⟨rfl,rfl,λu hu=>hall u (zb _ hu)⟩
 ·rintro ⟨r1,r2⟩ s' ⟨hr,rfl,_⟩
  simp only at hr
  subst hr
  exact wpAny_pure q
theorem plain_hash {v:Value} (h:carriedByValue v=true) (n:Nat):∃ c,hashByValue n v=pure c:=by
 cases v with
 | ref a=>cases h
 | _=>cases n <;> exact ⟨_,rfl⟩
theorem tup_hashy:Hashy (tupleKind knd):=by
 intro A s k b hk E Q q
 have hT:s.TypeIs (.ref b) "tuple" := IsTupleKey.typeIs hk
 obtain ⟨o,items,n,ho,hc,hd,hi⟩:=hk
 unfold hashByValue
 refine wpAny_bind (wpAny_specialOf hT F.slot_tuple_hash.lookup ?_)
 dsimp only
 refine wpAny_bind (wpAny_seqItems ho hd ?_)
 dsimp only [Option.getD]
 refine wpAny_bind ?_
 rw [<-Array.forIn_toList]
 refine wpAny_forIn_list _ (λrest r s'=>r.1=none/\s'=s/\∀ v∈rest,carriedByValue v=true) _ ?_ ?_ _ _ ⟨rfl,rfl,hi.byValue⟩
 ·rintro v rest r s' ⟨hr,rfl,hall⟩
  obtain ⟨c,hc'⟩:=plain_hash (hall v zd) 7
  rw [hc']
  refine wpAny_bind (wpAny_pure ?_)
  cases c with
  | true=>
   simp only [Bool.not_true,zc,if_false]
   exact wpAny_pure ⟨rfl,rfl,λu hu=>hall u (zb _ hu)⟩
  | false=>
   simp only [Bool.not_false,if_true]
   exact wpAny_pure (wpAny_pure (q _))
 ·rintro ⟨r1,r2⟩ s' ⟨hr,rfl,_⟩
  simp only at hr
  subst hr
  exact wpAny_pure (q _)
end
end SmSet
namespace L2
open PySem PySem.Spec PyProof.Rows SmSet
def setO (P:Program) (w:World) (a:Addr) (xs:List (Addr×List Int)):HO:=.ext λh=>∃ es ep t,h.get? a=some (SetObj es ep t)/\Tab t es/\es.toList.Perm (xs.map λx=>(tupleKeyHash (mixKind P w) (x.2.map Sum.inl),Value.ref x.1))
section
variable {X:Cx}{pins:List (Addr×Obj)}{σ:St}{H:Hp}{s:Shared}{a:Addr}
theorem setO_ok {P:Program}{w:World}{H:Hp}{h:Heap}{xs:List (Addr×List Int)}{es:Array (Int×Value)}{ep:Nat}{t:SetTable} (ho:h.get? a=some (SetObj es ep t)) (T:Tab t es) (pm:es.toList.Perm (xs.map λx=>(tupleKeyHash (mixKind P w) (x.2.map Sum.inl),Value.ref x.1))) :
  ObjOk P w H h a (setO P w a xs):=⟨⟨es,ep,t,ho,T,pm⟩,⟨_,ho⟩,λh1 h2 ⟨es,ep,t,ho,T,pm⟩ k=>⟨es,ep,t,k _ ho,T,pm⟩⟩
theorem ints_key (ks:List Int):ks.map V.int=(ks.map Sum.inl).map kV:=by rw [zp];rfl
theorem setO_is (I:Inv X pins σ H s) {xs:List (Addr×List Int)} (h:H a=some (setO X.prog X.w a xs)) (hk:∀ e∈xs,H e.1=some (.tup (e.2.map V.int))) :
  ∃ es ep t ks,SetT (tupleKind (mixKind X.prog X.w)) s.heap a es ep t ks/\es.toList.Perm (xs.map λx=>(tupleKeyHash (mixKind X.prog X.w) (x.2.map Sum.inl),Value.ref x.1)) /\
   (∀ k:List Int,(∃ i,i < es.size/\ks i=k.map Sum.inl)↔k∈xs.map (·.2)):=by
 obtain ⟨⟨es,ep,t,ho,T,pm⟩,_⟩:=I.hok a _ h
 have pick:∀ i,∃ x:Addr×List Int,i < es.size->x∈xs/\es[i]?=some (tupleKeyHash (mixKind X.prog X.w) (x.2.map Sum.inl),Value.ref x.1):=λi=>by
  by_cases hi:i < es.size
  ·have:=pm.mem_iff.mp (show es[i]∈es.toList from by simp)
   obtain ⟨x,hx,e⟩:=zO.mp this
   exact ⟨x,λ_=>⟨hx,by rw [Array.getElem?_eq_getElem hi,<- e]⟩⟩
  ·exact ⟨(0,[]),λz=>absurd z hi⟩
 refine ⟨es,ep,t,λi=>((pick i).choose).2.map Sum.inl,⟨ho,T,λi hi=>?_⟩,pm,λk=>⟨?_,λhk'=>?_⟩⟩
 ·obtain ⟨h1,h2⟩:=(pick i).choose_spec hi
  exact ⟨_,Option.some.inj ((Array.getElem?_eq_getElem hi).symm.trans h2),key_of I.hok (by rw [hk _ h1,ints_key])⟩
 ·rintro ⟨i,hi,e⟩
  obtain ⟨h1,h2⟩:=(pick i).choose_spec hi
  have:((pick i).choose).2=k:=List.map_inj_right (λx y z=>Sum.inl.inj z) |>.mp e
  exact zO.mpr ⟨_,h1,this⟩
 ·obtain ⟨x,hx,rfl⟩:=zO.mp hk'
  have:=pm.mem_iff.mpr (zO.mpr ⟨x,hx,rfl⟩)
  obtain ⟨i,hi,e⟩:=yo this
  have hi':i < es.size:=by simpa using hi
  refine ⟨i,hi',?_⟩
  obtain ⟨h1,h2⟩:=(pick i).choose_spec hi'
  have e':es[i]?=some (tupleKeyHash (mixKind X.prog X.w) (x.2.map Sum.inl),Value.ref x.1):=by rw [<-Array.getElem?_toList,zJ hi,e]
  rw [h2] at e'
  have ea:((pick i).choose).1=x.1:=by injection e' with e';injection e' with _ e';injection e'
  have t1:=hk _ h1
  have t2:=hk _ hx
  rw [ea,t2] at t1
  injection t1 with t1
  injection t1 with t1
  have:x.2=((pick i).choose).2:=List.map_inj_right (λx y z=>V.int.inj z) |>.mp t1
  rw [this]
def rSetNew (P:Program) (w:World):List V->Hp->VK->Prop:=λxs H Q=>xs=[]/\∀ p,H p=none->Q (.ref p) (upd H p (setO P w p []))
theorem call_setNew:CallR X (.type "set") (rSetNew X.prog X.w):=by
 intro pins s σ H xs us Q I r h
 obtain ⟨rfl,q⟩:=h
 cases r
 refine call_set_0 λled=>?_
 refine ⟨.ref s.heap.objs.size,_,I.laid (a:=s.heap.objs.size) (o:=setO X.prog X.w s.heap.objs.size []) (t':=s.toks) (λ_ _ q=>Heap.get?_push_of_some _ q) (zD _) ?_,rfl,q _ (I.hok.fresh (zD _))⟩
 exact setO_ok (Heap.get?_push_size _ rfl) ⟨.inl rfl,rfl,.nil,rfl,(λ_ z=>nomatch z),(by show 0 * 5 < 7 * 3;decide),λi hi=>absurd hi (yI _)⟩ .nil
def rInS (P:Program) (w:World):R2:=λx y H Q=>∃ p xs c,∃ k:List Int,x=.ref c/\y=.ref p/\H p=some (setO P w p xs)/\H c=some (.tup (k.map V.int))/\(∀ e∈xs,H e.1=some (.tup (e.2.map V.int)))/\Q (.bl (decide (k∈xs.map (·.2)))) H
theorem op_inS (hu:X.A.units + 64 < cLine):OpR X (compareOp .In) (rInS X.prog X.w):=by
 intro pins s σ H x y v u Q I rx ry h
 obtain ⟨p,xs,c,k,rfl,rfl,hp,hc,hk,q⟩:=h
 cases rx;cases ry
 obtain ⟨es,ep,t,ks,S,pm,mem⟩:=setO_is I hp hk
 refine inSet (knd:=tupleKind (mixKind X.prog X.w)) (kx:=k.map Sum.inl) (show X.A.units + 1 < cLine by omega) S (key_of I.hok (by rw [hc,ints_key])) (λ_ _ _=>tup_calm) (λf=>?_) (λnf=>?_)
 ·rw [decide_eq_true ((mem k).mp f)] at q
  exact ⟨.bl true,H,I.kept (λ_ _ z=>z),rfl,q⟩
 ·rw [decide_eq_false λz=>by obtain ⟨i,hi,e⟩:=(mem k).mpr z;exact nf i hi e] at q
  exact ⟨.bl false,H,I.kept (λ_ _ z=>z),rfl,q⟩
def rAddS (P:Program) (w:World):V->List V->Hp->VK->Prop:=λx vs H Q=>∃ p xs c,∃ k:List Int,x=.ref p/\vs=[.ref c]/\H p=some (setO P w p xs)/\H c=some (.tup (k.map V.int))/\(∀ e∈xs,H e.1=some (.tup (e.2.map V.int)))/\xs.length < 4000 /\
 (k∈xs.map (·.2)->Q .non H)/\(k ∉ xs.map (·.2)->Q .non (upd H p (setO P w p (xs++[(c,k)]))))
theorem mt_addS (hu:X.A.units + 64 < cLine):MtR X "set.add" (rAddS X.prog X.w):=by
 intro pins s σ H x vs v us Q I rx rv h
 obtain ⟨p,xs,c,k,rfl,rfl,hp,hc,hk,few,q1,q2⟩:=h
 cases rx
 obtain ⟨u,rfl,ru⟩:=rv.one
 cases ru
 obtain ⟨es,ep,t,ks,S,pm,mem⟩:=setO_is I hp hk
 have sz:es.size=xs.length:=by have:=pm.length_eq;rw [Array.length_toList,zA] at this;exact this
 refine callAdd (knd:=tupleKind (mixKind X.prog X.w)) (kx:=k.map Sum.inl) (show X.A.units + 1 < cLine by omega) S (key_of I.hok (by rw [hc,ints_key])) (λ_ _ _=>tup_calm) tup_hashy (by omega) (λf=>?_) (λh' es' ep' t' nf sb go T' pm'=>?_)
 ·exact ⟨.non,H,I.kept (λ_ _ z=>z),rfl,q1 ((mem k).mp f)⟩
 ·refine ⟨.non,_,I.write (x:=p) (e:=p) (by rw [hp];trivial) (.inl rfl) (λb o hb z=>(sb.2 b hb).trans z) ⟨_,go⟩ (setO_ok go T' ?_),rfl,q2 λz=>by obtain ⟨i,hi,e⟩:=(mem k).mpr z;exact nf i hi e⟩
  rw [zC]
  exact pm'.trans (pm.append_right _)
def tBMS (P:Program) (w:World) (r:V->List V->Hp->VK->Prop) (to:TE) (t:TA):TE:=fun σ H Q=>to σ H λx H1=>(∃ p xs,x=.ref p/\H1 p=some (setO P w p xs))/\t σ H1 λxs H2=>r x xs H2 Q
theorem pe_bmS {o e:Expr}{es:List Expr}{to:TE}{t:TA}{name:Str}{apos cpos:Pos}{id:String}{r:V->List V->Hp->VK->Prop} (slot:Slot "set" name id) (hty:typeOf (.builtin id)=pure (.type "method_descriptor")) (hm:MtR X id r) (ho:PE X o to) (ha:PA X (e::es) t)
  (hbase:attributeBase o name X.env (eval o X.env)=eval o X.env:=by rfl)
  (hfew:((backTo cpos (starEach (e::es) X.env)).all (λx=>!x.1) && (backToKw cpos (keywordEach [] X.env)).all (λx=>x.1.isSome)
   && decide ((e::es).length + ([]:List Keyword).length + (if ([]:List Keyword).isEmpty then 0 else 1) < 30))=true:=by rfl)
  (hline:(apos.endLine == cpos.line)=true:=by rfl) (hs:starEach (e::es) X.env=(false,eval e X.env)::starEach es X.env:=by rfl) (hplain:(backTo cpos (starEach es X.env)).any (·.1)=false:=by rfl) :
  PE X (.Call (.Attribute o name apos) (e::es) [] cpos) (tBMS X.prog X.w r to t):=by
 intro pins s σ H Q I h
 refine wpAny_Call_method_late hbase hfew hline rfl (thn (ho pins s σ H _ I h) λv s1 ⟨x,H1,I1,r1,⟨p,xs,ex,hp⟩,q1⟩=>?_)
 subst ex
 cases r1
 obtain ⟨⟨es',ep,tt,hob,_⟩,_⟩:=I1.hok p _ hp
 refine ⟨"set", id,F.plainAttrs_set,slot,hty,⟨_,hob,rfl⟩,λa e=>by cases e;exact ⟨_,hob,rfl⟩,?_⟩
 have hA:=ha cpos pins s1 σ H1 _ I1 q1
 rw [hs] at hA ⊢
 refine Calls.callWith_builtin (by show (false || (backTo cpos (starEach es X.env)).any (·.1))=false;rw [hplain] <;> rfl) (Calls.evalArgs_plain ?_)
 exact thn hA λus s2 ⟨vs,H2,I2,r2,q2⟩=>hm pins s2 σ H2 (.ref p) vs (.ref p) us Q I2 rfl r2 q2
end
end L2
namespace L2
open PySem PySem.Spec PyProof.Rows PySem.W
theorem lam_run {P:Program}{w:World}{K:PySem.W.Frag}{mg:Str->Option Value}{base:Heap}{k:Nat}{f c':Addr}{name qual:Str}{params:Arguments}{body:Expr}{scope:Scope}{pm ctv:Value}{N ps:List Str}
  {A:Around}{outer:List Env}{s:Shared}{H:Hp}{us:List Value}{vs:List V}{Q:VK} (S:FnScope N ps scope) (hr:Room (k + 1) A) (e0:Env0 P w K mg base A outer s H)
  (ho:s.heap.get? f=some (kla_obj name qual params body scope [] pm c' ctv)) (hcd:s.heap.CodeRec (.ref c') qual) (hb:bindArgs (kla_fn name qual params body scope [] pm (.ref c') ctv) ⟨us,[]⟩=pure (ps.zip us)) (hl:vs.length=ps.length) (r:Vals vs us)
  (hbody:∃ t,PE (cxOf CX0 P w K mg base N qual scope f (.ref c') A outer s H E0).nox body t/\t (start N vs) H Q) :
  codeAny (model P w) A (.call (.ref f) ⟨us,[]⟩) (CR CX0 outer P w H s Q E0) s:=by
 have lim:s.heap.NoLimit:=e0.mod.nolimit.keeps λb o e=>(e0.bs b o e).1
 have hkind:∀ y∈ps.zip us,scope.names.lookup y.1=some .local\/(scope.names.lookup y.1=some .cell/\((cellsFrom (s.heap.objs.size + 1) scope.names []).lookup y.1).isSome=true):=λ⟨n,v⟩ hy=>by
  rcases S.par n (yy hy).1 with q | q
  ·exact .inl q
  ·exact .inr ⟨q,PySem.W.cellsFrom_some _ _ _ (.inl q)⟩
 refine kla_callFunE hr.depth ho rfl S.co S.gen rfl hcd ?_
 rw [hb]
 refine wpAny_pure ?_
 refine wpAny_newFunctionEnv_cells S.kind hkind λenv he s1 x=>?_
 subst he
 refine ⟨lim.keeps x.toInCall.keep,kla_codeExpr ?_⟩
 obtain ⟨t,ht,hq⟩:=hbody
 have I:Inv (cxOf CX0 P w K mg base N qual scope f (.ref c') A outer s H E0) [] (start N vs) H s1:=inv_start S hr.hd e0 hl r x
 refine wpAny_mono (ht.nox [] s1 (start N vs) H _ I hq) (λu s' hs=>?_) λe s' hs=>hs
 obtain ⟨v,H',J,rv,q⟩:=hs
 exact ⟨v,H',J.os,J.bare,J.base,J.hok,rv,q⟩
end L2
namespace L2
open PySem PySem.Spec PyProof.Rows PySem.W
def codeO (c:Addr) (qual:Str):HO:=.ext λh=>h.CodeRec (.ref c) qual
def MT (P:Addr) (pos:Pos) (qual:Str) (H:Hp):Prop:=H P=some (.tbl #[])\/∃ c,H P=some (.tbl #[rawInt pos.line,rawInt pos.col,.ref c])/\H c=some (codeO c qual)
def BmAt (mg:Str->Option Value) (base:Heap):Prop:=∃ bm o,mg "__builtins__" = some (.ref bm)/\bm≠builtinsNs/\bm≠mainGlobals/\base.get? bm=some o/\o.cls=.type "module" /\ o.dict=some builtinsNs/\o.data=.plain
section
variable {X:Cx}{pins:List (Addr×Obj)}{σ:St}{H:Hp}{s:Shared}
theorem Inv.fsLt (I:Inv X pins σ H s):∀ b∈X.fs,b < s.heap.objs.size:=λb hb=>by
 obtain ⟨_,o,ho,_⟩:=I.ok.funs.mem hb
 exact zQ (Heap.lt_size ho) I.sz
theorem codeO_ok {P:Program}{w:World}{H:Hp}{h:Heap}{c:Addr}{qual:Str} (r:h.CodeRec (.ref c) qual):ObjOk P w H h c (codeO c qual):=by
 obtain ⟨c2,oc,vs,t,e,ho,hd,hv⟩:=id r
 cases e
 exact ⟨r,⟨_,ho⟩,λh1 h2 ⟨c2,oc,vs,t,e,ho,hd,hv⟩ k=>by cases e;exact ⟨c,oc,vs,t,rfl,k _ ho,hd,hv⟩⟩
theorem lam_eval {P c:Addr}{clos:List (Str×Addr)}{pos:Pos}{params:Arguments}{body:Expr}{scope:Scope}{Q:Value->Shared->Prop} (I:Inv X pins σ H s) (mt:MT P pos (X.env.qual ++ "<lambda>") H) (hcode:X.env.code=.ref c) (hd:codeHdIn X.K c P=true) (bm:BmAt X.mg X.base)
  (hdef:defaultsOf params X.env=([],[])) (hcl:closureFor scope X.env=pure clos)
  (h:∀ f c' ctv pm H' s',Inv X ((f,kla_obj "<lambda>" (X.env.qual ++ "<lambda>") params body scope clos pm c' ctv)::pins) σ H' s'->H' c'=some (codeO c' (X.env.qual ++ "<lambda>"))->Sm.But P H H'->MT P pos (X.env.qual ++ "<lambda>") H'->Q (.ref f) s') :
  wpAny (model X.prog X.w) X.A (eval (.Lambda params body scope pos) X.env) Q X.xe s:=by
 refine kla_eval hdef ?_
 have glob:s.heap.Ns mainGlobals X.mg:=I.mod.glob.keeps I.bk
 have C:CodeHd s.heap c P:=codeHd_of_K I.kIn hd
 have tr:∃ o,H P=some o:=by rcases mt with e | ⟨_,e,_⟩ <;> exact ⟨_,e⟩
 have inB:∀ b o,X.base.get? b=some o->b≠P:=λb o e z=>by
  have:=(I.bs b o e).2
  obtain ⟨u,hu⟩:=tr
  rw [z,hu] at this;cases this
 have hgP:mainGlobals≠P:=by
  obtain ⟨o,_,_,e,_⟩:=I.mod.glob
  exact inB _ _ e
 have hB:s.heap.BuiltinsAt X.mg P:=by
  obtain ⟨b,o,e1,e2,e3,e4,e5,e6,e7⟩:=bm
  exact ⟨b,o,e1,e2,e3,inB _ _ e4,I.bk _ _ e4,e5,e6,e7⟩
 have pin:∀ {h':Heap}{H':Hp}{ob:Obj}{tk:Nat},Inv X pins σ H' { s with heap:=h'.push ob,toks:=tk }->s.heap.objs.size<=h'.objs.size->H' h'.objs.size=none->(∀ v,ob.data≠.cell v)->ob.isFreed=false->Inv X ((h'.objs.size,ob)::pins) σ H' { s with heap:=h'.push ob,toks:=tk }:=λ{h' H' ob tk} J hs hn nc nf=>
  J.pins_of λp hp=>by
   rcases zH.mp hp with rfl | hp
   ·exact ⟨Heap.get?_push_size _ nf,hn,yA (zQ I.lt hs),λz=>zw _ (zQ (I.fsLt _ z) hs),nc⟩
   ·exact J.pin p (zN _ hp)
 rcases mt with mt | ⟨c1,mt,hc1⟩
 ·have hP:s.heap.get? P=some (tabObj #[]):=I.hok P _ mt
  refine kla_makeFunction hcl I.ok.glob glob hcode C hP trivial rfl hgP hB λc' ctv h' tk hx hge hlt rec hP'=>?_
  have fr:H c'=none:=I.hok.fresh hge
  have ncP:c'≠P:=λz=>by rw [z,mt] at fr;cases fr
  have rec':(h'.push (kla_obj "<lambda>" (X.env.qual ++ "<lambda>") params body scope clos ((X.mg "__name__").getD .none) c' ctv)).CodeRec (.ref c') (X.env.qual ++ "<lambda>"):=by
   obtain ⟨c2,oc,vs,t,e,ho,hd,hv⟩:=rec
   exact ⟨c2,oc,vs,t,e,Heap.get?_push_of_some _ ho,hd,hv⟩
  have kp:∀ b o,b≠P->s.heap.get? b=some o->(h'.push (kla_obj "<lambda>" (X.env.qual ++ "<lambda>") params body scope clos ((X.mg "__name__").getD .none) c' ctv)).get? b=some o:=λb o hb e=>Heap.get?_push_of_some _ (hx b o hb e)
  have hP2:=Heap.get?_push_of_some (kla_obj "<lambda>" (X.env.qual ++ "<lambda>") params body scope clos ((X.mg "__name__").getD .none) c' ctv) hP'
  have at_:∀ b,b≠P->b≠c'->upd (upd H P (.tbl #[rawInt pos.line,rawInt pos.col,.ref c'])) c' (codeO c' (X.env.qual ++ "<lambda>")) b=H b:=λb h1 h2=>by rw [xH h2,xH h1]
  have neT:∀ b u,H b=some u->u≠.tbl #[]->b≠P:=λb u e n z=>by rw [z,mt] at e;cases e;exact n rfl
  have neC:∀ b u,H b=some u->b≠c':=λb u e z=>by rw [z,fr] at e;cases e
  have lt:∀ b o,s.heap.get? b=some o->b≠c':=λb o e=>zW (zQ (Heap.lt_size e) hge)
  have aP:upd (upd H P (.tbl #[rawInt pos.line,rawInt pos.col,.ref c'])) c' (codeO c' (X.env.qual ++ "<lambda>")) P=some (.tbl #[rawInt pos.line,rawInt pos.col,.ref c']):=by rw [xH ncP.symm,xC]
  have J:Inv X pins σ (upd (upd H P (.tbl #[rawInt pos.line,rawInt pos.col,.ref c'])) c' (codeO c' (X.env.qual ++ "<lambda>"))) { s with heap:=h'.push (kla_obj "<lambda>" (X.env.qual ++ "<lambda>") params body scope clos ((X.mg "__name__").getD .none) c' ctv),toks:=tk }:=by
   refine I.un ⟨λb o e n _ _=>kp b o (λz=>by rw [z,mt] at n;cases n) e,λb o e n _ _=>⟨o.slots,kp b o (λz=>by rw [z,mt] at n;cases n) e⟩,λb o e n _=>?_,λb o e _=>?_,λb xs e=>?_,λb o u e=>?_,λb ps e=>?_⟩ λb u e=>?_
   ·rw [at_ b (λz=>by rw [z,mt] at n;cases n) (lt b o e)];exact n
   ·by_cases z:b=P
    ·exact ⟨_,by rw [z];exact hP2⟩
    ·exact ⟨o,kp b o z e⟩
   ·rw [at_ b (neT b _ e (by intro z;cases z)) (neC b _ e)];exact e
   ·rw [at_ b (neT b _ e (by intro z;cases z)) (neC b _ e)];exact e
   ·by_cases z:b=P
    ·rw [z,mt] at e;cases e
     exact ⟨_,by rw [z,aP,Array.empty_append]⟩
    ·exact ⟨#[],by rw [at_ b z (neC b _ e),e,Array.append_empty]⟩
   ·by_cases z:b=c'
    ·subst z;rw [xC] at e;cases e
     exact codeO_ok rec'
    ·by_cases z2:b=P
     ·rw [z2,aP] at e;cases e
      rw [z2]
      exact hP2
     ·rw [at_ b z2 z] at e
      refine (I.hok b u e).stay (λb' v hb q=>kp b' v (λy=>?_) q) (λb' q=>by rw [at_ b' (neT b' _ q (by intro z;cases z)) (neC b' _ q)];exact q) λb' xs q=>by rw [at_ b' (neT b' _ q (by intro z;cases z)) (neC b' _ q)];exact q
      rcases hb with hb | hb
      ·exact z2 (hb.symm.trans y)
      ·rw [y,mt] at hb;cases hb
  have nf:upd (upd H P (.tbl #[rawInt pos.line,rawInt pos.col,.ref c'])) c' (codeO c' (X.env.qual ++ "<lambda>")) h'.objs.size=none:=by
   rw [at_ h'.objs.size (yA (Heap.lt_size hP')) (yA hlt)]
   exact I.hok.fresh (by omega)
  refine h _ c' ctv ((X.mg "__name__").getD .none) _ _ (pin J (by omega) nf (by intro v z;cases z) rfl) xC (λb u hb e=>?_) (.inr ⟨c',aP,xC⟩)
  rw [at_ b hb (neC b _ e)];exact e
 ·have hP:s.heap.get? P=some (tabObj #[rawInt pos.line,rawInt pos.col,.ref c1]):=I.hok P _ mt
  refine kla_makeFunctionHit (cv:=.ref c1) hcl I.ok.glob glob hcode C hP ⟨⟩ ?_ hB λctv h' tk kp hs=>?_
  ·have:=codeAmong_snoc (pos:=pos) (c:=Value.ref c1) [] trivial rfl
   exact this
  ·have J:Inv X pins σ H { s with heap:=h'.push (kla_obj "<lambda>" (X.env.qual ++ "<lambda>") params body scope clos ((X.mg "__name__").getD .none) c1 ctv),toks:=tk }:=I.kept λb o e=>Heap.get?_push_of_some _ (kp b o e)
   refine h _ c1 ctv ((X.mg "__name__").getD .none) H _ (pin J hs (I.hok.fresh hs) (by intro v z;cases z) rfl) hc1 (Sm.But.refl P H) (.inr ⟨c1,mt,hc1⟩)
end
end L2
namespace L2
open PySem PySem.Spec PyProof.Rows PySem.W SmSort
section
variable {X:Cx}{pins:List (Addr×Obj)}{σ:St}{H:Hp}{s:Shared}
theorem Inv.adopt {h':Heap}{D:Addr}{xs:List V}{its:List Value}{n t':Nat} (I:Inv X pins σ H s) (k:∀ b o,b≠D->s.heap.get? b=some o->h'.get? b=some o) (hn:H D=none) (hs:X.s₀.heap.objs.size<=D) (hL:D≠X.env.locals)
  (h2:∀ x c,X.env.cells.lookup x=some c->c≠D) (h3:∀ p∈X.pn++pins,p.1≠D) (ho:h'.get? D=some { cls:=.type "list", data:=.seq its.toArray n }) (hv:Vals xs its) (hz:xs.length<=sizeLine) :
  Inv X pins σ (upd H D (.lst xs)) { s with heap:=h',toks:=t' }:=by
 have nD:∀ b u,H b=some u->b≠D:=λb u e z=>by rw [z,hn] at e;cases e
 refine I.step (g':=s.gens) (d':=s.drawn) (ch:=[D]) (λb hb=>?_) (λb o _ _ hc e _=>k b o (λz=>hc (by simp [z])) e) (λb o _ _ hc e _=>⟨o.slots,k b o (λz=>hc (by simp [z])) e⟩)
  (λb o hc e n=>by rw [xH (λz=>hc (by simp [z]))];exact n) (λb o hc e=>⟨o,k b o (λz=>hc (by simp [z])) e⟩) (λb ys e=>by rw [xH (nD b _ e)];exact e) (λb o u e=>by rw [xH (nD b _ e)];exact e)
  (λb ps e=>⟨#[],by rw [xH (nD b _ e),e];simp⟩) (λm hm=>?_) (λb u e=>?_) I.bare
 ·have e:b=D:=by simpa using hb
  subst e
  exact ⟨.inr hs,hL,h2,h3⟩
 ·obtain ⟨o,es,ep,ho',r⟩:=hm
  exact ⟨o,es,ep,k _ o (Ne.symm hL) ho',r⟩
 ·by_cases hb:b=D
  ·subst hb;rw [xC] at e;cases e
   exact ⟨hz,its,n,hv,ho⟩
  ·rw [xH hb] at e
   refine (I.hok b u e).stay (λc v hc q=>k c v ?_ q) (λc q=>by rw [xH (nD c _ q)];exact q) λc ys q=>by rw [xH (nD c _ q)];exact q
   rcases hc with z | z
   ·rw [z];exact hb
   ·exact nD c _ z
theorem Inv.cellLt (I:Inv X pins σ H s) {x:Str}{c:Addr} (h:X.env.cells.lookup x=some c):c < s.heap.objs.size:=by
 obtain ⟨v,o,ho,_⟩:=I.cell x c h
 exact Heap.lt_size ho
theorem zip_snds {a b:List Value} (h:b.length<=a.length):(a.toArray.zip b.toArray).map (·.2)=b.toArray:=by
 apply Array.toList_inj.mp
 rw [Array.toList_map,ksk_zip]
 exact List.map_snd_zip h
structure Keyed' (X:Cx) (pins:List (Addr×Obj)) (σ:St) (H:Hp) (kS:Addr) (kf:List Int->List Int) (ps:List (Addr×List Int)) (i:Nat) (s':Shared):Prop where
 ex:∃ H',∃ ks:List (Addr×List Int),Inv X pins σ H' s'/\H' kS=some (.lst (ks.map λk=>V.ref k.1))/\(∀ b u,H b=some u->H' b=some u)/\(∀ k∈ks,H' k.1=some (.tup (k.2.map V.int)))/\ks.map (·.2)=(ps.take i).map λa=>kf a.2
theorem sort_tree {f:Value}{D:Addr}{h:Heap}{kf:List Int->List Int}{ps:List (Addr×List Int)}{A:Around}{P:PySem.Fin->Shared->Prop}{E:Value->Shared->Prop} {t0:Nat} (I:Inv X pins σ H s) (kp:∀ b o,s.heap.get? b=some o->h.get? b=some o) (hDs:s.heap.objs.size<=D) (hDh:D < h.objs.size)
  (hD:h.get? D=some (seqObj "list" (ps.map λa=>Value.ref a.1).toArray 0)) (h64:ps.length < 64) (rows:∀ a∈ps,H a.1=some (.tup (a.2.map V.int))) (kne:∀ a∈ps,kf a.2≠[])
  (turn:∀ (pins':List (Addr×Obj)) (a:Addr) (r:List Int) (s':Shared) (H':Hp),(∀ p∈pins,p∈pins')->(a,r)∈ps->Inv X pins' σ H' s'->(∀ b u,H b=some u->H' b=some u) ->
   wpAny (model X.prog X.w) A (call f [.ref a]) (EP X pins' σ λv H''=>∃ t,v=.ref t/\Same H' H''/\H'' t=some (.tup ((kf r).map V.int))) (λ_ _=>False) s')
  (q:∀ qs H2 s2,Inv X pins σ (upd H2 D (.lst (qs.map λa=>V.ref a.1))) s2->H2 D=none->(∀ b u,H b=some u->H2 b=some u)->List.Perm qs ps->qs.Pairwise (λa b=>lx (kf b.2) (kf a.2)=false)->P (.done (.ret .none)) s2) :
  wpAny (model X.prog X.w) A (ksk_tree D f false) P E { s with heap:=h,toks:=t0 }:=by
 have line:100<=sizeLine:=by rw [sizeLine_eq];decide
 unfold ksk_tree
 refine wpAny_bind (listItems_at (s:={ s with heap:=h,toks:=t0 }) hD rfl ?_)
 refine wpAny_bind (listUpdate_at (s:={ s with heap:=h,toks:=t0 }) hD rfl ?_ (by rw [zF,zA];omega) (zf _))
 obtain ⟨e1,ho1⟩:∃ e1,(h.update D (Obj.mapSeq λ_=>(#[]:Array Value))).get? D=some (seqObj "list" #[] e1):=⟨_,get?_update_seq hD λ_=>#[]⟩
 refine wpAny_bind (seqEpoch_at ho1 rfl ?_)
 refine wpAny_bind (wpAny_newTuple ?_ (by show (ps.map λa=>Value.ref a.1).length<=_;rw [zA];omega))
 refine wpAny_bind (wpAny_newList ?_ (zf _))
 refine wpAny_holding ?_
 have sz2:((h.update D (Obj.mapSeq λ_=>(#[]:Array Value))).push (seqObj "tuple" (ps.map λa=>Value.ref a.1).toArray 0)).objs.size=h.objs.size + 1:=by rw [size_push',Heap.size_update]
 show wpAny _ _ (ksk_rest D f false (ps.map λa=>Value.ref a.1).toArray e1 (.ref ((h.update D (Obj.mapSeq λ_=>(#[]:Array Value))).push (seqObj "tuple" (ps.map λa=>Value.ref a.1).toArray 0)).objs.size)) _ _ _
 rw [sz2]
 have kS1:D < h.objs.size + 1:=yD hDh
 have kp3:∀ b o,s.heap.get? b=some o->(((h.update D (Obj.mapSeq λ_=>(#[]:Array Value))).push (seqObj "tuple" (ps.map λa=>Value.ref a.1).toArray 0)).push (seqObj "list" #[] 0)).get? b=some o:=λb o e=>by
  refine Heap.get?_push_of_some _ (Heap.get?_push_of_some _ ?_)
  rw [Heap.get?_update_ne _ _ _ _ (zW (zQ (Heap.lt_size e) hDs))]
  exact kp b o e
 have atK:=Heap.get?_push_size ((h.update D (Obj.mapSeq λ_=>(#[]:Array Value))).push (seqObj "tuple" (ps.map λa=>Value.ref a.1).toArray 0)) (o:=seqObj "list" #[] 0) rfl
 rw [sz2] at atK
 have atD:=Heap.get?_push_of_some (seqObj "list" #[] 0) (Heap.get?_push_of_some (seqObj "tuple" (ps.map λa=>Value.ref a.1).toArray 0) ho1)
 have szS:s.heap.objs.size<=h.objs.size + 1:=zj hDs (yz (yD hDh))
 have I3:Inv X pins σ (upd H (h.objs.size + 1) (.lst [])) { s with heap:=((h.update D (Obj.mapSeq λ_=>(#[]:Array Value))).push (seqObj "tuple" (ps.map λa=>Value.ref a.1).toArray 0)).push (seqObj "list" #[] 0),toks:=t0 }:=
  I.laid kp3 szS (show ObjOk X.prog X.w _ _ _ (.lst []) from ⟨zf _,[],0,.nil,atK⟩)
 have fD:H D=none:=I.hok.fresh hDs
 have I4:=I3.pins_of (pins':=(D,seqObj "list" #[] e1)::pins) λp hp=>by
  rcases zH.mp hp with rfl | hp
  ·exact ⟨atD,by rw [xH (zW kS1)];exact fD,yA (zQ I.lt hDs),λz=>zw _ (zQ (I.fsLt _ z) hDs),by intro v z;cases z⟩
  ·exact I3.pin p (zN _ hp)
 generalize ((h.update D (Obj.mapSeq λ_=>(#[]:Array Value))).push (seqObj "tuple" (ps.map λa=>Value.ref a.1).toArray 0)).push (seqObj "list" #[] 0)=h3 at I4 ⊢
 have fK:H (h.objs.size + 1)=none:=I.hok.fresh szS
 generalize hkS:h.objs.size + 1=kS at *
 unfold ksk_rest
 refine wpAny_bind (wpAny_rule ?_)
 rw [List.forIn_toArray]
 refine wpAny_bind (ksk_fold (λi s'=>Keyed' X ((D,seqObj "list" #[] e1)::pins) σ H kS kf ps i s') (ps.map λa=>Value.ref a.1) 0 _ ⟨_,[],I4,xC,λb u e=>by rw [xH (xF e fK)];exact e,(λ_ z=>nomatch z),rfl⟩ ?step ?done)
 case step=>
  rintro j x s' hx ⟨H',ks,J,hk,ext,hks,ek⟩
  rw [yq] at ek
  rw [zX] at hx
  cases ea:ps[j]? with
  | none=>rw [ea] at hx;cases hx
  | some a=>
   rw [ea] at hx
   have hx:Value.ref a.1=x:=Option.some.inj hx
   subst hx
   refine wpAny_bind (wpAny_attempt (wpAny_mono (turn _ a.1 a.2 s' H' (λp hp=>zb _ hp) (zB ea) J ext) (λv s'' he=>?_) λ_ _ hF=>hF.elim))
   obtain ⟨v',H'',J2,rv,t,rfl,sm,ht⟩:=he
   cases rv
   have hk2:=sm _ _ hk
   obtain ⟨z,its,n,r,hl,e⟩:=J2.lstM hk2
   have lk:ks.length<=j:=by have:=congrArg List.length ek;rw [zA,zA,zY] at this;omega
   have jl:j < ps.length:=(zT.mp ea).1
   have li:its.length=ks.length:=by rw [<-hl,zA]
   dsimp only
   refine wpAny_bind (listUpdate_at e rfl ?_ (by rw [zF];omega) (by rw [Array.size_push,zF];omega))
   have ne:∀ b u,H b=some u->b≠kS:=λb u e=>xF e fK
   have J3:Inv X ((D,seqObj "list" #[] e1)::pins) σ (upd H'' kS (.lst ((ks++[(t,kf a.2)]).map λk:Addr×List Int=>V.ref k.1))) { s'' with heap:=s''.heap.update kS (Obj.mapSeq (·.push (Value.ref t))),toks:=s''.toks }:=
    J2.lset (its':=its++[Value.ref t]) hk2 e (by simp) (by rw [zC];exact r.append (.cons rfl .nil)) (by rw [zA,zI,zm];omega)
   refine wpAny_pure ⟨rfl,_,ks++[(t,kf a.2)],J3,xC,λb u e=>by rw [xH (ne b u e)];exact sm _ _ (ext b u e),λk hk'=>?_,?_⟩
   ·rcases zZ.mp hk' with h' | h'
    ·have:=sm _ _ (hks k h')
     rw [xH (ne_of this hk2 (by intro z;cases z))];exact this
    ·cases zP.mp h'
     rw [xH (ne_of ht hk2 (by intro z;cases z))];exact ht
   ·rw [yq,zC,ek,yr,ea,zC];rfl
 case done=>
  rintro s' ⟨H',ks,J,hk,ext,hks,ek⟩
  rw [yq,zA,yV] at ek
  obtain ⟨z,its,n,r,hl,e⟩:=J.lstM hk
  refine wpAny_bind (listItems_at e rfl ?_)
  have ei:=vals_refs r
  subst ei
  have lks:ks.length=ps.length:=by have:=congrArg List.length ek;rw [zA,zA] at this;exact this
  have pinD:=J.pin (D,seqObj "list" #[] e1) (zN _ (.head _))
  have s0D:X.s₀.heap.objs.size<=D:=zj I.sz hDs
  have kSD:kS≠D:=yA kS1
  -- the end
  have tail:∀ (st:SortSt) (qs:List (Addr×List Int)),(arrOf st).map (·.2)=(qs.map λa=>Value.ref a.1).toArray->failedOf st=none->List.Perm qs ps->qs.Pairwise (λa b=>lx (kf b.2) (kf a.2)=false)->wpAny (model X.prog X.w) A (ksk_tail D false e1 (.ref kS) st) P E s':=λst qs har hf pm so=>by
   have lq:qs.length < 64:=by rw [pm.length_eq];exact h64
   unfold ksk_tail
   dsimp only
   rw [har,hf]
   refine wpAny_bind (listUpdate_at e rfl ?_ (by rw [zF,zA];omega) (zf _))
   refine wpAny_bind (wpAny_letGo ?_)
   have s1:=Heap.SameBut.update s'.heap kS (Obj.mapSeq λ_=>(#[]:Array Value))
   have aD:(s'.heap.update kS (Obj.mapSeq λ_=>(#[]:Array Value))).get? D=some (seqObj "list" #[] e1):=(s1.2 D kSD.symm).trans pinD.1
   refine wpAny_bind (seqEpoch_at aD rfl ?_)
   refine wpAny_bind (listUpdate_at aD rfl ?_ (zf _) (by show (qs.map λa=>Value.ref a.1).toArray.size<=_;rw [zF,zA];omega))
   simp only [bne_self_eq_false,zc,if_false]
   have J2:=J.lset (its':=[]) (f:=λ_=>#[]) (t':=s'.toks) hk e (by simp) (.nil:Vals [] []) (zf _)
   have J3:Inv X pins σ (upd H' kS (.lst [])) { s' with heap:=s'.heap.update kS (Obj.mapSeq λ_=>(#[]:Array Value)) }:=J2.pins_of λp hp=>J2.pin p (zN _ (.tail _ hp))
   obtain ⟨c2,hc2⟩:∃ c2,((s'.heap.update kS (Obj.mapSeq λ_=>(#[]:Array Value))).update D (Obj.mapSeq λ_=>(qs.map λa=>Value.ref a.1).toArray)).get? D=some (seqObj "list" (qs.map λa=>Value.ref a.1).toArray c2):=⟨_,get?_update_seq aD _⟩
   have hnD:(upd H' kS (.lst [])) D=none:=by rw [xH kSD.symm];exact pinD.2.1
   have J4:Inv X pins σ (upd (upd H' kS (.lst [])) D (.lst (qs.map λa=>V.ref a.1))) { s' with heap:=(s'.heap.update kS (Obj.mapSeq λ_=>(#[]:Array Value))).update D (Obj.mapSeq λ_=>(qs.map λa=>Value.ref a.1).toArray),toks:=s'.toks }:=
    J3.adopt (λb o hb q=>(Heap.get?_update_other _ _ (Ne.symm hb)).trans q) hnD s0D (yA (zQ I.lt hDs)) (λx c hc=>zW (zQ (I.cellLt hc) hDs)) (λp hp=>zW (zQ (Heap.lt_size (I.pin p hp).1) hDs)) hc2 (vals_of_refs qs) (by rw [zA];omega)
   refine wpAny_pure (q qs _ _ J4 hnD (λb u e=>?_) pm so)
   rw [xH (xF e fK)];exact ext b u e
  unfold ksk_end
  dsimp only
  rw [if_neg (by decide:¬ false=true)]
  have szi:(ps.map λa=>Value.ref a.1).toArray.size=ps.length:=by rw [zF,zA]
  by_cases h2:ps.length < 2
  ·have h2':(ps.map λa=>Value.ref a.1).toArray.size < 2:=by rw [szi];exact h2
   rw [if_pos h2',if_pos h2']
   refine wpAny_bind (wpAny_pure ?_)
   rw [StateT.run_pure]
   refine wpAny_bind (wpAny_pure ?_)
   dsimp only
   refine tail _ ps ?_ rfl (List.Perm.refl _) ?_
   ·show ((ks.map λa=>Value.ref a.1).toArray.zip (ps.map λa=>Value.ref a.1).toArray).map (·.2)=_
    exact zip_snds (by rw [zA,zA,lks];exact zD _)
   ·match ps,h2 with
    | [],_=>exact .nil
    | [_],_=>exact List.pairwise_singleton _ _
  ·have h2':¬ (ps.map λa=>Value.ref a.1).toArray.size < 2:=by rw [szi];exact h2
   rw [if_neg h2',if_neg h2']
   have rowAt:∀ a∈ks,RowAt s'.heap a.1 a.2/\a.2≠[]:=λa ha=>by
    obtain ⟨_,its,rv,o,e,c,n,d⟩:=J.hok a.1 _ (hks a ha)
    refine ⟨⟨o,_,n,e,c,d,rv⟩,?_⟩
    have:a.2∈ks.map (·.2):=zO.mpr ⟨a,ha,rfl⟩
    rw [ek] at this
    obtain ⟨b,hb,eb⟩:=zO.mp this
    rw [<-eb];exact kne b hb
   obtain ⟨fs,kt,lf,hf⟩:=kat_tups rowAt
   refine wpAny_bind (kat_kind (T:=.type "int") kt (by omega) (λv hv=>?_) (by decide) ?_)
   ·obtain ⟨i,t,rfl⟩:=hf v hv
    exact Looks.now
   have n1:1<=(ps.map λa=>Value.ref a.1).length:=by rw [zA];omega
   have hkl:(ks.map λa=>Value.ref a.1).length=(ps.map λa=>Value.ref a.1).length:=by rw [zA,zA];exact lks
   refine wpAny_bind (wpAny_mono (kat_run (Q:=λst' s''=>s''=s'/\∃ p:Array Nat,arrOf st'=p.map (kas_item ((ks.map λa=>Value.ref a.1).toArray.zip (ps.map λa=>Value.ref a.1).toArray))/\failedOf st'=none/\Pm ps.length p/\Up (λi=>rk (ks.map (·.2)) ((ks.map (·.2)).getD i [])) p ps.length) (G:=λp s''=>s''=s'/\Pm ps.length p/\Up (λi=>rk (ks.map (·.2)) ((ks.map (·.2)).getD i [])) p ps.length) hkl (by rw [zA];omega) (by rw [zA];exact h64) (λp st' s'' a1 a2 a3 a4=>⟨a4.1,p,a2,a3,a4.2⟩) ?_) ?_ λ_ _ e=>e)
   ·rw [zA]
    refine KOK.wp (c:=cf λi=>rk (ks.map (·.2)) ((ks.map (·.2)).getD i [])) (λi j C hi hj hC=>?_) (λpp hp=>⟨rfl,hp⟩) _ (sort_ok (f:=λi=>rk (ks.map (·.2)) ((ks.map (·.2)).getD i [])) (by omega))
    have hi':i < ks.length:=by omega
    have hj':j < ks.length:=by omega
    obtain ⟨⟨o,items,n,ho,hc,hd,hv⟩,hn⟩:=rowAt ks[i] (zn hi')
    obtain ⟨⟨o',items',n',ho',hc',hd',hv'⟩,hn'⟩:=rowAt ks[j] (zn hj')
    unfold kas_ask
    have ei:(ks.map λa=>Value.ref a.1).getD i Value.none=.ref ks[i].1:=by simp [hi']
    have ej:(ks.map λa=>Value.ref a.1).getD j Value.none=.ref ks[j].1:=by simp [hj']
    rw [ei,ej]
    refine kat_lt ho hd ho' hd' (vals_lex hv hv' (by simp) ?_)
    have e:cf (λi=>rk (ks.map (·.2)) ((ks.map (·.2)).getD i [])) i j=lx ks[i].2 ks[j].2:=by
     unfold cf
     have e1:(ks.map (·.2)).getD i []=ks[i].2:=by simp [hi']
     have e2:(ks.map (·.2)).getD j []=ks[j].2:=by simp [hj']
     simp only [e1,e2]
     exact rk_lt (zO.mpr ⟨ks[i],zn hi',rfl⟩)
    rw [e] at hC
    exact hC
   ·rintro ⟨⟨⟩,st'⟩ s'' ⟨rfl,p,har,hfl,pm,up⟩
    dsimp only
    have pl:p.toList.Perm (List.range ps.length):=by
     have:=pm.toList
     simpa using this
    have perm:(p.toList.map λi=>ps.getD i (0,[])).Perm ps:=by
     have:=pl.map λi=>ps.getD i (0,[])
     rwa [range_map] at this
    refine tail st' (p.toList.map λi=>ps.getD i (0,[])) ?_ hfl perm ?_
    ·rw [kat_snds hkl har,zp]
     congr 1
     refine yS λi hi=>?_
     have hi':i < ps.length:=zk.mp (pl.mem_iff.mp hi)
     simp [hi']
    ·rw [zt]
     intro i j hi hj hij
     simp only [zA,Array.length_toList] at hi hj
     simp only [List.getElem_map,Array.getElem_toList]
     have hn:p.size=ps.length:=pm.size
     have key:=up i j (yz hij) (by omega)
     have a1:p[i] < ps.length:=zk.mp (pl.mem_iff.mp (by simp))
     have a2:p[j] < ps.length:=zk.mp (pl.mem_iff.mp (by simp))
     unfold g SmSort.at' at key
     simp only [hi,hj,getElem?_pos,Option.getD_some] at key
     have e0:∀ k (hk:k < ps.length),(ks.map (·.2)).getD k []=kf ps[k].2:=λk hk=>by rw [ek];simp [hk]
     have e1:=e0 p[i] a1
     have e2:=e0 p[j] a2
     rw [e1,e2] at key
     have e3:ps.getD p[i] (0,[])=ps[p[i]]:=by simp [a1]
     have e4:ps.getD p[j] (0,[])=ps[p[j]]:=by simp [a2]
     rw [e3,e4]
     have:=rk_lt (rs:=ks.map (·.2)) (a:=kf ps[p[j]].2) (b:=kf ps[p[i]].2) (by rw [ek];exact zO.mpr ⟨_,zn a2,rfl⟩)
     rw [<-this]
     simp only [decide_eq_false_iff_not]
     omega
end
end L2
namespace L2
open PySem PySem.Spec PyProof.Rows PySem.W SmSort PySem.Calls
def tSortK (P:Addr) (lpos:Pos) (qual:Str) (ok:List Int->Prop) (kf:List Int->List Int) (te:TE):TE:=fun σ H Q=>te σ H λx H1=>∃ p,∃ ps:List (Addr×List Int),[x]=[V.ref p]/\H1 p=some (.lst (ps.map λa=>V.ref a.1))/\ps.length < 64/\MT P lpos qual H1/\(∀ a∈ps,H1 a.1=some (.tup (a.2.map V.int))/\ok a.2) /\
 ∀ l (qs:List (Addr×List Int)) H2,H1 l=none->Sm.But P H1 H2->MT P lpos qual H2->H2 l=some (.lst (qs.map λa:Addr×List Int=>V.ref a.1))->List.Perm qs ps->qs.Pairwise (λa b:Addr×List Int=>lx (kf b.2) (kf a.2)=false)->Q (.ref l) H2
section
variable {X:Cx}{e body:Expr}{te:TE}{np kp lpos pos:Pos}{params:Arguments}{scope:Scope}{P c:Addr}{N:List Str}{ok:List Int->Prop}{kf:List Int->List Int}{pn:Str}
theorem pe_sortKey (hg:Gl X "sorted") (hm:X.mg "sorted" = none) (hcode:X.env.code=.ref c) (hcd:codeHdIn X.K c P=true) (bm:BmAt X.mg X.base) (hdef:defaultsOf params X.env=([],[])) (hcl:closureFor scope X.env=pure []) (hr:Room 3 X.A)
  (S:FnScope N [pn] scope) (hbind:∀ pm c' ctv u,bindArgs (kla_fn "<lambda>" (X.env.qual ++ "<lambda>") params body scope [] pm (.ref c') ctv) ⟨[u],[]⟩=pure (List.zip [pn] [u])) (kne:∀ r,ok r->kf r≠[])
  (hbody:∀ f c' A s H,∃ t,PE (cxOf CX0 X.prog X.w X.K X.mg X.base N (X.env.qual ++ "<lambda>") scope f (.ref c') A X.stack s H E0).nox body t/\∀ a r,H a=some (.tup (r.map V.int))->ok r->t (start N [.ref a]) H (λv H''=>∃ t,v=.ref t/\Same H H''/\H'' t=some (.tup ((kf r).map V.int))))
  (he:PE X e te) (ns:notStar e=true) :
  PE X (.Call (.Name "sorted" np) [e] [⟨some "key", .Lambda params body scope lpos,kp⟩] pos) (tSortK P lpos (X.env.qual ++ "<lambda>") ok kf te):=by
 intro pins s σ H Q I h
 have ha:PA X [e] (tCons te tNil):=xA (xB he xG ns)
 have line:100<=sizeLine:=by rw [sizeLine_eq];decide
 refine wpAny_Call_Name_kw (ld_blt I hg hm PyProof.Rows.boot_sorted ?_ (by decide) (by decide))
 refine callWith_kw (thn (ha pos pins s σ H (λvs H1=>∃ p,∃ ps:List (Addr×List Int),vs=[V.ref p]/\H1 p=some (.lst (ps.map λa=>V.ref a.1))/\ps.length < 64/\MT P lpos (X.env.qual ++ "<lambda>") H1/\(∀ a∈ps,H1 a.1=some (.tup (a.2.map V.int))/\ok a.2) /\
  ∀ l (qs:List (Addr×List Int)) H2,H1 l=none->Sm.But P H1 H2->MT P lpos (X.env.qual ++ "<lambda>") H2->H2 l=some (.lst (qs.map λa:Addr×List Int=>V.ref a.1))->List.Perm qs ps->qs.Pairwise (λa b:Addr×List Int=>lx (kf b.2) (kf a.2)=false)->Q (.ref l) H2) I h)
  λus s1 ⟨vs,H1,I1,r1,q1⟩=>kws_cons ?_) (by rw [star_cons ns];rfl) (by rw [star_cons ns];rfl)
 obtain ⟨p,ps,rfl,hp,h64,mt,rows,q⟩:=q1
 obtain ⟨u,rfl,ru⟩:=vals1 r1
 cases ru
 refine lam_eval I1 mt hcode hcd bm hdef hcl λf c' ctv pm H' s' J hc' bt mt'=>kws_nil ?_
 have neP:∀ b u,H1 b=some u->(∀ ys,u≠.tbl ys)->b≠P:=λb u e n z=>by
  rcases mt with m | ⟨_,m,_⟩ <;> (rw [z,m] at e;cases e;exact n _ rfl)
 have hp':=bt _ _ (neP _ _ hp (by intro ys z;cases z)) hp
 have rows':∀ a∈ps,H' a.1=some (.tup (a.2.map V.int)):=λa ha=>bt _ _ (neP _ _ (rows a ha).1 (by intro ys z;cases z)) (rows a ha).1
 obtain ⟨z,its,n,r,hl,hpe⟩:=J.lstM hp'
 have ei:=vals_refs r
 subst ei
 refine call_function_entry_kw kind_sorted plain_sorted entry_sorted (ksk_s1 _ _) ?_
 unfold Builtin.«sorted»
 refine wpAny_bind (m:=checkCount "sorted" 1 1 _) (wpAny_pure ?_)
 refine wpAny_bind (collect_list (vs:=(ps.map λa=>Value.ref a.1)) ⟨_,hpe,rfl,_,rfl⟩ ?_ (by rw [zA];omega))
 refine wpAny_bind (wpAny_newList ?_ (by rw [zA];omega))
 have hsz:((s'.heap.push (seqObj "list" #[] 0)).update s'.heap.objs.size (Obj.mapSeq (·++(ps.map λa=>Value.ref a.1).toArray))).objs.size=s'.heap.objs.size + 1:=by
  rw [Heap.size_update,size_push']
 have hoL:(((s'.heap.push (seqObj "list" #[] 0)).update s'.heap.objs.size (Obj.mapSeq (·++(ps.map λa=>Value.ref a.1).toArray))).push (seqObj "list" (ps.map λa=>Value.ref a.1).toArray 0)).get? (s'.heap.objs.size + 1)=some (seqObj "list" (ps.map λa=>Value.ref a.1).toArray 0):=by
  rw [<-hsz];exact Heap.get?_push_size _ rfl
 have keep:∀ b o,s'.heap.get? b=some o->(((s'.heap.push (seqObj "list" #[] 0)).update s'.heap.objs.size (Obj.mapSeq (·++(ps.map λa=>Value.ref a.1).toArray))).push (seqObj "list" (ps.map λa=>Value.ref a.1).toArray 0)).get? b=some o:=λb o q=>by
  have hlt:b < s'.heap.objs.size:=Heap.lt_size q
  rw [Heap.get?_push_ne _ _ _ (by rw [hsz];exact zW (yD hlt)),Heap.get?_update_ne _ _ _ _ (zW hlt),Heap.get?_push_ne _ _ _ (zW hlt)]
  exact q
 show wpAny _ _ _ _ _ { s' with heap:=((s'.heap.push (seqObj "list" #[] 0)).update s'.heap.objs.size (Obj.mapSeq (·++(ps.map λa=>Value.ref a.1).toArray))).push (seqObj "list" (ps.map λa=>Value.ref a.1).toArray 0) }
 rw [hsz]
 refine wpAny_bind (wpAny_holding (wpAny_call_entry_kw slot_list_sort ⟨_,hoL,rfl⟩ entry_list_sort ?body (ksk_l1 _ _)))
 have hmem:(f,kla_obj "<lambda>" (X.env.qual ++ "<lambda>") params body scope [] pm c' ctv)∈(f,kla_obj "<lambda>" (X.env.qual ++ "<lambda>") params body scope [] pm c' ctv)::pins:=.head _
 show wpAny (model X.prog X.w) X.A.in1.in1 (Builtin.«list.sort» ⟨[.ref (s'.heap.objs.size + 1)],[(Str.ofString "key", .ref f)]⟩) _ _ _
 rw [ksk_t1]
 refine sort_tree (kf:=kf) (ps:=ps) J keep (yj _) (by rw [Heap.size_push,hsz];exact Nat.lt_succ_self _) hoL h64 rows' (λa ha=>kne _ (rows a ha).2) (λpins' a rr s2 H2 sub ha J2 ext=>?_) λqs H2 s2 J2 hn ext pm' so=>?_
 ·have hf:=J2.pin _ (zN _ (sub _ hmem))
  have hcr:s2.heap.CodeRec (.ref c') (X.env.qual ++ "<lambda>"):=(J2.hok c' _ (ext _ _ hc')).1
  obtain ⟨t,ht,hq⟩:=hbody f c' X.A.in1.in1 s2 H2
  refine wpAny_call (codeAny_mono (lam_run (k:=0) S hr.in1.in1 J2.env0.in1.in1 hf.1 hcr (hbind pm c' ctv (.ref a)) (vs:=[V.ref a]) rfl (.cons rfl .nil) ⟨t,ht,hq a rr (ext _ _ (rows' _ ha)) (rows _ ha).2⟩) λr s3 hr3=>?_)
  cases r with
  | error e=>exact hr3.elim
  | ok fl=>
   cases fl with
   | ret u=>exact J2.after hr3
   | next=>exact False.elim hr3
   | brk=>exact False.elim hr3
   | cont=>exact False.elim hr3
 ·refine ⟨_,rfl,wpAny_pure ⟨_,rfl,?_⟩⟩
  have fr:H' (s'.heap.objs.size + 1)=none:=J.hok.fresh (yj _)
  have ext':∀ b u,H' b=some u->upd H2 (s'.heap.objs.size + 1) (.lst (qs.map λa=>V.ref a.1)) b=some u:=λb u e=>by rw [xH (xF e fr)];exact ext b u e
  refine ⟨.ref (s'.heap.objs.size + 1),_,J2.pins_of λp hp=>J2.pin p (zN _ (.tail _ hp)),rfl,q _ qs _ ?_ (λb u n e=>ext' b u (bt b u n e)) ?_ xC pm' so⟩
  ·cases e:H1 (s'.heap.objs.size + 1) with
   | none=>rfl
   | some u=>
    by_cases z:s'.heap.objs.size + 1=P
    ·rcases mt' with m | ⟨_,m,_⟩ <;> (rw [<-z,fr] at m;cases m)
    ·rw [bt _ _ z e] at fr;cases fr
  ·rcases mt' with m | ⟨c1,m,m2⟩
   ·exact .inl (ext' _ _ m)
   ·exact .inr ⟨c1,ext' _ _ m,ext' _ _ m2⟩
theorem Fun.okC {P:Program}{w:World}{K:PySem.W.Frag}{mg:Str->Option Value}{base:Heap}{x qual:Str}{st:Stmt}{f c:Addr}{fd:FuncData}{N ps:List Str}{k:Nat}{sp:Sp} (F:Fun K x qual st f fd) (hc:fd.code=.ref c) (S:FnScope N ps (defScope st)) (len:∀ vs H Q E,sp vs H Q E->vs.length=ps.length)
  (hbody:∀ (A:Around) (outer:List Env) (s:Shared) (H:Hp) (vs:List V) (Q:VK) (E:XK),Room k (A.deeper (envOfC qual (defScope st) s.heap.objs.size f (.ref c)))->sp vs H Q E ->
   ∃ t,PSs (cxOf CX0 P w K mg base N qual (defScope st) f (.ref c) A outer s H E).nox (defBody st) t/\t { nx:=λ_ H'=>Q .non H',rt:=Q } (start N vs) H):FnOk P w K mg base CX0 (k + 1) f fd ps sp:=by
 obtain ⟨oc,od,kV,doc,pm,an,cdv,ct,osl,rfl,lk,hcd⟩:=F.ex
 have hc:cdv=.ref c:=hc
 subst hc
 refine fn_of lk hcd S len λA outer s H vs Q E hr hsp=>?_
 obtain ⟨t,h,q⟩:=hbody A outer s H vs Q E hr hsp
 exact ⟨t,h.nox,q⟩
end
end L2
namespace L2
open PySem PySem.Spec PyProof.Rows PySem.W
theorem noTab_of {K:PySem.W.Frag}{h:Heap}{P:Addr} (X:K.In h) (hP:h.get? P=some (tabObj #[])) (nt:noTabs K=true):K.lookup P=none:=by
 cases e:K.lookup P with
 | none=>rfl
 | some o=>
  have h1:=X P o e
  rw [hP] at h1;cases h1
  have h2:=yc.mp nt (P,_) (mem_of_lookupK e)
  exact absurd (show false=true from h2) zL
theorem law_callT {P:Program}{w:World}{K:PySem.W.Frag}{mg mb:Str->Option Value}{CX:CXT}{k:Nat}{fa a c T:Addr}{fd:FuncData}{x:Str}{sp:Sp}{s₁:Shared}{vs:List Value}{ns:List Int}
  (KX:K.In s₁.heap) (hns:s₁.heap.Ns mainGlobals mg) (hb:s₁.heap.Ns builtinsNs mb) (hbb:∀ x:Str,x ≠ "__name__" -> mb x=bootBuiltins x) (hlim:s₁.heap.NoLimit) (hg:s₁.gens=#[])
  (hT:s₁.heap.get? T=some (tabObj #[])) (hC:codeHdIn K c T=true) (nt:noTabs K=true) (hbm:∃ bm ob,mg "__builtins__" = some (.ref bm)/\bm≠builtinsNs/\s₁.heap.get? bm=some ob/\ob.cls=.type "module" /\ ob.dict=some builtinsNs/\ob.data=.plain)
  (ha:s₁.heap.get? a=some { cls:=.type "list", data:=.seq vs.toArray }) (hi:IntsAre vs ns) (hl:ns.length<=sizeLine) (hr:Room k callerA)
  (F:∀ base:Heap,K.In base->base.Ns mainGlobals mg->BmAt mg base->FnOk P w K mg base CX k fa fd [x] sp) (hbind:∀ (s:Shared) (u:Value),BindsTo s fd ⟨[u],[]⟩ [(x,u)])
  (hsp:∀ H:Hp,H T=some (.tbl #[])->SqL K H a (ns.map V.int)->sp [.ref a] H (λv _=>v=.bl true) λ_ _ _=>False)
  (hCX:∀ H e s',CX [] H s₁ (λ_ _ _=>False) e s'->False) :
  codeAny (model P w) callerA (.call (.ref fa) ⟨[.ref a],[]⟩) (λr s'=>r=.ok (.ret (.bool true))/\OldK s₁.heap s'.heap/\s'.os=s₁.os/\AllBare s'.gens) s₁:=by
 have rv:=vals_ints hi
 have lenV:=hi.length
 have naT:a≠T:=λz=>by rw [z,hT] at ha;cases ha
 have lkT:=noTab_of KX hT nt
 have isT:=((codeHd_of_K KX hC).tab hT).isCodeTable
 have core:∀ H:Hp,(∀ b,H b=none\/(b=a/\∃ o xs,H b=some (.frz o (.lst xs)))\/(b=T/\H b=some (.tbl #[])))->H T=some (.tbl #[])->SqL K H a (ns.map V.int)->HOk P w H s₁.heap->(H a≠none->K.lookup a=none) ->
   codeAny (model P w) callerA (.call (.ref fa) ⟨[.ref a],[]⟩) (λr s'=>r=.ok (.ret (.bool true))/\OldK s₁.heap s'.heap/\s'.os=s₁.os/\AllBare s'.gens) s₁:=by
  intro H hO hTH hS hok hK
  have base_of:∀ {b:Addr}{o:Obj},s₁.heap.get? b=some o->H b=none->(hidT s₁.heap H).get? b=some o:=λe n=>hidT_get e n
  have noH:∀ {b:Addr}{o:Obj},s₁.heap.get? b=some o->(∀ i n,o.data≠.seq i n)->(∀ f,o.data≠.fields f)->H b=none:=λ{b o} e d1 d2=>by
   rcases hO b with q | ⟨rfl,_⟩ | ⟨rfl,_⟩
   ·exact q
   ·rw [ha] at e;cases e;exact absurd rfl (d1 _ _)
   ·rw [hT] at e;cases e;exact absurd rfl (d2 _)
  have nsK:∀ {b:Addr}{m:Str->Option Value},s₁.heap.Ns b m->(hidT s₁.heap H).Ns b m:=λ{b m} ⟨o,es,ep,e,d,r⟩=>⟨o,es,ep,base_of e (noH e (λi n z=>by rw [d] at z;cases z) λf z=>by rw [d] at z;cases z),d,r⟩
  have hKb:K.In (hidT s₁.heap H):=λb o e=>base_of (KX b o e) (by
   rcases hO b with q | ⟨rfl,_,_,q⟩ | ⟨rfl,q⟩
   ·exact q
   ·rw [hK (by rw [q];simp)] at e;cases e
   ·rw [lkT] at e;cases e)
  have hM:Mod K mg (hidT s₁.heap H):=⟨hKb,nsK hns,⟨mb,nsK hb,hbb⟩,let ⟨mc,h1,h2⟩:=hlim;⟨mc,nsK h1,h2⟩⟩
  have hB:BmAt mg (hidT s₁.heap H):=by
   obtain ⟨bm,ob,b1,b2,b3,b4,b5,b6⟩:=hbm
   refine ⟨bm,ob,b1,b2,λz=>?_,base_of b3 (noH b3 (λi n z=>by rw [b6] at z;cases z) λf z=>by rw [b6] at z;cases z),b4,b5,b6⟩
   obtain ⟨o,es,ep,e,d,_⟩:=hns
   rw [z,e] at b3;cases b3;rw [b6] at d;cases d
  have e0:Env0 P w K mg (hidT s₁.heap H) callerA [] s₁ H:=⟨rfl,hM,λb o e=>of_hidT e,Nat.le_of_eq (hidT_size _ _),trivial,λb hb=>absurd (show b∈([]:List Addr) from hb) (by simp),hok,.of_eq hg⟩
  refine codeAny_mono ((F _ hKb (nsK hns) hB).run callerA [] s₁ H ⟨[.ref a],[]⟩ [.ref a] [.ref a] _ _ hr e0 (hbind s₁ (.ref a)) (.cons rfl .nil) (hsp H hTH hS)) λr s' h=>?_
  cases r with
  | error e=>exact (hCX H e s' h).elim
  | ok fl=>
   cases fl with
   | next=>exact False.elim h
   | brk=>exact False.elim h
   | cont=>exact False.elim h
   | ret u=>
    obtain ⟨v,H',os,bare,un,hok',r',q⟩:=h
    have q':v=.bl true:=q
    subst q'
    obtain rfl:u=Value.bool true:=r'
    have all:∀ b o,s₁.heap.get? b=some o->s'.heap.get? b=some o\/(b=T/\∃ ps,s'.heap.get? T=some (tabObj ps)):=λb o e=>by
     rcases hO b with q | ⟨_,ob,xs,z⟩ | ⟨rfl,z⟩
     ·exact .inl (un.keep b o e q (by intro z;exact absurd (show b∈([]:List Addr) from z) (by simp)) (by simp))
     ·have z2:=un.frzs b ob _ z
      obtain ⟨e1,_⟩:=hok b _ z
      obtain ⟨e2,_⟩:=hok' b _ z2
      rw [e] at e1;cases e1
      exact .inl e2
     ·obtain ⟨more,z2⟩:=un.tbls b _ z
      have e2:s'.heap.get? b=some _:=hok' b _ z2
      exact .inr ⟨rfl,_,e2⟩
    refine ⟨rfl,⟨λb o e=>?_,λb o e=>?_⟩,os,bare⟩
    ·rcases all b o e with q | ⟨rfl,ps,q⟩
     ·exact .inl q
     ·rw [hT] at e;cases e
      exact .inr (.inl ⟨isT,rfl,#[],ps,rfl,by rw [Array.empty_append];exact q⟩)
    ·rcases all b o e with q | ⟨rfl,ps,q⟩
     ·exact ⟨_,q⟩
     ·exact ⟨_,q⟩
 cases hk:K.lookup a with
 | some o=>
  have e:=KX a o hk
  rw [ha] at e
  cases e
  refine core (λb=>if b=T then some (.tbl #[]) else none) (λb=>?_) (if_pos rfl) (.inr ⟨_,vs.toArray,_,hk,rfl,rfl,rfl,by rw [zF,lenV];exact hl,by simpa using rv⟩) (λb u z=>?_) λz=>absurd (if_neg naT) z
  ·by_cases hb:b=T
   ·exact .inr (.inr ⟨hb,if_pos hb⟩)
   ·exact .inl (if_neg hb)
  ·by_cases hb:b=T
   ·have z':=(if_pos hb).symm.trans z
    cases z'
    subst hb
    exact hT
   ·have z':=(if_neg hb).symm.trans z
    cases z'
 | none=>
  have at1:(λb=>if b=T then some (HO.tbl #[]) else if b=a then some (.frz { cls:=.type "list", data:=.seq vs.toArray } (.lst (ns.map V.int))) else none) a=some (.frz { cls:=.type "list", data:=.seq vs.toArray } (.lst (ns.map V.int))):=(if_neg naT).trans (if_pos rfl)
  refine core (λb=>if b=T then some (.tbl #[]) else if b=a then some (.frz { cls:=.type "list", data:=.seq vs.toArray } (.lst (ns.map V.int))) else none) (λb=>?_) (if_pos rfl) (.inl (.inr ⟨{ cls:=.type "list", data:=.seq vs.toArray },at1⟩)) (λb u z=>?_) λ_=>hk
  ·by_cases hb:b=T
   ·exact .inr (.inr ⟨hb,if_pos hb⟩)
   ·by_cases hb':b=a
    ·exact .inr (.inl ⟨hb',_,_,(if_neg hb).trans (if_pos hb')⟩)
    ·exact .inl ((if_neg hb).trans (if_neg hb'))
  ·by_cases hb:b=T
   ·have z':=(if_pos hb).symm.trans z
    cases z'
    subst hb
    exact hT
   ·by_cases hb':b=a
    ·have z':=((if_neg hb).trans (if_pos hb')).symm.trans z
     cases z'
     subst hb'
     exact ⟨ha,by rw [zA];exact hl,vs,_,rv,ha⟩
    ·have z':=((if_neg hb).trans (if_neg hb')).symm.trans z
     cases z'
theorem walk_ofT {l:PySem.W.OpenLaw}{n k:Nat}{q:Program}{loose:List Str}{XP:(Str->Option Value)->Heap->Prop}{YP:World->Heap->Prop}{d:DefRec}{K:Params->PySem.W.Frag}{CX:World->CXT}{sp:World->Sp}{x:Str}{T:Addr}
  (hn:l.most=some n) (hn2:n<=sizeLine) (hdf:d.params.defaults=[]) (hr:Room k callerA)
  (hY:∀ (w:World) (h:Heap),YP w h->(K w.params).In h/\h.get? T=some (tabObj #[])) (nt:∀ w:World,noTabs (K w.params)=true)
  (F:∀ (w:World) (mg:Str->Option Value) (fa:Addr) (h:Heap),(K w.params).In h->h.Ns mainGlobals mg->mg d.name=some (.ref fa) ->
   ∃ fd:FuncData,(∃ c,codeHdIn (K w.params) c T=true)/\(∀ (s:Shared) (u:Value),BindsTo s fd ⟨[u],[]⟩ [(x,u)]) /\
    ∀ base:Heap,(K w.params).In base->base.Ns mainGlobals mg->BmAt mg base->FnOk l.prog w (K w.params) mg base (CX w) k fa fd [x] (sp w))
  (hsp:∀ (w:World) (H:Hp) (a:Addr) (ns:List Int),ns.length<=n->H T=some (.tbl #[])->SqL (K w.params) H a (ns.map V.int)->sp w [.ref a] H (λv _=>v=.bl true) λ_ _ _=>False)
  (hCX:∀ (w:World) (H:Hp) (s:Shared) (e:Value) (s':Shared),CX w [] H s (λ_ _ _=>False) e s'->False) :
  PySem.W.WalkO q loose XP YP l.row.toRowW d [] (λf vs=>PySem.call f vs):=by
 refine Att.attach_call hn hdf λw s₀ s₁ mg mb fa o pm cd doc a vs ns G Y ho hd hcd hmg hobj hints hlen hg=>?_
 obtain ⟨KX,tX⟩:=hY w _ Y
 obtain ⟨fd,⟨c,hC⟩,hb,hF⟩:=F w mg fa _ KX G.T.g hmg
 exact law_callT KX G.T.g G.T.b G.T.builtins G.T.nolimit hg tX hC (nt w) G.T.bmain hobj hints (zj hlen hn2) hr hF hb (λH hO hS=>hsp w H a ns hlen hO hS) λH e s'=>hCX w H s₁ e s'
end L2
namespace Sm
open PySem L2 SmSort
def whenOf (ms:List M4) (j:Int):Int:=((ms[j.toNat]?).map (·.t)).getD 0
def whens (ms:List M4) (k:Nat):List Int:=(numsTo ms k ms.length).map (whenOf ms)
section
variable {n k w:Nat}{ms:List M4}{day:Int}
end
def nextOf (ts:List (Int×Int)) (b:Int) (k:Nat):Int:=match ts[k + 1]? with
 | some q=>q.1
 | none=>b
end Sm
namespace Sm
open PySem L2 SmSort
def lamQ:Str:=(("made_book" : Str) ++ ".<locals>.") ++ "<lambda>"
def spLawT (K:PySem.W.Frag) (T:Addr) (lp:Pos):Sp:=λvs H Q _=>∃ (a:Addr) (ns:List Int),vs=[.ref a]/\SqL K H a (ns.map V.int)/\ns.length<=63/\MT T lp lamQ H/\∀ H',Q (.bl true) H'
def M4.norm (r:M4):M4:=⟨min r.lo r.hi,max r.lo r.hi,r.t,r.m⟩
def M4.ints (r:M4):List Int:=[r.lo,r.hi,r.t,r.m]
structure Raw (w:Int) (ms:List M4):Prop where
 few:ms.length<=60
 each:∀ r∈ms,0<=r.lo/\r.lo < w/\0<=r.hi/\r.hi < w/\r.lo≠r.hi/\1<=r.t/\r.t<=1000000000/\1<=r.m/\r.m<=99
 pw:ms.Pairwise λa b=>a.t=b.t->apart a b
theorem apart.symm {a b:M4} (h:apart a b):apart b a:=⟨h.1.symm,h.2.2.1.symm,h.2.1.symm,h.2.2.2.symm⟩
theorem apart.norm {a b:M4} (h:apart a b):apart a.norm b.norm:=by
 obtain ⟨h1,h2,h3,h4⟩:=h
 unfold apart M4.norm
 dsimp only
 refine ⟨?_,?_,?_,?_⟩ <;> omega
theorem Raw.loose {w:Int}{ms:List M4} (g:Raw w ms):Loose w (ms.map M4.norm):=by
 refine ⟨by rw [zA];exact g.few,λr hr=>?_,yE.mpr (g.pw.imp λh e=>(h e).norm)⟩
 obtain ⟨x,hx,rfl⟩:=zO.mp hr
 obtain ⟨h1,h2,h3,h4,h5,h6,h7,h8,h9⟩:=g.each x hx
 unfold M4.norm
 dsimp only
 exact ⟨by omega,by omega,by omega,h6,h7,h8,h9⟩
theorem Raw.of_norm {w:Int}{ms:List M4} (g:Loose w (ms.map M4.norm)):Raw w ms:=by
 refine ⟨by have:=g.few;rwa [zA] at this,λr hr=>?_,(yE.mp g.pw).imp λ{a b} h e=>?_⟩
 ·have:=g.each _ (zO.mpr ⟨r,hr,rfl⟩)
  unfold M4.norm at this
  dsimp only at this
  obtain ⟨h1,h2,h3,h4,h5,h6,h7⟩:=this
  exact ⟨by omega,by omega,by omega,by omega,by omega,h4,h5,h6,h7⟩
 ·have:=h e
  unfold apart M4.norm at this
  dsimp only at this
  obtain ⟨h1,h2,h3,h4⟩:=this
  refine ⟨?_,?_,?_,?_⟩ <;> omega
theorem Raw.perm {w:Int}{ms ns:List M4} (g:Raw w ms) (p:ns.Perm ms):Raw w ns:=
 ⟨by rw [p.length_eq];exact g.few,λr hr=>g.each r (p.mem_iff.mp hr),(List.Perm.pairwise_iff (λ{x y} h e=>(h e.symm).symm) p).mpr g.pw⟩
theorem Good.raw {w:Int}{ms:List M4} (g:Good w ms):Raw w ms:=by
 refine ⟨g.few,λr hr=>?_,g.loose.pw⟩
 obtain ⟨h1,h2,h3,h4,h5,h6,h7⟩:=g.each r hr
 exact ⟨h1,by omega,by omega,h3,by omega,h4,h5,h6,h7⟩
theorem Good.norm {w:Int}{ms:List M4} (g:Good w ms):ms.map M4.norm=ms:=by
 conv=>rhs;rw [<-List.map_id ms]
 refine yS λr hr=>?_
 obtain ⟨h1,h2,h3,h4,h5,h6,h7⟩:=g.each r hr
 have e1:min r.lo r.hi=r.lo:=by omega
 have e2:max r.lo r.hi=r.hi:=by omega
 unfold M4.norm
 rw [e1,e2];rfl
theorem Good.eq {w w':Int}{ms ns:List M4} (g:Good w ms) (h:Good w' ns) (p:ms.Perm ns):ms=ns:=by
 refine List.Perm.eq_of_pairwise (le:=λa b=>a.t < b.t\/(a.t=b.t/\a.lo < b.lo/\apart a b)) (λa b _ _ x y=>?_) g.order h.order p
 rcases x with x | x <;> rcases y with y | y <;> omega
def keyF (l:List Int):List Int:=[l.getD 2 0,l.getD 0 0]
theorem keyF_ne (l:List Int) (_:l.length=4):keyF l≠[]:=by intro h;cases h
theorem lx2 {a b c d:Int} (h:lx [a,b] [c,d]=false):c < a\/(c=a/\d<=b):=by
 by_cases e:a=c
 ·subst e
  by_cases e2:b=d
  ·subst e2;exact .inr ⟨rfl,Int.le_refl _⟩
  ·simp [lx,e2] at h
   exact .inr ⟨rfl,h⟩
 ·simp [lx,e] at h
  omega
theorem keyed_back {fs:List (Addr×M4)}{qs:List (Addr×List Int)} (p:qs.Perm (fs.map λa=>(a.1,a.2.ints))) (s:qs.Pairwise λa b=>lx (keyF b.2) (keyF a.2)=false) :
  ∃ rs:List (Addr×M4),rs.Perm fs/\(rs.Pairwise λa b=>a.2.t < b.2.t\/(a.2.t=b.2.t/\a.2.lo<=b.2.lo))/\qs=rs.map λa=>(a.1,a.2.ints):=by
 have back:∀ x∈qs,((x.1,(⟨x.2.getD 0 0,x.2.getD 1 0,x.2.getD 2 0,x.2.getD 3 0⟩:M4).ints):Addr×List Int)=x:=λx hx=>by
  obtain ⟨y,hy,rfl⟩:=zO.mp (p.mem_iff.mp hx)
  rfl
 have e:qs=(qs.map λx:Addr×List Int=>((x.1,(⟨x.2.getD 0 0,x.2.getD 1 0,x.2.getD 2 0,x.2.getD 3 0⟩:M4)):Addr×M4)).map λa=>(a.1,a.2.ints):=by
  rw [zp]
  conv=>lhs;rw [<-List.map_id qs]
  exact yS λx hx=>(back x hx).symm
 refine ⟨qs.map λx:Addr×List Int=>((x.1,(⟨x.2.getD 0 0,x.2.getD 1 0,x.2.getD 2 0,x.2.getD 3 0⟩:M4)):Addr×M4),?_,?_,e⟩
 ·have:=p.map λx:Addr×List Int=>((x.1,(⟨x.2.getD 0 0,x.2.getD 1 0,x.2.getD 2 0,x.2.getD 3 0⟩:M4)):Addr×M4)
  rw [zp] at this
  refine this.trans ?_
  have e2:(fs.map ((λx:Addr×List Int=>((x.1,(⟨x.2.getD 0 0,x.2.getD 1 0,x.2.getD 2 0,x.2.getD 3 0⟩:M4)):Addr×M4)) ∘ λa:Addr×M4=>(a.1,a.2.ints)))=fs:=by
   conv=>rhs;rw [<-List.map_id fs]
   exact yS λ_ _=>rfl
  rw [e2]
 ·refine yE.mpr (s.imp λ{a b} h=>?_)
  dsimp only
  exact lx2 h
theorem Loose.good2 {w:Int}{fs qs:List (Addr×M4)} (g:Loose w (fs.map (·.2))) (p:qs.Perm fs) (s:qs.Pairwise λa b=>a.2.t < b.2.t\/(a.2.t=b.2.t/\a.2.lo<=b.2.lo)):Good w (qs.map (·.2)):=by
 have pm:=p.map (·.2)
 refine ⟨by rw [pm.length_eq];exact g.few,λr hr=>g.each r (pm.mem_iff.mp hr),?_⟩
 have ap:(qs.map (·.2)).Pairwise λa b=>a.t=b.t->apart a b:=(List.Perm.pairwise_iff (λ{x y} h e=>(h e.symm).symm) pm).mpr g.pw
 refine yE.mpr ((s.and (yE.mp ap)).imp ?_)
 rintro a b ⟨h | ⟨h1,h2⟩,k⟩
 ·exact .inl h
 ·have:=k h1
  exact .inr ⟨h1,by have:=this.1;omega,this⟩
def spAreRooms:Sp:=λvs H Q _=>∃ p rooms,vs=[.ref p]/\H p=some (.lst (List.map V.int rooms))/\1<=rooms.length/\rooms.length<=12/\(∀ r∈rooms,(0:Int)<=r/\r<=99)/\∀ H',Same H H'->Q (.bl true) H'
def spIsMeet:Sp:=λvs H Q _=>∃ w t,∃ r:M4,vs=[.int w,.ref t]/\H t=some (.tup r.vs)/\(0<=r.lo/\r.lo < w/\0<=r.hi/\r.hi < w/\r.lo≠r.hi/\1<=r.t/\r.t<=1000000000/\1<=r.m/\r.m<=99)/\Q (.bl true) H
def spTwice:Sp:=λvs H Q _=>∃ l fs w,vs=[.ref l]/\ListAt H l fs/\Raw w (fs.map (·.2))/\∀ H',Same H H'->Q (.bl false) H'
def spLsrF:Sp:=λvs H Q _=>∃ t,∃ r:M4,vs=[.ref t]/\H t=some (.tup r.vs)/\∀ t' H',Same H H'->H' t'=some (.tup r.norm.vs)->Q (.ref t') H'
def spMade (T:Addr) (lp:Pos):Sp:=λvs H Q _=>∃ pr pm rooms fs,vs=[.ref pr,.ref pm]/\H pr=some (.lst (List.map V.int rooms))/\1<=rooms.length/\rooms.length<=12/\(∀ r∈rooms,(0:Int)<=r/\r<=99)/\ListAt H pm fs/\Raw rooms.length (fs.map (·.2))/\MT T lp lamQ H /\
 ∀ b tr tm ps H',But T H H'->MT T lp lamQ H'->BookAt H' b rooms tr tm ps->Good rooms.length (ps.map (·.2))->(ps.map (·.2)).Perm (fs.map λa=>a.2.norm)->Q (.ref b) H'
end Sm
namespace L2
open PySem
theorem MT.same {P:Addr}{pos:Pos}{qual:Str}{H H':Hp} (m:MT P pos qual H) (s:Same H H'):MT P pos qual H':=by
 rcases m with m | ⟨c,m,m2⟩
 ·exact .inl (s _ _ m)
 ·exact .inr ⟨c,s _ _ m,s _ _ m2⟩
end L2
namespace Sm
open PySem L2 SmSort
theorem lam_key {K:PySem.W.Frag}{H:Hp}{a:Addr}{r:List Int} (h:H a=some (.tup (r.map V.int))) (ho:r.length=4) :
  ∃ x,SqT K H a x/\∃ y,atI x 2=some y/\∃ x,SqT K H a x/\∃ z,atI x 0=some z/\2<=sizeLine/\∀ p:Addr,H p=none->Same H (upd H p (HO.tup [y,z]))/\upd H p (HO.tup [y,z]) p=some (HO.tup (List.map V.int (keyF r))):=
 match r,ho with
 | [_,_,_,_],_=>⟨_,SqT.of h,_,rfl,_,SqT.of h,_,rfl,by rw [sizeLine_eq];decide,λp hp=>⟨xE hp,xC⟩⟩
end Sm
namespace L2
open PySem
theorem MT.go {P p:Addr}{pos:Pos}{qual:Str}{H H':Hp} (m:MT P pos qual H) (pu:Sm.Purse H p) (g:Sm.Go p H H'):MT P pos qual H':=by
 obtain ⟨x,y,z,e⟩:=pu
 rcases m with m | ⟨c,m,m2⟩
 ·exact .inl (g.1 _ _ (ne_of m e (by intro z;cases z)) m)
 ·exact .inr ⟨c,g.1 _ _ (ne_of m e (by intro z;cases z)) m,g.1 _ _ (ne_of m2 e (by intro z;cases z)) m2⟩
theorem MT.put {P l:Addr}{pos:Pos}{qual:Str}{H:Hp}{xs:List V}{o:HO} (m:MT P pos qual H) (e:H l=some (.lst xs)):MT P pos qual (upd H l o):=by
 rcases m with m | ⟨c,m,m2⟩
 ·exact .inl (by rw [xH (ne_of m e (by intro z;cases z))];exact m)
 ·exact .inr ⟨c,by rw [xH (ne_of m e (by intro z;cases z))];exact m,by rw [xH (ne_of m2 e (by intro z;cases z))];exact m2⟩
end L2
namespace Sm
open PySem L2 SmSort
theorem MT.tups' {T:Addr}{lp:Pos}{q:Str}{H H':Hp} (m:MT T lp q H) (b:But T H H'):Tups H H':=λx u e=>b x _ (λz=>by
 rcases m with m | ⟨_,m,_⟩ <;> (rw [z,m] at e;cases e)) e
theorem MT.keep {T:Addr}{lp:Pos}{q:Str}{H H':Hp} (m:MT T lp q H) (b:But T H H') {x:Addr}{u:HO} (e:H x=some u) (n:∀ ys,u≠.tbl ys):H' x=some u:=b x u (λz=>by
 rcases m with m | ⟨_,m,_⟩ <;> (rw [z,m] at e;cases e;exact n _ rfl)) e
end Sm
namespace Sm
open PySem L2 SmSort
structure L4 where
 s:Nat
 w:Nat
 a:Int
 z:Int
end Sm
namespace Sm
open PySem L2 SmSort
end Sm
namespace L2
open PySem PySem.Spec PyProof.Rows
section
variable {P:Program}{w:World}{H H':Hp}{h:Heap}{a:Addr}{o:HO}
end
structure XL (P:Program) (w:World) (l:List Env) (H:Hp) (s:Shared) (H':Hp) (B:Heap) (s':Shared):Prop where
 os:s'.os=s.os
 bare:AllBare s'.gens
 keepB:∀ b o,s.heap.get? b=some o->H b=none->b ∉ frs l->B.get? b=some o
 allB:∀ b o,s.heap.get? b=some o->b ∉ frs l->∃ o',B.get? b=some o'
 trkB:∀ b u,H' b=some u->∃ o,B.get? b=some o
 frm:∀ b o,s.heap.get? b=some o->b∈frs l->∃ sl,s'.heap.get? b=some { o with slots:=sl }
 free:∀ b o,s.heap.get? b=some o->H b=none->H' b=none
 tups:∀ b xs,H b=some (.tup xs)->H' b=some (.tup xs)
 frzs:∀ b o u,H b=some (.frz o u)->H' b=some (.frz o u)
 tbls:∀ b ps,H b=some (.tbl ps)->∃ more,H' b=some (.tbl (ps++more))
 hok:HOk P w H' s'.heap
 stays:B.StaysIn s'.heap
section
variable {P:Program}{w:World}{l:List Env}{H H':Hp}{s s':Shared}{B base:Heap}
theorem XL.un (x:XL P w l H s H' B s'):Un (frs l) [] H H' s.heap s'.heap where
 keep:=λb o e n hb _=>x.stays _ _ (x.keepB b o e n hb)
 slot:=λb o e n hb _=>x.frm b o e hb
 free:=λb o e n _=>x.free b o e n
 there:=λb o e _=>by
  by_cases hb:b∈frs l
  ·obtain ⟨sl,q⟩:=x.frm b o e hb;exact ⟨_,q⟩
  ·obtain ⟨o',q⟩:=x.allB b o e hb;exact ⟨o',x.stays _ _ q⟩
 tups:=x.tups
 frzs:=x.frzs
 tbls:=x.tbls
theorem XL.step {h2:Heap} (x:XL P w l H s H' B s') (ff:s.heap.FunFrames base l) (k:B.StaysIn h2) (u:s'.heap.UpToSlots h2):XL P w l H s H' B { s' with heap:=h2 } where
 os:=x.os
 bare:=x.bare
 keepB:=x.keepB
 allB:=x.allB
 trkB:=x.trkB
 frm:=λb o e hb=>by
  obtain ⟨sl,q⟩:=x.frm b o e hb
  obtain ⟨_,o1,e1,nf⟩:=ff.mem hb
  rw [e] at e1;cases e1
  obtain ⟨sl2,q2⟩:=u b _ q nf
  exact ⟨sl2,q2⟩
 free:=x.free
 tups:=x.tups
 frzs:=x.frzs
 tbls:=x.tbls
 hok:=λa o e=>by
  have st:∀ b v,H' b=some v->∀ ob,s'.heap.get? b=some ob->h2.get? b=some ob:=λb v hv ob q=>by
   obtain ⟨o1,e1⟩:=x.trkB b v hv
   have z:=x.stays _ _ e1
   rw [q] at z;cases z
   exact k _ _ e1
  refine (x.hok a o e).stay (λb v hb q=>?_) (λ_ q=>q) λ_ _ q=>q
  rcases hb with rfl | hb
  ·exact st _ _ e _ q
  ·exact st _ _ hb _ q
 stays:=k
end
def TrD (h B:Heap) (e:Addr) (cls fl:Value):Prop:=∃ oe vs T oT ts,h.get? e=some oe/\oe.cls=cls/\oe.dict=none/\oe.data=.fields vs/\vs[1]?=some (Value.ref T)/\B.get? T=none/\T≠e/\h.get? T=some oT/\oT.data=.fields ts/\ts[3]?=some fl
def MdD (h:Heap) (e:Addr) (cls:Value):Prop:=∃ oe vs,h.get? e=some oe/\oe.cls=cls/\oe.dict=none/\oe.data=.fields vs/\vs[1]?=some Value.none
def CXE (P:Program) (w:World):CXT:=λl H s E e s'=>∃ a cls H' B,e=Value.ref a/\XL P w l H s H' B s'/\B.get? a=none/\s'.heap.FunFrames B l/\TrD s'.heap B a cls Value.none/\E cls none H'
def FlyS (B:Heap) (env:Env) (outer:List Env) (a:Addr) (cls:Value) (h:Heap):Prop:=
 B.get? a=none/\h.FunFrames B (env::outer)/\(MdD h a cls\/TrD h B a cls Value.none\/∃ L,env.frame=some L/\TrD h B a cls (rawInt L))
theorem rec_far {h B:Heap}{T:Addr}{oT:Obj}{ts:Array Value} (hT:h.get? T=some oT) (hdT:oT.data=.fields ts):∀ b o,h.get? b=some o->(∀ vs,o.data≠.fields vs)->b≠T:=λb o e nf z=>by
 subst z;rw [hT] at e;cases e;exact nf _ hdT
theorem laid_entry {g B:Heap}{e:Addr}{oe:Obj}{vs ts:Array Value}{fl:Value} (he:g.get? e=some oe) (hdc:oe.dict=none) (hd:oe.data=.fields vs) (sz:1 < vs.size) (kb:B.StaysIn g) (h3:ts[3]?=some fl) :
  (∀ b o,b≠e->g.get? b=some o->((g.push { cls:=.type "traceback", dict:=none,data:=.fields ts }).update e (Obj.mapFields (·.setIfInBounds 1 (Value.ref g.objs.size)))).get? b=some o) /\
  TrD ((g.push { cls:=.type "traceback", dict:=none,data:=.fields ts }).update e (Obj.mapFields (·.setIfInBounds 1 (Value.ref g.objs.size)))) B e oe.cls fl:=by
 have he2:=Heap.get?_push_of_some (h:=g) { cls:=.type "traceback", dict:=none,data:=.fields ts } he
 have ne:g.objs.size≠e:=λz=>absurd (Heap.lt_size he) (by rw [z];exact zw _)
 have hd3:=Obj.data_mapFields hd (·.setIfInBounds 1 (Value.ref g.objs.size))
 refine ⟨λb o nb eb=>?_,_,_,g.objs.size,{ cls:=.type "traceback", dict:=none,data:=.fields ts },ts,Heap.get?_update_self _ he2 (Obj.isFreed_of_fields hd3),Obj.cls_mapFields _ _,?_,hd3,by simp [sz],kb.fresh,ne,?_,rfl,h3⟩
 ·rw [Heap.get?_update_other _ _ (Ne.symm nb)];exact Heap.get?_push_of_some _ eb
 ·obtain ⟨c0,d0,dt0,sl0⟩:=oe
  cases dt0 <;> first | exact hdc | cases hd
 ·rw [Heap.get?_update_other _ _ (Ne.symm ne)];exact Heap.get?_push_size g rfl
section
variable {M:Model}{A:Around}{Ex:Value->Shared->Prop}{s:Shared}{B:Heap}{env:Env}{outer:List Env}{a L:Addr}{cls:Value}{Q:Unit->Shared->Prop}
theorem entry_fly {oe:Obj}{vs:Array Value}{head:Value}{hn:Bool} (hfr:A.frames=some (env::outer)) (hf:env.frame=some L) (hk:B.StaysIn s.heap) (hl:s.heap.FunFrames B (env::outer)) (nb:B.get? a=none) (he:s.heap.get? a=some oe) (hdc:oe.dict=none) (hd:oe.data=.fields vs) (sz:1 < vs.size)
  (q:∀ h',B.StaysIn h'->s.heap.UpToSlots h'->h'.FunFrames B (env::outer)->TrD h' B a oe.cls (rawInt L)->Q () { s with heap:=h' }) :
  wpAny M A (do let v <- frameOf env;let pl <- entryPlaceOf L hn;let b <- EntryCells.newEntry head v .none (rawInt L) .none pl;setField (.ref a) 1 b) Q Ex s:=by
 have nf:a ∉ (env::outer).filterMap (·.frame):=λhm=>by
  obtain ⟨_,o,ho,z⟩:=hl.mem hm
  rw [he] at ho;cases ho;exact z vs hd
 refine wpAny_bind (wpAny_frameOf_fun hfr hl hf λg sl=>wpAny_bind (wpAny_entryPlaceOf λpl ip=>?_))
 unfold EntryCells.newEntry newFields
 refine wpAny_bind (wpAny_newObj_type ?_ (ip.sizeOk5 _ _ _ _ _))
 have eg:g.get? a=some oe:=(sl.2.1 a nf).trans he
 have kg:B.StaysIn g:=λb o e=>(sl.2.1 b λhm=>by rw [(hl.mem hm).1] at e;cases e).trans (hk b o e)
 refine wpAny_setField (Heap.get?_push_of_some _ eg) hd sz ?_
 have y:=laid_entry (B:=B) (fl:=rawInt L) (ts:=([head,Value.ref L,Value.none,rawInt L,Value.none]++(if pl.isEmpty then List.replicate 6 Value.none else pl)).toArray) eg hdc hd sz kg (by first | (simp;done) | (rcases ip with rfl | ⟨_,_,_,_,_,_,_,rfl⟩ <;> simp))
 have far:=rec_far (B:=B) he hd
 refine q _ (λb o e=>y.1 b o (λz=>by rw [z,nb] at e;cases e) (kg b o e)) (λb o e nf=>?_) (hl.of_keeps λb o e nf=>?_) y.2
 ·obtain ⟨s2,e2⟩:=sl.2.2 b o e
  exact ⟨s2,y.1 b _ (far b o e nf) e2⟩
 ·obtain ⟨s2,e2⟩:=sl.2.2 b o e
  exact ⟨_,y.1 b _ (far b o e nf) e2,rfl⟩
theorem set_entry {B:Heap}{h:Heap} {cls fl fl2:Value}{oe oT:Obj}{vs ts:Array Value}{T:Addr} (he:h.get? a=some oe) (hc:oe.cls=cls) (hdc:oe.dict=none) (hd:oe.data=.fields vs) (h1:vs[1]?=some (Value.ref T)) (hnT:B.get? T=none) (hTe:T≠a) (hT:h.get? T=some oT) (hdT:oT.data=.fields ts) (sz:3 < ts.size) (hk:B.StaysIn h) (hl:h.FunFrames B (env::outer)) :
  B.StaysIn (h.update T (Obj.mapFields (·.setIfInBounds 3 fl2)))/\h.UpToSlots (h.update T (Obj.mapFields (·.setIfInBounds 3 fl2)))/\(h.update T (Obj.mapFields (·.setIfInBounds 3 fl2))).FunFrames B (env::outer)/\TrD (h.update T (Obj.mapFields (·.setIfInBounds 3 fl2))) B a cls fl2/\(h.update T (Obj.mapFields (·.setIfInBounds 3 fl2))).get? a=some oe:=by
 have far:∀ b,b≠T->(h.update T (Obj.mapFields (·.setIfInBounds 3 fl2))).get? b=h.get? b:=λb hb=>Heap.get?_update_other _ _ (Ne.symm hb)
 have nrec:=rec_far (B:=B) hT hdT
 have ea:=(far a (Ne.symm hTe)).trans he
 exact ⟨λb o e=>(far b (λz=>by subst z;rw [hnT] at e;cases e)).trans (hk _ _ e),λb o e nf=>⟨o.slots,(far b (nrec b o e nf)).trans e⟩,hl.of_keeps λb o e nf=>⟨o,(far b (nrec b o e nf)).trans e,rfl⟩,
  ⟨oe,vs,T,_,_,ea,hc,hdc,hd,h1,hnT,hTe,Heap.get?_update_self _ hT (Obj.isFreed_of_fields (Obj.data_mapFields hdT _)),Obj.data_mapFields hdT _,by simp [sz]⟩,ea⟩
theorem note_fly (hfr:A.frames=some (env::outer)) (hf:env.frame=some L) (hk:B.StaysIn s.heap) (x:FlyS B env outer a cls s.heap)
  (q:∀ h',B.StaysIn h'->s.heap.UpToSlots h'->h'.FunFrames B (env::outer)->TrD h' B a cls (rawInt L)->Q () { s with heap:=h' }):wpAny M A (noteFrame (.ref a) env) Q Ex s:=by
 obtain ⟨hn,hl,⟨oe,vs,he,hc,hdc,hd,h1⟩ | ⟨oe,vs,T,oT,ts,he,hc,hdc,hd,h1,hnT,hTe,hT,hdT,h3⟩ | ⟨L',hL,ht⟩⟩:=x
 ·subst hc
  unfold noteFrame
  rw [hf]
  dsimp only
  refine wpAny_bind (wpAny_field (x:=_) he hd h1 ?_)
  rw [if_neg (by decide)]
  exact entry_fly hfr hf hk hl hn he hdc hd (Array.getElem?_eq_some_iff.mp h1).1 q
 ·have sz:3 < ts.size:=(Array.getElem?_eq_some_iff.mp h3).1
  obtain ⟨k2,u2,l2,_,e2⟩:=set_entry (fl:=Value.none) (fl2:=Value.none) he hc hdc hd h1 hnT hTe hT hdT sz hk hl
  unfold noteFrame
  rw [hf]
  dsimp only
  refine wpAny_bind (wpAny_field (x:=_) he hd h1 ?_)
  rw [if_pos (by simp)]
  refine wpAny_bind (wpAny_field (x:=_) hT hdT h3 ?_)
  rw [if_neg (by simp [rawInt])]
  refine wpAny_bind (wpAny_setField hT hdT sz ?_)
  subst hc
  exact entry_fly hfr hf k2 l2 hn e2 hdc hd (Array.getElem?_eq_some_iff.mp h1).1 λh' y1 y2 y3 y4=>q h' y1 (u2.trans y2) y3 y4
 ·cases hL.symm.trans hf
  obtain ⟨oe,vs,T,oT,ts,he,hc,hdc,hd,h1,hnT,hTe,hT,hdT,h3⟩:=id ht
  unfold noteFrame
  rw [hf]
  dsimp only
  refine wpAny_bind (wpAny_field (x:=_) he hd h1 ?_)
  rw [if_pos (by simp)]
  refine wpAny_bind (wpAny_field (x:=_) hT hdT h3 ?_)
  rw [if_pos (by simp)]
  exact wpAny_pure (q s.heap hk (Heap.UpToSlots.refl _) hl ht)
theorem mark_fly {fl:Value}{fo:Option Addr} (hk:B.StaysIn s.heap) (hl:s.heap.FunFrames B (env::outer)) (ht:TrD s.heap B a cls fl)
  (q:∀ h',B.StaysIn h'->s.heap.UpToSlots h'->h'.FunFrames B (env::outer)->TrD h' B a cls (fo.elim Value.none λf=>rawInt f)->Q () { s with heap:=h' }):wpAny M A (setFlight (.ref a) fo) Q Ex s:=by
 obtain ⟨oe,vs,T,oT,ts,he,hc,hdc,hd,h1,hnT,hTe,hT,hdT,h3⟩:=ht
 have sz:3 < ts.size:=(Array.getElem?_eq_some_iff.mp h3).1
 obtain ⟨k2,u2,l2,t2,e2⟩:=set_entry (fl:=fl) (fl2:=fo.elim Value.none λf=>rawInt f) he hc hdc hd h1 hnT hTe hT hdT sz hk hl
 unfold setFlight
 refine wpAny_bind (wpAny_field (x:=_) he hd h1 ?_)
 rw [if_pos (by simp)]
 exact wpAny_setField hT hdT sz (q _ k2 u2 l2 t2)
end
section
variable {X:Cx}{E:XK}
end
end L2
namespace L2
open PySem PySem.Spec PyProof.Rows
section
variable {X:Cx}{pins:List (Addr×Obj)}{σ:St}{H:Hp}{s:Shared}
end
def Cx.hand (X:Cx) (e:Addr):Cx:={ X with A:=X.A.mark (some (.ref e)),calm:=false,xe:=λ_ _=>False }
section
variable {X:Cx}{pins:List (Addr×Obj)}{σ:St}{H:Hp}{s:Shared}{e:Addr}
theorem Inv.hand (I:Inv X pins σ H s) (e:Addr):Inv (X.hand e) pins σ H s:=
 ⟨⟨I.ok.mod,I.ok.kind,I.ok.glob,I.ok.blt,I.ok.above,I.ok.inj,I.ok.has,I.ok.cab,(λz=>by cases z),I.ok.frames,I.ok.stk,I.ok.exf,I.ok.bs,I.ok.bsz,I.ok.noex,I.ok.exfs,I.ok.funs,I.ok.frf⟩,I.os,I.bare,I.base,I.loc,I.cell,I.free,I.freeC,I.pin,I.hok,I.len⟩
theorem Inv.unhand (ok:X.Ok) (I:Inv (X.hand e) pins σ H s):Inv X pins σ H s:=⟨ok,I.os,I.bare,I.base,I.loc,I.cell,I.free,I.freeC,I.pin,I.hok,I.len⟩
end
def PSx (X:Cx) (st:List Stmt) (t:XK->TS):Prop:=∀ (pins:List (Addr×Obj)) (s:Shared) (σ:St) (H:Hp) (D:Ends) (Eh:XK) (Z:Value->Shared->Prop),Inv X pins σ H s->t Eh D σ H ->
 (∀ H1 s1 e s',Inv X pins σ H1 s1->CXE X.prog X.w X.stack H1 s1 Eh e s'->Z e s')->wpAny (model X.prog X.w) X.A (execs st X.env) (SP X pins D) Z s
section
variable {X:Cx}{k:Nat}{f:Addr}{fd:FuncData}{ps:List Str}{sp:Sp}{dvs:List V}{ds:List Value}{x:Str}{p pos cpos:Pos}{e:Expr}{es:List Expr}{t:TA}
end
section
variable {X:Cx}{K:PySem.W.Frag}
end
end L2
namespace L2
open PySem PySem.Spec PyProof.Rows
section
variable {X:Cx}{K:PySem.W.Frag}{e o:Expr}{es:List Expr}{to:TE}{t:TA}{T id:String}{name:Str}{apos cpos:Pos}{r:V->List V->Hp->VK->Prop}
theorem pe_bmK (hK:X.K=K) (pa:PlainAttrs T) (slot:Slot T name id) (hty:typeOf (.builtin id)=pure (.type "method_descriptor")) (hm:MtR X id r) (ho:PE X o to) (ha:PA X (e::es) t)
  (hbase:attributeBase o name X.env (eval o X.env)=eval o X.env:=by rfl)
  (hfew:((backTo cpos (starEach (e::es) X.env)).all (λx=>!x.1) && (backToKw cpos (keywordEach [] X.env)).all (λx=>x.1.isSome)
   && decide ((e::es).length + ([]:List Keyword).length + (if ([]:List Keyword).isEmpty then 0 else 1) < 30))=true:=by rfl)
  (hline:(apos.endLine == cpos.line)=true:=by rfl) (hs:starEach (e::es) X.env=(false,eval e X.env)::starEach es X.env:=by rfl) (hplain:(backTo cpos (starEach es X.env)).any (·.1)=false:=by rfl) :
  PE X (.Call (.Attribute o name apos) (e::es) [] cpos) (tBM K T r to t):=by
 subst hK
 exact wP pa slot hty hm ho ha hbase hfew hline hs hplain
end
end L2
namespace L2
open PySem PySem.Spec PyProof.Rows
end L2
namespace Sm
open PySem L2 SmSort
def letRow (x:L4):List V:=[.int (x.s:Int),.int x.a,.int (x.w:Int),.int x.z]
end Sm
namespace L2
open PySem PySem.Spec PyProof.Rows
section
variable {X:Cx}
def absF (f:V->Bool) (v:Value):Bool:=match absV v with | some x=>f x | none=>false
theorem absF_of {f:V->Bool}{x:V}{v:Value} (r:RelV x v):absF f v=f x:=by unfold absF;rw [r.abs]
theorem vals_mem:∀ {xs:List V}{us:List Value},Vals xs us->∀ u∈us,∃ x∈xs,RelV x u
 | _,_,.nil,u,h=>by cases h
 | _,_,.cons r rr,u,h=>by
  cases h with
  | head=>exact ⟨_,.head _,r⟩
  | tail _ h=>obtain ⟨x,hx,rx⟩:=vals_mem rr u h;exact ⟨x,.tail _ hx,rx⟩
def rIndex (K:PySem.W.Frag):V->List V->Hp->VK->Prop:=λx vs H Q=>∃ (n:Nat) (p:Addr) (xs:List V) (y:V) (f:V->Bool) (j:Nat) (u:V),n<=20/\x=.ref p/\vs=[y]/\SqL K H p xs/\(∀ u∈xs,Eqv K H n u y (f u))/\xs[j]?=some u/\f u=true/\(∀ m,m < j->∀ w,xs[m]?=some w->f w=false)/\j < 100000/\Q (.int (j:Nat)) H
theorem mt_index {K:PySem.W.Frag} (hK:X.K=K) (hu:X.A.units + 64 < cLine):MtR X "list.index" (rIndex K):=by
 subst hK
 intro pins s σ H x vs v us Q I rx rv h
 obtain ⟨n,p,xs,y,f,j,u0,hn,rfl,rfl,hq,he,hj,hf,hno,hsm,q⟩:=h
 cases rx
 obtain ⟨u,rfl,ru⟩:=rv.one
 obtain ⟨its,r,⟨o,m,ho,hc,hd,hs⟩,z⟩:=I.list hq
 obtain ⟨cls,dd,data,sl⟩:=o
 dsimp only at hc hd hs
 cases hc;cases hd;cases hs
 obtain ⟨w0,hw0,rw0⟩:=r.get hj
 have jl:j < its.length:=(zT.mp hw0).1
 refine call_meets PySem.F.slot_list_index ⟨_,ho,rfl⟩ PySem.F.entry_list_index (PySem.F.args_list_index_2 _ _) (SeqAt.list_indexAt p its.toArray m _ _ u (absF f) j (by simpa using jl) (by omega) ?_ ?_) ⟨ho,λw hw=>?_,?_⟩
 ·have e:its.toArray[j]'(by simpa using jl)=w0:=by simpa using (zT.mp hw0).2
  rw [e,absF_of rw0];exact hf
 ·intro k hk kj
  have kl:k < its.length:=by simpa using hk
  obtain ⟨xk,hxk,rk⟩:=wC r (j:=k) (by simpa using kl)
  rw [absF_of rk]
  exact hno k kj xk hxk
 ·obtain ⟨x0,hx0,r0⟩:=vals_mem r w (by simpa using hw)
  rw [absF_of r0]
  exact eqv_eq I n (A:=X.A.in1) (by show X.A.units + 1 + n < cLine;omega) (he x0 hx0) r0 ru
 ·exact ⟨.int _,H,I.tok _,⟨_,rfl⟩,q⟩
end
end L2
namespace Sm
open PySem L2 SmSort
def LetsL (H:Hp) (ll:Addr) (ls:List (Addr×L4)):Prop:=H ll=some (.lst (ls.map λl=>V.ref l.1))/\∀ l∈ls,H l.1=some (.tup (letRow l.2))
theorem LetsL.same {H H':Hp}{ll:Addr}{ls:List (Addr×L4)} (h:LetsL H ll ls) (e:Same H H'):LetsL H' ll ls:=⟨e _ _ h.1,λl hl=>e _ _ (h.2 l hl)⟩
section
variable {C:Addr} {H0 H H' HB HC:Hp}{t:Tr}{s:Sts}{rooms:List Int}{tr tm:Addr}{ps:List (Addr×M4)} {n0:Nat}
end
end Sm
namespace Sm
open PySem L2 SmSort
theorem wH {i:Int} (h1:-(10 ^ 12)<=i) (h2:i<=10 ^ 12):i.natAbs.log2 < 1920:=by
 by_cases h:i.natAbs=0
 ·rw [h];decide
 ·refine zQ ((Nat.log2_lt (k:=60) h).mpr ?_) (by decide)
  have:(2:Nat) ^ 60=1152921504606846976:=by decide
  omega
def tx (i:Int):Str:=Str.ofString (toString i)
theorem tx_len {i:Int} (h1:-(10 ^ 12)<=i) (h2:i<=10 ^ 12):(tx i).length<=1921:=PyProof.Rows.int_text_len_1921 (wH h1 h2)
theorem fmt_int {i:Int} (h1:-(10 ^ 12)<=i) (h2:i<=10 ^ 12):FmtOk (.int i) (tx i):=.inr ⟨i,rfl,wH h1 h2,rfl⟩
def rowW (p:Str×Int):Str:=((Str.ofString "walker " ++ p.1)++Str.ofString " ")++tx p.2
def nm (ns:List Str) (i:Int):Str:=(ns[i.toNat]?).getD Str.empty
def rowM (ns:List Str) (M:M4):Str:=(((((((Str.ofString "meet " ++ nm ns M.lo)++Str.ofString " ")++nm ns M.hi)++Str.ofString " ")++tx M.t)++Str.ofString " ")++tx M.m)
def rowL (ns:List Str) (L:L4):Str:=(((((((Str.ofString "letter " ++ nm ns (L.s:Int))++Str.ofString " ")++tx L.a)++Str.ofString " ")++nm ns (L.w:Int))++Str.ofString " ")++tx L.z)
def allRows (ns:List Str) (rooms:List Int) (ms:List M4) (ls:List L4):List Str:=((ns.zip rooms).map rowW++ms.map (rowM ns))++ls.map (rowL ns)
theorem wI (a b:Str):(a++b).cps=a.cps++b.cps:=rfl
theorem str_ext {a b:Str} (h:a.cps=b.cps):a=b:=by cases a;cases b;cases h;rfl
theorem emp_app (a:Str):Str.empty++a=a:=str_ext (by rw [wI];show #[]++a.cps=_;rw [Array.empty_append])
theorem xb (a b:Str):(a++b).length=a.length + b.length:=strLen_append a b
theorem meet_sp:Str.ofString "meet" ++ Str.ofString " " = Str.ofString "meet " := by decide +kernel
theorem letter_sp:Str.ofString "letter" ++ Str.ofString " " = Str.ofString "letter " := by decide +kernel
theorem join5 (s a b c d e:Str):Txt.join s [a,b,c,d,e]=(((((((a++s)++b)++s)++c)++s)++d)++s)++e:=str_ext (by
 rw [wI,wI,wI,wI,wI,wI,wI,wI];rfl)
def NamesL (H:Hp) (l:Addr) (ns:List Str):Prop:=H l=some (.lst (ns.map V.str))
def LRow (L:L4) (n:Nat):Prop:=L.s < n/\L.w < n/\-(10 ^ 12)<=L.a/\L.a<=10 ^ 12/\-(10 ^ 12)<=L.z/\L.z<=10 ^ 12
def spShow:Sp:=λvs H Q _=>∃ nl b ll ns ls rooms tr tm ps,vs=[.ref nl,.ref b,.ref ll]/\NamesL H nl ns/\BookAt H b rooms tr tm ps/\ns.length=rooms.length/\rooms.length<=12/\(∀ s∈ns,s.length<=100)/\(∀ r∈rooms,(0:Int)<=r/\r<=99)/\Good rooms.length (ps.map (·.2))/\LetsL H ll ls/\ls.length<=41/\(∀ l∈ls,LRow l.2 rooms.length) /\
 ∀ p H',Same H H'->H p=none->H' p=some (.lst ((allRows ns rooms (ps.map (·.2)) (ls.map (·.2))).map V.str))->Q (.ref p) H'
end Sm
namespace Sm
open PySem L2 SmSort
theorem nm_at {ns:List Str}{i:Int} (h0:0<=i) (h1:i < ns.length):atI (ns.map V.str) i=some (V.str (nm ns i))/\nm ns i∈ns:=by
 obtain ⟨k,rfl⟩:=zU h0
 have hk:k < ns.length:=by omega
 unfold nm
 rw [yC,zJ hk]
 exact ⟨wB (by rw [zX,zJ hk];rfl),zn hk⟩
theorem join_len (s:Str):∀ ys:List Str,(Txt.join s ys).length<=(ys.map λy=>y.length).sum + ys.length * s.length
 | []=>zf _
 | y::ys=>by
  have key:∀ (zs:List Str) (acc:Array Nat),(zs.foldl (λacc p=>acc++s.cps++p.cps) acc).size=acc.size + ((zs.map λy=>y.length).sum + zs.length * s.length):=by
   intro zs
   induction zs with
   | nil=>intro acc;simp
   | cons z zs ih=>
    intro acc
    rw [List.foldl_cons,ih,zu,List.sum_cons,zV,Array.size_append,Array.size_append,Nat.succ_mul]
    show acc.size + s.length + z.length + _=_
    omega
  show (ys.foldl (λacc p=>acc++s.cps++p.cps) y.cps).size<=_
  rw [key ys,zu,List.sum_cons,zV,Nat.succ_mul]
  show y.length + _<=_
  omega
theorem sum_ones:∀ {ss:List Str},(∀ s∈ss,s.length=1)->(ss.map λy=>y.length).sum=ss.length
 | [],_=>rfl
 | s::ss,h=>by
  rw [zu,List.sum_cons,sum_ones λx hx=>h x (zb _ hx),h s zd,zV];omega
def A26:Str:=Str.ofString "etaoinshrdlucmfwypvbgkjqxz"
theorem a26_len:A26.length=26:=by decide +kernel
theorem at26 {x:Int} (h0:0<=x) (h1:x < 26):∃ c,atI A26.cps.toList x=some c:=by
 obtain ⟨k,rfl⟩:=zU h0
 have:A26.cps.toList.length=26:=by rw [Array.length_toList];exact a26_len
 exact ⟨_,wB (zJ (by omega))⟩
def sixW:List Str:=[Str.ofString "walker", Str.ofString "meet", Str.ofString "letter", Str.ofString "rows", Str.ofString "comes", Str.ofString "a"]
theorem Go.but {p a:Addr} {H H1 H2:Hp} (g:Go p H H1) (fa:H a=none) (na:a≠p) (b:But a H1 H2):Go p H H2:=
 ⟨λc u n e=>b c u (xF e fa) (g.1 c u n e),by obtain ⟨x,y,z,e⟩:=g.2;exact ⟨x,y,z,b _ _ na.symm e⟩⟩
theorem flat_strs (ss:List Str):(ss.map V.str).all flatV=true:=yc.mpr λx hx=>by obtain ⟨s,_,rfl⟩:=zO.mp hx;rfl
theorem eqV_self (s:Str):eqV (.str s) (.str s)=true:=by show (s == s)=true;simp
theorem ne_strsL {K:PySem.W.Frag}{H:Hp}{l d:Addr}{ns:List Str}{Q:VK}{neg:Bool} (hl:H l=some (.lst (ns.map V.str))) (hd:H d=some (.lst (ns.map V.str))) (q:Q (.bl (if neg=true then !true else true)) H):rEqv K neg (.ref l) (.ref d) H Q:=by
 refine ⟨0,l,d,_,_,λ_=>true,true,by decide,rfl,rfl,.inl ⟨SqL.of hl,SqL.of hd⟩,by simp,λi x y hx hy=>?_,q⟩
 rw [hx] at hy;cases hy
 obtain ⟨r,hr,rfl⟩:=xW hx
 exact .inr ⟨rfl,rfl,(eqV_self r).symm⟩
end Sm
namespace L2
open PySem PySem.Spec PyProof.Rows
def tTry0 (ok:Value->Option Bool) (tb:XK->TS) (th:TS):TS:=λD σ H=>
 tb (λcls _ H'=>ok cls=some true/\∃ C,cls=Value.ref C/\th D σ H') D σ H
section
variable {X:Cx}{K:PySem.W.Frag}
theorem ps_try0 {body:List Stmt}{tb:XK->TS}{b₀:Stmt}{suite:List Stmt}{t:Expr}{hpos pos:Pos}{th:TS}{ok:Value->Option Bool} (hb:PSx X body tb) (hs:X.stack=X.env::X.outer) (hf:X.env.frame=some X.env.locals)
  (ht:∀ (e:Addr) (pins:List (Addr×Obj)) (σ:St) (H:Hp) (s:Shared) (C:Addr) (Q:Bool->Shared->Prop) (E E':Value->Shared->Prop),Inv X pins σ H s->PySem.W.Looks (model X.prog X.w) s.heap (typeOf (.ref e)) (.ref C)->ok (.ref C)=some true ->
   (∀ h',(∀ b o,s.heap.get? b=some o->h'.get? b=some o)->Q true { s with heap:=h' })->wpAny (model X.prog X.w) (X.hand e).A (eval t X.env) (λc s1=>wpAny (model X.prog X.w) (X.hand e).A (excMatches (.ref e) c) Q E' s1) E s)
  (hh:∀ e,PSs (X.hand e) (b₀::suite) th):PS X (.Try body [.ExceptHandler (some t) none (b₀::suite) hpos] [] [] pos) (tTry0 ok tb th):=by
 intro pins s σ H D I h
 refine wpAny_Try_except (thn (hb pins s σ H D _ _ I h ?_) λf s1 q=>?_)
 ·intro H1 s1 e s' I1 ⟨a,cls,H',B,ee,x,nb,ff,hty,em,C,ec,q⟩
  subst ee ec
  have fr:X.A.frames=some (X.env::X.outer):=by rw [<-hs];exact I1.ok.frames
  have ff1:=I1.stack
  rw [hs] at ff
  refine note_fly (cls:=.ref C) fr hf x.stays ⟨nb,ff,.inr (.inl hty)⟩ λh2 k2 u2 l2 t2=>?_
  refine mark_fly (fo:=none) k2 l2 t2 λh3 k3 u3 l3 t3=>?_
  have x3:=(x.step ff1 k2 u2).step ff1 k3 u3
  have J3:Inv X pins σ H' { s' with heap:=h3 }:=I1.call' (ch:=[]) x3.os x3.un x3.hok x3.bare (λb z=>absurd z (by simp))
  obtain ⟨oe,vs,T,oT,ts,he,hc,_⟩:=id t3
  have LT:PySem.W.Looks (model X.prog X.w) h3 (typeOf (.ref a)) (.ref C):=hc ▸ (PySem.W.Looks.ld he).andThen .now
  refine wpAny_handleBy_cons (codeAny_handlers_test (ht a pins σ H' { s' with heap:=h3 } C _ _ _ J3 LT em λh3' kk=>?_)) (by intro z;cases z)
  have k3':B.StaysIn h3':=λb o e=>kk b o (k3 b o e)
  have l3':h3'.FunFrames B (X.env::X.outer):=l3.of_keeps λb o q _=>⟨o,kk b o q,rfl⟩
  have t3':TrD h3' B a (Value.ref C) ((none:Option Addr).elim Value.none λf=>rawInt ↑f):=by
   obtain ⟨oe,vs,T,oT,ts,he,hc,hdc,hd,h1,hn,hne,hT,hdT,h3⟩:=t3
   exact ⟨oe,vs,T,oT,ts,kk _ _ he,hc,hdc,hd,h1,hn,hne,kk _ _ hT,hdT,h3⟩
  have x3':=x3.step ff1 k3' (PySem.Heap.UpToSlots.of_keeps kk)
  refine codeAny_handlers_suite (mark_fly (fo:=none) k3' l3' t3' λh4 k4 u4 l4 t4=>?_)
  have x4:=x3'.step ff1 k4 u4
  have J4:Inv X pins σ H' { s' with heap:=h4 }:=I1.call' (ch:=[]) x4.os x4.un x4.hok x4.bare (λb z=>absurd z (by simp))
  refine wpAny_mono (hh a pins _ _ _ _ (J4.hand a) q) (λf s6 z=>?_) λ_ _ z=>z.elim
  cases f with
  | next=>obtain ⟨σ',H2,I6,q6⟩:=z;exact ⟨σ',H2,I6.unhand I.ok,q6⟩
  | brk=>obtain ⟨σ',H2,I6,q6⟩:=z;exact ⟨σ',H2,I6.unhand I.ok,q6⟩
  | cont=>obtain ⟨σ',H2,I6,q6⟩:=z;exact ⟨σ',H2,I6.unhand I.ok,q6⟩
  | ret u=>obtain ⟨v,σ',H2,I6,r6,q6⟩:=z;exact ⟨v,σ',H2,I6.unhand I.ok,r6,q6⟩
 ·cases f with
  | next=>exact wpAny_execs_nil q
  | brk=>exact q
  | cont=>exact q
  | ret u=>exact q
theorem ps_try1 {body:List Stmt}{tb:XK->TS}{b₀:Stmt}{suite:List Stmt}{y:Str}{np hpos pos:Pos}{th:TS}{cy:Value} (hK:X.K=K) (hb:PSx X body tb) (hs:X.stack=X.env::X.outer) (hf:X.env.frame=some X.env.locals)
  (hg:Gl X y) (hm:X.mg y=some cy) (hh:∀ e,PSs (X.hand e) (b₀::suite) th) (hdb:(y == ("__debug__" : Str))=false:=by decide) :
  PS X (.Try body [.ExceptHandler (some (.Name y np)) none (b₀::suite) hpos] [] [] pos) (tTry0 (λcls=>PySem.W.exmOne K cls cy) tb th):=by
 subst hK
 refine ps_try0 hb hs hf (λe pins σ H s C Q E E' I LT em q=>?_) hh
 exact ld_glob (X:=X.hand e) (I.hand e) hg hm ((PySem.W.exm_one I.kIn LT em).here (q s.heap λ_ _ z=>z)) hdb
end
end L2
namespace L2
open PySem PySem.Spec PyProof.Rows PySem.SeqAt
theorem tuple_indexAt (l:Addr) (items:Array Value) (n:Nat) (dd:Option Addr) (sl:Array (Option Value)) (x:Value) (e:Value->Bool) (j:Nat) (hj:j < items.size)
  (hit:e items[j]=true) (hno:∀ m (hm:m < items.size),m < j->e items[m]=false) :
  Meets (Builtin.«tuple.index» ⟨[.ref l,x],[]⟩)
   (λA R s=>s.heap.get? l=some { cls:=.type "tuple", dict:=dd,data:=.seq items n,slots:=sl }/\(∀ y,y∈items->EqAt A.in1 s y x (e y))/\R (.ok (.ret (.int j s.toks))) { s with toks:=s.toks + 1 }):=by
 intro prog w A R s h
 obtain ⟨hp,g,d,tk,os⟩:=s;obtain ⟨hl,he,h⟩:=h
 unfold Builtin.«tuple.index»
 simp only [Std.Legacy.Range.forIn_eq_forIn_range']
 wp_walk using wpAny_loadPart' hl
 refine wpAny_forIn_list _ (λrest b s'=>b=(none,())/\s'={ heap:=hp,gens:=g,drawn:=d,toks:=tk,os:=os }/\∃ i,rest=List.range' i (items.size - i)/\i<=j) _ (λi rest b s' hI=>?_) (λb s' hI=>?_) _ _ ⟨rfl,rfl,0,by simp [Std.Legacy.Range.size],zf _⟩
 ·obtain ⟨rfl,rfl,k,hk,kj⟩:=hI
  have hks:items.size - k=(items.size - (k + 1)) + 1:=by omega
  rw [hks,List.range'_succ] at hk
  obtain ⟨rfl,rfl⟩:=List.cons.inj hk
  have hi:items[i]?=some (items[i]'(by omega)):=by simp
  rw [hi]
  dsimp only
  refine wpAny_bind (he _ (Array.getElem_mem (by omega)) prog w _ _ ?_)
  by_cases c:i=j
  ·subst c
   rw [hit]
   wp_walk
   exact h
  ·rw [hno i (by omega) (by omega)]
   wp_walk
   exact ⟨rfl,rfl,i + 1,rfl,by omega⟩
 ·obtain ⟨_,_,k,hk,kj⟩:=hI
  have:=congrArg List.length hk
  rw [List.length_range',zy] at this
  omega
def rIndexT (K:PySem.W.Frag):V->List V->Hp->VK->Prop:=λx vs H Q=>∃ (n:Nat) (p:Addr) (xs:List V) (y:V) (f:V->Bool) (j:Nat) (u:V),n<=20/\x=.ref p/\vs=[y]/\SqT K H p xs/\(∀ u∈xs,Eqv K H n u y (f u))/\xs[j]?=some u/\f u=true/\(∀ m,m < j->∀ w,xs[m]?=some w->f w=false)/\Q (.int (j:Nat)) H
theorem mt_indexT {X:Cx}{K:PySem.W.Frag} (hK:X.K=K) (hu:X.A.units + 64 < cLine):MtR X "tuple.index" (rIndexT K):=by
 subst hK
 intro pins s σ H x vs v us Q I rx rv h
 obtain ⟨n,p,xs,y,f,j,u0,hn,rfl,rfl,hq,he,hj,hf,hno,q⟩:=h
 cases rx
 obtain ⟨u,rfl,ru⟩:=rv.one
 obtain ⟨its,r,pl,hz⟩:=I.tuple hq
 obtain ⟨⟨cls,dd,data,sl⟩,ho,hc,n',hd⟩:=pl
 dsimp only at hc hd
 subst hc hd
 obtain ⟨w0,hw0,rw0⟩:=r.get hj
 have jl:j < its.length:=(zT.mp hw0).1
 refine call_meets PySem.F.slot_tuple_index ⟨_,ho,rfl⟩ PySem.F.entry_tuple_index (PySem.F.args_tuple_index_2 _ _) (tuple_indexAt p its.toArray _ _ _ u (absF f) j (by simpa using jl) ?_ ?_) ⟨ho,λw hw=>?_,?_⟩
 ·have e:its.toArray[j]'(by simpa using jl)=w0:=by simpa using (zT.mp hw0).2
  rw [e,absF_of rw0];exact hf
 ·intro k hk kj
  have kl:k < its.length:=by simpa using hk
  obtain ⟨xk,hxk,rk⟩:=wC r (j:=k) (by simpa using kl)
  rw [absF_of rk]
  exact hno k kj xk hxk
 ·obtain ⟨x0,hx0,r0⟩:=vals_mem r w (by simpa using hw)
  rw [absF_of r0]
  exact eqv_eq I n (A:=X.A.in1) (by show X.A.units + 1 + n < cLine;omega) (he x0 hx0) r0 ru
 ·exact ⟨.int _,H,I.tok _,⟨_,rfl⟩,q⟩
end L2
namespace L2
open PySem PySem.Spec PyProof.Rows
def txtsB:List Str->List Value->Bool
 | [],[]=>true
 | x::xs,.str y _::vs=>x == y && txtsB xs vs
 | _,_=>false
theorem txts_vals:∀ {xs:List Str}{vs:List Value},txtsB xs vs=true->Vals (xs.map V.str) vs
 | [],[],_=>.nil
 | x::xs,v::vs,h=>by
  cases v with
  | str y t=>
   have h':(x == y && txtsB xs vs)=true:=h
   rw [zz] at h'
   exact .cons ⟨t,by rw [beq_iff_eq.mp h'.1]⟩ (txts_vals h'.2)
  | _=>cases h
 | [],_::_,h=>by cases h
 | _::_,[],h=>by cases h
def tupsB (K:PySem.W.Frag) (p:Addr) (xs:List Str):Bool:=match K.lookup p with
 | some o=>o.cls == .type "tuple" && (o.dict.isNone && (match o.data with
  | .seq its _=>decide (its.size<=100) && txtsB xs its.toList
  | _=>false))
 | none=>false
theorem tups_at {K:PySem.W.Frag}{p:Addr}{xs:List Str} (h:tupsB K p xs=true):∃ o its n,K.lookup p=some o/\o.cls=.type "tuple" /\ o.dict=none/\o.data=.seq its n/\its.size<=sizeLine/\Vals (xs.map V.str) its.toList:=by
 unfold tupsB at h
 split at h
 ·rename_i o ho
  rw [zz,zz] at h
  obtain ⟨h1,h2,h3⟩:=h
  split at h3
  ·rename_i its n hd
   rw [zz,decide_eq_true_iff] at h3
   exact ⟨o,its,n,ho,beq_iff_eq.mp h1,Option.isNone_iff_eq_none.mp h2,hd,zj h3.1 (by decide),txts_vals h3.2⟩
  ·cases h3
 ·cases h
theorem tups_sq {K:PySem.W.Frag}{H:Hp}{p:Addr}{xs:List Str} (h:tupsB K p xs=true):SqT K H p (xs.map V.str)/\tyV K "tuple" (.ref p) H:=by
 obtain ⟨o,its,n,ho,hc,hdn,hd,hs,r⟩:=tups_at h
 exact ⟨.inr ⟨o,its,n,ho,hc,hd,hs,r⟩,.inr (.inl ⟨rfl,.inl ⟨o,ho,hc,hdn⟩⟩)⟩
def dctB (K:PySem.W.Frag) (d:Addr):Bool:=match K.lookup d with
 | some o=>o.cls == .type "dict" && (o.dict.isNone && (!(d == sysModules) && (match o.data with
  | .dict es _=>es.all λe=>isExactStrKey e.key
  | _=>false)))
 | none=>false
def fndB (K:PySem.W.Frag) (d:Addr) (k:Str):Option Value:=match K.lookup d with
 | some o=>(match o.data with
  | .dict es _=>(es.toList.find? λe=>e.key.isStr k).map (·.val)
  | _=>none)
 | none=>none
def formB (K:PySem.W.Frag) (d:Addr) (k:Str) (xs:List Str):Bool:=dctB K d && (match fndB K d k with
 | some (.ref p)=>tupsB K p xs
 | _=>false)
theorem dct_at {K:PySem.W.Frag}{d:Addr} (h:dctB K d=true):∃ o es ep,K.lookup d=some o/\o.cls=.type "dict" /\ o.dict=none/\(d == sysModules)=false/\o.data=.dict es ep/\(es.all λe=>isExactStrKey e.key)=true:=by
 unfold dctB at h
 split at h
 ·rename_i o ho
  rw [zz,zz,zz] at h
  obtain ⟨h1,h2,h3,h4⟩:=h
  split at h4
  ·rename_i es ep hd
   exact ⟨o,es,ep,ho,beq_iff_eq.mp h1,Option.isNone_iff_eq_none.mp h2,by simpa using h3,hd,h4⟩
  ·cases h4
 ·cases h
section
variable {prog:Program}{w:World}{A:Around}{E:Value->Shared->Prop}{s:Shared}{a:Addr}{k:Str}{tk:Tok}{v:Value}
def Told (h:Heap) (a:Addr) (k:Str) (v:Value):Prop:=(a == sysModules)=false/\∃ o es ep,h.get? a=some o/\o.data=.dict es ep/\(es.all λe=>isExactStrKey e.key)=true/\(es.toList.find? λe=>e.key.isStr k).map (·.val)=some v
theorem get_told {Q:Option Value->Shared->Prop} (T:Told s.heap a k v) (h:Q (some v) { s with toks:=s.toks + 1 }):wpAny (model prog w) A (dictGet a (.str k tk)) Q E s:=by
 obtain ⟨_,o,es,ep,ho,hd,ha,hf⟩:=T
 unfold dictGet
 try with_reducible refine wpAny_holding ?_
 refine wpAny_bind (wpAny_pyHash_str (wpAny_bind (KTD.kt_dictFind_strs (s:={ s with toks:=s.toks + 1 }) ho hd ha ?_)))
 have e:findBy (λk v=>v.isStr k) es k=some v:=by
  rw [<-hf]
  obtain ⟨l⟩:=es
  simp [findBy]
 rw [findBy_of_findIdx?] at e
 cases hi:es.findIdx? λe=>e.key.isStr k with
 | none=>rw [hi] at e;cases e
 | some i=>
  rw [hi] at e
  refine wpAny_bind (wpAny_dictEntries (s:={ s with toks:=s.toks + 1 }) ho hd (wpAny_pure ?_))
  have e':(es[i]?).map (·.val)=some v:=e
  rw [e'];exact h
theorem meets_told:MeetsIn prog w (Builtin.«dict.get» ⟨[.ref a,.str k tk],[]⟩) (λ_ R s=>Told s.heap a k v/\R (.ok (.ret v)) { s with toks:=s.toks + 1 }):=
 .of_wp λA R s ⟨T,h⟩=>by
  show wpAny _ _ (dictGet a (.str k tk) >>= _) _ _ s
  exact wpAny_bind (get_told T (wpAny_pure ⟨v,rfl,h⟩))
end
section
variable {X:Cx}
theorem mt_dgetC {K:PySem.W.Frag} (hK:X.K=K):MtR X "dict.get" (λx xs H Q=>∃ d k ws,x=.ref d/\xs=[.str k]/\formB K d k ws=true/\∀ p,SqT K H p (ws.map V.str)->Q (.ref p) H):=by
 subst hK
 intro pins s σ H x xs v us Q I rx rs h
 obtain ⟨d,k,ws,rfl,rfl,hf,q⟩:=h
 cases rx
 obtain ⟨u,rfl,ru⟩:=vals1 rs
 obtain ⟨t,rfl⟩:=ru
 unfold formB at hf
 rw [zz] at hf
 obtain ⟨h1,h2⟩:=hf
 split at h2
 ·rename_i p hp
  obtain ⟨o,es,ep,ho,hc,hdn,hs,hd,ha⟩:=dct_at h1
  have ho':=I.kIn _ _ ho
  have hp':(es.toList.find? λe=>e.key.isStr k).map (·.val)=some (Value.ref p):=by
   unfold fndB at hp
   rw [ho] at hp
   dsimp only at hp
   rw [hd] at hp
   exact hp
  exact call_meetsIn PySem.F.slot_dict_get ⟨o,ho',hc⟩ PySem.F.entry_dict_get (PySem.F.args_dict_get_2 _ _) meets_told ⟨⟨hs,o,es,ep,ho',hd,ha,hp'⟩,⟨.ref p,H,I.tok _,rfl,q p (tups_sq h2).1⟩⟩
 ·cases h2
def cstB (K:PySem.W.Frag) (T:String) (p:Addr):Bool:=match K.lookup p with
 | some o=>o.cls == .type T && o.dict.isNone
 | none=>false
def tBMC (K:PySem.W.Frag) (T:String) (r:V->List V->Hp->VK->Prop) (to:TE) (t:TA):TE:=fun σ H Q=>to σ H λx H1=>∃ p,x=.ref p/\cstB K T p=true/\t σ H1 λxs H2=>r x xs H2 Q
variable {o e:Expr}{es:List Expr}{to:TE}{t:TA}{name:Str}{apos cpos:Pos}{T id:String}{r:V->List V->Hp->VK->Prop}{K:PySem.W.Frag}
theorem pe_bmC (hK:X.K=K) (pa:PlainAttrs T) (slot:Slot T name id) (hty:typeOf (.builtin id)=pure (.type "method_descriptor")) (hm:MtR X id r) (ho:PE X o to) (ha:PA X (e::es) t)
  (hbase:attributeBase o name X.env (eval o X.env)=eval o X.env:=by rfl)
  (hfew:((backTo cpos (starEach (e::es) X.env)).all (λx=>!x.1) && (backToKw cpos (keywordEach [] X.env)).all (λx=>x.1.isSome) && decide ((e::es).length + ([]:List Keyword).length + (if ([]:List Keyword).isEmpty then 0 else 1) < 30))=true:=by rfl)
  (hline:(apos.endLine == cpos.line)=true:=by rfl) (hs:starEach (e::es) X.env=(false,eval e X.env)::starEach es X.env:=by rfl) (hplain:(backTo cpos (starEach es X.env)).any (·.1)=false:=by rfl) :
  PE X (.Call (.Attribute o name apos) (e::es) [] cpos) (tBMC K T r to t):=by
 subst hK
 intro pins s σ H Q I h
 refine wpAny_Call_method_late hbase hfew hline rfl (thn (ho pins s σ H _ I h) λv s1 ⟨x,H1,I1,r1,q1⟩=>?_)
 obtain ⟨p,rfl,hc,q1⟩:=q1
 cases (show v=Value.ref p from r1)
 unfold cstB at hc
 split at hc
 case h_2=>cases hc
 rename_i ob hob
 rw [zz] at hc
 have hg:=I1.kIn _ _ hob
 refine ⟨T,id,pa,slot,hty,⟨ob,hg,beq_iff_eq.mp hc.1⟩,λb e=>by cases e;exact ⟨ob,hg,Option.isNone_iff_eq_none.mp hc.2⟩,?_⟩
 have hA:=ha cpos pins s1 σ H1 _ I1 q1
 rw [hs] at hA ⊢
 refine Calls.callWith_builtin (by show (false || (backTo cpos (starEach es X.env)).any (·.1))=false;rw [hplain] <;> rfl) (Calls.evalArgs_plain ?_)
 exact thn hA λus s2 ⟨vs,H2,I2,r2,q2⟩=>hm pins s2 σ H2 (.ref p) vs (.ref p) us Q I2 rfl r2 q2
theorem call_intT:CallR X (.type "int") (λxs H Q=>∃ n:Int,xs=[.str (Str.ofString (toString n))]/\0<=n/\n < 10 ^ 10/\Q (.int n) H):=by
 intro pins s σ H xs us Q I r h
 obtain ⟨n,rfl,h0,h1,q⟩:=h
 obtain ⟨u,rfl,ru⟩:=vals1 r
 obtain ⟨t,rfl⟩:=ru
 exact PySem.W.KIN.call_num h0 h1 ⟨.int n,H,I.tok _,⟨_,rfl⟩,q⟩
theorem vals_strs {h:Heap}:∀ {ns:List Str}{l:List (Str×Tok)},l.map (·.1)=ns->Vals (ns.map V.str) (strValues l)
 | _,[],rfl=>.nil
 | _,p::l,rfl=>.cons ⟨p.2,rfl⟩ (vals_strs (h:=h) rfl)
theorem mt_split:MtR X "str.split" (λx xs H Q=>∃ z y:Str,x=.str z/\xs=[.str y]/\(y.length == 0)=false/\z.length + 2<=sizeLine/\∀ l,H l=none->Q (.ref l) (upd H l (.lst ((Txt.split z y).map V.str)))):=by
 intro pins s σ H x xs v us Q I rx rs h
 obtain ⟨z,y,rfl,rfl,hy,hz,q⟩:=h
 obtain ⟨t,rfl⟩:=rx
 obtain ⟨u,rfl,ru⟩:=vals1 rs
 obtain ⟨tu,rfl⟩:=ru
 have hf:H s.heap.objs.size=none:=I.hok.fresh (zD _)
 have fin:∀ (l:List (Str×Tok)) (k:Nat),l.map (·.1)=Txt.split z y->EP X pins σ Q (.ref s.heap.objs.size) { s with toks:=k,heap:=s.heap.push { cls:=.type "list", data:=.seq (strValues l).toArray } }:=λl k e=>by
  have hl:((Txt.split z y).map V.str).length<=sizeLine:=by rw [zA];exact zj (split_le z y) hz
  refine ⟨.ref s.heap.objs.size,upd H s.heap.objs.size (.lst ((Txt.split z y).map V.str)),I.laid (t':=k) (λb u e=>Heap.get?_push_of_some _ e) (zD _) ?_,rfl,q _ hf⟩
  exact ⟨hl,strValues l,0,vals_strs (h:=s.heap) e,Heap.get?_push_size _ rfl⟩
 have hn:(Builtin.Str.partsBetween z (Builtin.Str.occurrences z y 0 z.length (z.length + 1)) y.length).length<=sizeLine:=by
  have e1:=StrLaws.occ_length_le z y 0 z.length (z.length + 1)
  rw [length_partsBetween];omega
 cases h1:(decide (z.length < y.length) || decide (Builtin.Str.strKind z < Builtin.Str.strKind y))
 ·cases hf':(Builtin.Str.occurrences z y 0 z.length (z.length + 1)).isEmpty
  ·refine call_meets F.slot_str_split (typeIs_str _ _ _) F.entry_str_split (F.args_str_split_2 _ _) (meets_str_split_sep z y t tu h1 hy hf' (by omega) hn) ?_
   have:=fin (numbered s.toks (Builtin.Str.partsBetween z (Builtin.Str.occurrences z y 0 z.length (z.length + 1)) y.length)) (s.toks + (Builtin.Str.partsBetween z (Builtin.Str.occurrences z y 0 z.length (z.length + 1)) y.length).length) ((numbered_texts _ _).trans ((if_neg (ne_true_of_eq_false h1)).trans (if_neg (ne_true_of_eq_false hf'))).symm)
   rw [<-strsFrom_eq] at this
   exact this
  ·exact call_meets F.slot_str_split (typeIs_str _ _ _) F.entry_str_split (F.args_str_split_2 _ _) (meets_str_split_not_found z y t tu h1 hy hf')
    (fin [(z,t)] s.toks ((if_neg (ne_true_of_eq_false h1)).trans (if_pos hf')).symm)
 ·exact call_meets F.slot_str_split (typeIs_str _ _ _) F.entry_str_split (F.args_str_split_2 _ _) (meets_str_split_cannot_occur z y t tu h1)
   (fin [(z,t)] s.toks (if_pos h1).symm)
theorem psx_nox {ss:List Stmt}{t:TS} (h:PSs X.nox ss t):PSx X ss (λ_=>t):=λpins s σ H D _ _ I hw _=>
 wpAny_mono (h pins s σ H D (I.wish _) hw) (λ_ _ q=>q.unwish) λ_ _ z=>False.elim z
end
def dst1 (acc:List Str) (x:Str):List Str:=if x∈acc then acc else acc++[x]
def dst (ns:List Str):List Str:=ns.foldl dst1 []
theorem dst_step {ns:List Str}{i:Nat}{x:Str} (h:ns[i]?=some x):dst (ns.take (i + 1))=dst1 (dst (ns.take i)) x:=by
 unfold dst
 rw [yr,h,Option.toList_some,List.foldl_append];rfl
theorem dst_le (ns:List Str):(dst ns).length<=ns.length:=by
 have key:∀ (ns acc:List Str),(ns.foldl dst1 acc).length<=acc.length + ns.length:=by
  intro ns
  induction ns with
  | nil=>intro acc;exact zD _
  | cons x ns ih=>
   intro acc
   rw [List.foldl_cons,zV]
   refine zj (ih _) ?_
   unfold dst1
   split
   ·omega
   ·rw [zI,zm];omega
 have:=key ns []
 rwa [zy,yq] at this
theorem dst_same {ns:List Str} (h:ns.Nodup):dst ns=ns:=by
 have key:∀ (ns acc:List Str),(acc++ns).Nodup->ns.foldl dst1 acc=acc++ns:=by
  intro ns
  induction ns with
  | nil=>intro acc _;exact (zi _).symm
  | cons x ns ih=>
   intro acc h
   have hx:x ∉ acc:=λz=>(List.nodup_append.mp h).2.2 x z x zd rfl
   have e:acc++x::ns=acc++[x]++ns:=by simp
   rw [List.foldl_cons,dst1,if_neg hx,ih _ (by rw [<-e];exact h),e]
 exact key ns [] h
def TxS (prog:Program) (w:World) (h:Heap) (a:Addr) (l:List Str):Prop:=h.SetOf (strKind prog w) a (λk=>decide (k∈l)) l.length
theorem TxS.move {prog:Program}{w:World}{h h':Heap}{a:Addr}{l:List Str} (T:TxS prog w h a l) (k:∀ o,h.get? a=some o->h'.get? a=some o):TxS prog w h' a l:=by
 obtain ⟨o,es,ep,t,ho,r⟩:=T
 exact ⟨o,es,ep,t,k o ho,r⟩
section
variable {prog:Program}{w:World}{A:Around}{R:Result->Shared->Prop}{I:Addr}{fp wr:List Addr}{G:Array GenState->Array GenState->Prop}{n:Nat}{P:Nat->Value->Prop}{St:Nat->Shared->Prop}{ns:List Str}
theorem loopT (W:WalksS prog w A.in1 I fp wr G n P St) (S:Addr) (hSf:S ∉ fp) (hn:ns.length=n) (few:n < 4000) (hv:∀ i v,P i v->∃ x t,ns[i]?=some x/\v=.str x t) :
  ∀ (k i:Nat) (s:Shared),n - i=k->i<=n->St i s->TxS prog w s.heap S (dst (ns.take i)) ->
   (∀ s',Moved (S::wr) G s s'->TxS prog w s'.heap S (dst ns)->R (.ok (.ret .none)) s')->codeAny (model prog w) A (.builtin "set.update.loop" ⟨[.ref S,.ref I],[]⟩) R s:=by
 have nw:S ∉ wr:=λh=>hSf (W.sub _ h)
 have sub:∀ b∈wr,b∈S::wr:=λb hb=>zb _ hb
 intro k
 induction k with
 | zero=>
  intro i s hk hi hst hS hR
  obtain rfl:i=n:=by omega
  refine codeAny_builtin PyProof.Rows.F.entry_set_update_loop ?_
  rw [Around.under_plainId PyProof.Rows.F.plain_set_update_loop _]
  show wpAny _ A.in1 (pyNext (.ref I) >>= _) _ _ s
  refine wpAny_bind (W.done s _ _ hst λs' hm=>?_)
  show wpAny _ A.in1 (ret Value.none) _ _ s'
  rw [<-hn,yV] at hS
  exact wpAny_pure (hR s' (hm.mono sub) (hS.move λo e=>hm.heap S o nw e))
 | succ k ih=>
  intro i s hk hi hst hS hR
  have lt:i < n:=by omega
  refine codeAny_builtin PyProof.Rows.F.entry_set_update_loop ?_
  rw [Around.under_plainId PyProof.Rows.F.plain_set_update_loop _]
  show wpAny _ A.in1 (pyNext (.ref I) >>= _) _ _ s
  refine wpAny_bind (W.item i s _ _ lt hst λv s' hP hst' hm=>?_)
  obtain ⟨x,t,hxi,rfl⟩:=hv i v hP
  have hS':TxS prog w s'.heap S (dst (ns.take i)):=hS.move λo e=>hm.heap S o nw e
  have l1:(dst (ns.take i)).length<=i:=zj (dst_le _) (by rw [zY];omega)
  show wpAny _ A.in1 (holding [Value.str x t] (setAdd S (.str x t)) >>= _) _ _ s'
  refine wpAny_bind (wpAny_holding ?_)
  unfold setAdd
  refine wpAny_holding ?_
  refine wpAny_bind ((strKind prog w).pyHash (k:=x) (strKind_is _ _ _ _) ?_)
  refine wpAny_setAddHashed_of (knd:=strKind prog w) (s:={ s' with toks:=s'.toks + 1 }) (strKind_is _ _ _ _) rfl hS' (by unfold scanBound;omega) λh' sb h2=>?_
  have hN:TxS prog w h' S (dst (ns.take (i + 1))):=by
   rw [dst_step hxi]
   unfold dst1
   by_cases c:x∈dst (ns.take i)
   ·rw [if_pos c]
    refine SetOf_congr h2 (λy=>?_) (by rw [if_pos (decide_eq_true c)])
    by_cases e:y=x
    ·subst e;simp [c]
    ·simp [e]
   ·rw [if_neg c]
    refine SetOf_congr h2 (λy=>?_) (by rw [if_neg (by simp [c]),zI,zm])
    simp
  refine wpAny_pure ⟨plainId_quiet PyProof.Rows.F.plain_set_update_loop _,ih (i + 1) _ (by omega) lt (W.frame _ s' _ _ hst' (yj _) λb hb' o e=>?_) hN λs'' hm'' hS''=>?_⟩
  ·rw [sb.2 b (λz=>hSf (by rw [<-z];exact hb'))];exact e
  ·refine hR s'' (Moved.trans W.gtrans ((hm.mono sub).then_heap (yj _) λb o hb' e=>?_) hm'') hS''
   rw [sb.2 b (λz=>hb' (by rw [z];exact zd))];exact e
end
section
variable {prog:Program}{w:World}{A:Around}{E:Value->Shared->Prop}{s:Shared}{ns:List Str}{vs:List Value}
def SetE (led:Bool):Obj:={ cls:=.type "set", dict:=none,data:=.set #[] 0 (.fresh 0 0 led) }
theorem tailT {l:Addr}{led:Bool} (hh:A.handled=none) (rv:Vals (ns.map V.str) vs) (hl1:(s.heap.push (SetE led)).IsList l vs.toArray) (lS:l < s.heap.objs.size) (few:ns.length < 4000)
  {R:Result->Shared->Prop} (hR:∀ h' tk,TxS prog w h' s.heap.objs.size (dst ns)->(∀ b o,s.heap.get? b=some o->h'.get? b=some o)->R (.ok (.ret .none)) { s with heap:=h',toks:=tk }) :
  codeAny (model prog w) A.in1.in1 (.builtin "set.update.loop" ⟨[.ref s.heap.objs.size,.ref (s.heap.push (SetE led)).objs.size],[]⟩) R { s with heap:=(s.heap.push (SetE led)).push { cls:=.type "list_iterator", data:=.fields #[.ref l,.int 0 0] } }:=by
 have sz:(s.heap.push (SetE led)).objs.size=s.heap.objs.size + 1:=Heap.size_push _ _
 have ln:ns.length=vs.length:=by have:=rv.length;rwa [zA] at this
 have hS:(s.heap.push (SetE led)).get? s.heap.objs.size=some (SetE led):=Heap.get?_push_size _ rfl
 have h0:TxS prog w ((s.heap.push (SetE led)).push { cls:=.type "list_iterator", data:=.fields #[.ref l,.int 0 0] }) s.heap.objs.size (dst (ns.take 0)):=
  SetOf_congr ((setObjOf_fresh (knd:=strKind prog w) led).setOf (Heap.get?_push_of_some _ hS) (by unfold scanBound;omega)) (λ_=>rfl) rfl
 refine loopT (ns:=ns) ((Walks.list (by simp [hh]) _ l (by rw [sz];exact zW (yD lS)) _).toS) s.heap.objs.size (by rw [sz];simp only [zH,zK,or_false,not_or];exact ⟨zW (Nat.lt_succ_self _),yA lS⟩) (by rw [ln];exact zF.symm) (by rw [zF,<- ln];exact few) (λi v hv=>?_) _ 0 _ rfl (zf _)
  ⟨⟨_,Heap.get?_push_size _ rfl,rfl,rfl⟩,hl1.push _⟩ h0 λs' hm hS'=>?_
 ·have hv':vs.toArray[i]?=some v:=hv
  rw [List.getElem?_toArray] at hv'
  have hi:=(zT.mp hv').1
  have hx:ns[i]?=some (ns[i]'(by omega)):=zJ _
  obtain ⟨u,hu,ru⟩:=rv.get (show (ns.map V.str)[i]?=some (V.str (ns[i]'(by omega))) by rw [zX,hx];rfl)
  obtain ⟨t,rfl⟩:=ru
  exact ⟨_,t,hx,Option.some.inj (hv'.symm.trans hu)⟩
 ·obtain ⟨h',g',d',tk',os'⟩:=s'
  have eg:g'=s.gens:=hm.gens
  have ed:d'=s.drawn:=hm.drawn
  have eo:os'=s.os:=hm.os
  subst eg;subst ed;subst eo
  refine hR h' tk' hS' λb o e=>hm.heap b o (λz=>?_) (Heap.get?_push_of_some _ (Heap.get?_push_of_some _ e))
  have:=Heap.lt_size e
  rw [sz] at z
  simp only [zH,zK,or_false] at z
  rcases z with rfl | rfl
  ·exact zw _ this
  ·exact zw _ (Nat.lt_of_succ_lt this)
theorem newT {l:Addr}{Q:Value->Shared->Prop} (hh:A.handled=none) (rv:Vals (ns.map V.str) vs) (hl:s.heap.IsList l vs.toArray) (few:ns.length < 4000)
  (h:∀ (h':Heap) (tk:Nat),TxS prog w h' s.heap.objs.size (dst ns)->(∀ b o,s.heap.get? b=some o->h'.get? b=some o)->Q (.ref s.heap.objs.size) { s with heap:=h',toks:=tk }) :
  wpAny (model prog w) A (call (.type "set") [.ref l]) Q E s:=by
 obtain ⟨c,tl,hmro⟩:=F.called_set.mro
 have hmade:=F.called_set.made
 have hsub:=F.called_set.sub
 refine wpAny_call (codeAny_of_tree ?_)
 show wpAny _ _ (callAny (.type "set") _) _ _ _
 refine wpAny_pure ⟨Code.quiet_builtin _ (by decide +kernel),codeAny_builtin F.entry_type_call ?_⟩
 rw [Around.under_plain (weight_type_call_type "set" [.ref l] []) rfl]
 have h1:=F.called_set.notType
 have h2:=F.called_set.canCreate
 have hct:=F.typeCall_set_1 (.ref l)
 repeat (any_goals (first | assumption | wp_step))
 refine codeAny_mono (code_set_new_1 (.ref l) (E:=E) (Q₁:=λobj s₁=>∃ led:Bool,obj=.ref s.heap.objs.size/\s₁={ s with heap:=s.heap.push (SetE led) }) λled=>⟨led,rfl,rfl⟩) λr s₁ hr'=>?_
 cases r with
 | error e=>exact hr'
 | ok fl=>
  cases fl with
  | ret obj=>
   obtain ⟨led,rfl,rfl⟩:=hr'
   generalize hob:SetE led=ob
   have hS:(s.heap.push ob).get? s.heap.objs.size=some ob:=Heap.get?_push_size _ (by rw [<-hob];rfl)
   have hT:Shared.TypeIs { s with heap:=s.heap.push ob } (.ref s.heap.objs.size) "set" := ⟨_,hS,by rw [<-hob];rfl⟩
   have hli:=F.called_set.init.lookup
   have hbi:=F.called_set.init.bind (.ref s.heap.objs.size)
   repeat (any_goals (first | assumption | wp_step))
   refine codeAny_mono (codeAny_call_builtin (R:=wants (λr s₂=>r=.none/\∃ h' tk,s₂={ s with heap:=h',toks:=tk }/\TxS prog w h' s.heap.objs.size (dst ns)/\(∀ b o,s.heap.get? b=some o->h'.get? b=some o)) E) F.called_set.init.plain F.entry_set_init (check_set_init_1 hT ?_)) λr₂ s₂ hr₂=>?_
   ·have hl1:(s.heap.push ob).IsList l vs.toArray:=hl.push _
    obtain ⟨⟨ocls,odict,odata,oslots⟩,hol,hcl,nl,hdl⟩:=hl
    simp only at hcl hdl
    subst hcl;subst hdl
    have lS:l < s.heap.objs.size:=Heap.lt_size hol
    have hol':(s.heap.push ob).get? l=some { cls:=.type "list", dict:=odict,data:=.seq vs.toArray nl,slots:=oslots }:=Heap.get?_push_of_some _ hol
    have hsls:=F.sub_list_set
    have hslf:=F.sub_list_frozenset
    have hne:(Value.type "list" == Value.type "dict")=false:=by decide
    subst hob
    unfold SetE at hS hT hl1 hol' ⊢
    unfold Builtin.«set.__init__» noKeywords Builtin.Frozenset.updateFrom
    generalize hPI:pyIter=PI
    wp_walk
    subst hPI
    refine wpAny_pyIter_list hl1 ?_
    refine wpAny_bind (wpAny_runValue ?_)
    refine tailT hh rv hl1 lS few λh' tk hS' hk'=>?_
    show wpAny _ _ _ _ _ _
    refine wpAny_pure ?_
    show wpAny _ _ (ret Value.none) _ _ _
    exact wpAny_pure ⟨rfl,h',tk,rfl,hS',hk'⟩
   ·cases r₂ with
    | error e=>exact hr₂
    | ok fl₂=>
     cases fl₂ with
     | ret r=>
      obtain ⟨rfl,h',tk,rfl,hS',hk'⟩:=hr₂
      repeat (any_goals (first | assumption | wp_step))
      exact h _ _ hS' hk'
     | _=>exact hr₂.elim
  | _=>exact hr'.elim
end
def setN (a:Addr) (n:Nat):HO:=.ext λh=>∃ o es ep t,h.get? a=some o/\o.ExactSet/\o.data=.set es ep t/\t.fits es.size=true/\es.size=n/\n < 4096
section
variable {X:Cx}
theorem call_setT (hc:X.calm=true):CallR X (.type "set") (λvs H Q=>∃ l ns,vs=[.ref l]/\H l=some (.lst (ns.map V.str))/\ns.length < 4000/\∀ p,H p=none->Q (.ref p) (upd H p (setN p (dst ns).length))):=by
 intro pins s σ H xs us Q I r h
 obtain ⟨l,ns,rfl,hl,few,q⟩:=h
 obtain ⟨u,rfl,ru⟩:=vals1 r
 cases ru
 obtain ⟨its,r,pl,_⟩:=I.list (.inl (.inl hl))
 refine newT (ns:=ns) (I.ok.hd hc) r pl.isList few λh' tk hs kp=>?_
 refine ⟨.ref s.heap.objs.size,_,I.laid (a:=s.heap.objs.size) (o:=setN s.heap.objs.size (dst ns).length) (t':=tk) kp (zD _) ?_,rfl,q _ (I.hok.fresh (zD _))⟩
 obtain ⟨o,es,ep,t,ho,he,hd,_,_,hb,hf,hn⟩:=hs
 exact ⟨⟨o,es,ep,t,ho,he,hd,hf,hn,by rw [<-hn];exact hb⟩,⟨_,ho⟩,λh1 h2 ⟨o,es,ep,t,ho,r⟩ k=>⟨o,es,ep,t,k _ ho,r⟩⟩
theorem call_lenT:CallR X (.builtin "len") (λvs H Q=>∃ p n,vs=[.ref p]/\H p=some (setN p n)/\Q (.int (n:Nat)) H):=by
 intro pins s σ H vs us Q I r h
 obtain ⟨p,n,rfl,hp,q⟩:=h
 obtain ⟨u,rfl,ru⟩:=vals1 r
 cases ru
 obtain ⟨⟨o,es,ep,t,ho,he,hd,hf,hn,hb⟩,_⟩:=I.hok p _ hp
 refine call_len_set ho he hd hf (by omega) ⟨.int n,H,I.tok _,⟨s.toks + 1,by rw [hn]⟩,q⟩
end
end L2
namespace Sm
open PySem L2 SmSort
def low (c:Nat):Bool:=decide (97<=c) && decide (c<=122)
def nameB:V->Bool
 | .str z=>decide (1<=z.length) && (decide (z.length<=8) && z.cps.toList.all low)
 | _=>false
theorem cat_list (a b:Str):(a++b).cps.toList=a.cps.toList++b.cps.toList:=by
 show (a.cps++b.cps).toList=_
 rw [Array.toList_append]
theorem le_a (c:Nat):(!decide ((⟨#[c]⟩:Str).cps.toList < (Str.ofString "a").cps.toList))=decide (97<=c):=by
 have e:(Str.ofString "a").cps.toList=[97]:=by decide +kernel
 rw [e]
 show (!decide ([c] < [97]))=_
 rw [<-decide_not,decide_eq_decide,List.cons_lt_cons_iff]
 simp
theorem le_z (c:Nat):(!decide ((Str.ofString "z").cps.toList < (⟨#[c]⟩:Str).cps.toList))=decide (c<=122):=by
 have e:(Str.ofString "z").cps.toList=[122]:=by decide +kernel
 rw [e]
 show (!decide ([122] < [c]))=_
 rw [<-decide_not,decide_eq_decide,List.cons_lt_cons_iff]
 simp
def Word (z:Str):Prop:=1<=z.length/\z.length<=8/\z.cps.toList.all low=true
theorem Word.name {z:Str} (h:Word z):nameB (.str z)=true:=by
 show (decide (1<=z.length) && (decide (z.length<=8) && z.cps.toList.all low))=true
 rw [decide_eq_true h.1,decide_eq_true h.2.1,h.2.2];rfl
def spIsName:Sp:=λvs H Q _=>∃ x t,vs=[x]/\tyS H x=some t/\(∀ z,x=.str z->z.length<=1000)/\∀ H',Same H H'->Q (.bl (nameB x)) H'
theorem signs {v:Int} (h0:0<=v) (h1:v < 11):∃ z:Str,∃ c,atI [V.str (Str.ofString "A"),V.str (Str.ofString "Z"),V.str (Str.ofString "0"),V.str (Str.ofString "9"),V.str (Str.ofString " "),V.str (Str.ofString "\n"),V.str (Str.ofString "_"),V.str (Str.ofString "-"),V.str (Str.ofString ":"),V.str (Str.ofString "{"),V.str (Str.ofString "~")] v=some (.str z)/\z.cps.toList=[c]/\(c < 97\/122 < c):=by
 obtain ⟨k,rfl⟩:=zU h0
 have hk:k < 11:=by omega
 match k,hk with
 | 0,_=>exact ⟨_,65,rfl,by decide +kernel,by decide⟩
 | 1,_=>exact ⟨_,90,rfl,by decide +kernel,by decide⟩
 | 2,_=>exact ⟨_,48,rfl,by decide +kernel,by decide⟩
 | 3,_=>exact ⟨_,57,rfl,by decide +kernel,by decide⟩
 | 4,_=>exact ⟨_,32,rfl,by decide +kernel,by decide⟩
 | 5,_=>exact ⟨_,10,rfl,by decide +kernel,by decide⟩
 | 6,_=>exact ⟨_,95,rfl,by decide +kernel,by decide⟩
 | 7,_=>exact ⟨_,45,rfl,by decide +kernel,by decide⟩
 | 8,_=>exact ⟨_,58,rfl,by decide +kernel,by decide⟩
 | 9,_=>exact ⟨_,123,rfl,by decide +kernel,by decide⟩
 | 10,_=>exact ⟨_,126,rfl,by decide +kernel,by decide⟩
end Sm
namespace L2
open PySem PySem.Spec PyProof.Rows
theorem pi_or {X:Cx}{tg l:Expr} {t1 t2:TI} (h1:PI X tg l t1) (h2:PI X tg l t2):PI X tg l (fun σ H R=>t1 σ H R\/t2 σ H R):=by
 intro pins s σ H R I h
 rcases h with h | h
 ·exact h1 pins s σ H R I h
 ·exact h2 pins s σ H R I h
end L2
namespace Sm
open PySem L2 SmSort
def Bare (x:Str):Prop:=32 ∉ x.cps.toList
def sp1:Str:=Str.ofString " "
theorem sp1_eq:sp1=⟨#[32]⟩:=by decide +kernel
theorem free_cut {c:Nat}:∀ {a b u v:List Nat},c ∉ a->c ∉ b->a++c::u=b++c::v->a=b/\u=v
 | [],[],_,_,_,_,e=>⟨rfl,(List.cons.inj e).2⟩
 | [],y::b,_,_,_,hb,e=>absurd (by rw [(List.cons.inj e).1];exact zd) hb
 | x::a,[],_,_,ha,_,e=>absurd (by rw [<-(List.cons.inj e).1];exact zd) ha
 | x::a,y::b,u,v,ha,hb,e=>by
  obtain ⟨e1,e2⟩:=List.cons.inj e
  obtain ⟨r1,r2⟩:=free_cut (λz=>ha (zb _ z)) (λz=>hb (zb _ z)) e2
  exact ⟨by rw [e1,r1],r2⟩
theorem join_two (x y:Str) (r:List Str):(Str.join sp1 (x::y::r)).cps.toList=x.cps.toList++32::(Str.join sp1 (y::r)).cps.toList:=by
 show (x++sp1++Str.join sp1 (y::r)).cps.toList=_
 rw [cat_list,cat_list,sp1_eq,ym];rfl
theorem cps_ext {a b:Str} (h:a.cps.toList=b.cps.toList):a=b:=str_ext (Array.toList_inj.mp h)
theorem join_one_to:∀ {xs ys:List Str},xs≠[]->ys≠[]->(∀ x∈xs,Bare x)->(∀ y∈ys,Bare y)->Str.join sp1 xs=Str.join sp1 ys->xs=ys
 | [x],[y],_,_,_,_,e=>by rw [show x=y from e]
 | [x],y::z::r,_,_,hx,_,e=>by
  have e':(Str.join sp1 _).cps.toList=(Str.join sp1 _).cps.toList:=congrArg (λs:Str=>s.cps.toList) e
  rw [join_two] at e'
  exact absurd (show 32∈x.cps.toList by rw [show x.cps.toList=_ from e'];simp) (hx x zd)
 | x::z::r,[y],_,_,_,hy,e=>by
  have e':(Str.join sp1 _).cps.toList=(Str.join sp1 _).cps.toList:=congrArg (λs:Str=>s.cps.toList) e
  rw [join_two] at e'
  exact absurd (show 32∈y.cps.toList by rw [<-show _=y.cps.toList from e'];simp) (hy y zd)
 | x::z::r,y::w::q,_,_,hx,hy,e=>by
  have e':(Str.join sp1 _).cps.toList=(Str.join sp1 _).cps.toList:=congrArg (λs:Str=>s.cps.toList) e
  rw [join_two,join_two] at e'
  obtain ⟨e1,e2⟩:=free_cut (hx x zd) (hy y zd) e'
  rw [cps_ext e1,join_one_to (by simp) (by simp) (λu h=>hx u (zb _ h)) (λu h=>hy u (zb _ h)) (cps_ext e2)]
theorem split_join {ws:List Str} (h0:ws≠[]) (h:∀ w∈ws,Bare w):Txt.split (Txt.join sp1 ws) sp1=ws:=by
 have e:Str.join sp1 (Txt.split (Txt.join sp1 ws) sp1)=Str.join sp1 ws:=(StrLaws.join_split _ _).trans (StrLaws.glued_eq_join _ _)
 refine join_one_to (λz=>?_) h0 (λx hx=>?_) h e
 ·have:=PyProof.Rows.split_pos (Txt.join sp1 ws) sp1
  rw [z] at this
  exact absurd this (by decide)
 ·rw [sp1_eq] at hx
  exact StrLaws.split_free _ 32 x hx
theorem join3 (s a b c:Str):Txt.join s [a,b,c]=(((a++s)++b)++s)++c:=str_ext (by rw [wI,wI,wI,wI];rfl)
theorem tx_signs (m:Nat):(tx (m:Int)).cps.toList=(y8 10 m).map Char.toNat:=PySem.W.KIN.signs_num m
theorem tx_digits {n:Int} (h0:0<=n):∀ c∈(tx n).cps.toList,48<=c/\c<=57:=by
 obtain ⟨m,rfl⟩:=zU h0
 intro c hc
 rw [show (tx ((m:Nat):Int)).cps.toList=_ from tx_signs m] at hc
 obtain ⟨ch,hch,e⟩:=zO.mp hc
 have r:=PyProof.Rows.digit_range (Nat.isDigit_of_mem_toDigits (by decide) (by decide) hch)
 rw [<-e]
 exact r
theorem tx_bare {n:Int} (h0:0<=n):Bare (tx n):=λh=>by have:=tx_digits h0 32 h;omega
theorem tx_small {n:Int} (h0:0<=n) (h1:n < 10 ^ 10):(tx n).length<=10:=PySem.W.KT.len_num h0 h1
theorem tx_some {n:Int} (h0:0<=n):1<=(tx n).length:=by
 obtain ⟨m,rfl⟩:=zU h0
 have e:(tx ((m:Nat):Int)).cps.toList.length=(tx ((m:Nat):Int)).length:=Array.length_toList
 rw [<-e,show (tx ((m:Nat):Int)).cps.toList=_ from tx_signs m,zA]
 exact toDigits_len_ge 10 m
theorem head_zero (m:Nat) (hm:0 < m):((y8 10 m).map Char.toNat).head?≠some 48:=by
 induction m using Nat.strongRecOn with
 | _ m ih=>
  by_cases h:m < 10
  ·rw [Nat.toDigits_of_lt_base h]
   have:∀ d:Nat,d < 10->0 < d->some (Nat.digitChar d).toNat≠some 48:=by decide
   exact this m h hm
  ·have t:y8 10 (m / 10)++y8 10 (m % 10)=y8 10 (10 * (m / 10) + m % 10):=Nat.toDigits_append_toDigits (by decide) (by omega) (Nat.mod_lt m (by decide))
   rw [Nat.div_add_mod] at t
   have i:=ih (m / 10) (by omega) (by omega)
   have l:=toDigits_len_ge 10 (m / 10)
   rw [<-t,zC]
   cases hd:y8 10 (m / 10) with
   | nil=>rw [hd] at l;exact absurd l (by decide)
   | cons a r=>rw [hd] at i;exact i
theorem tx_head {n:Int} (h0:0<=n) (h1:1 < (tx n).length):(tx n).cps[0]?≠some 48:=by
 obtain ⟨m,rfl⟩:=zU h0
 have pos:0 < m:=by
  rcases Nat.eq_zero_or_pos m with rfl | h
  ·exact absurd h1 (by decide +kernel)
  ·exact h
 have:=head_zero m pos
 rwa [<-tx_signs,List.head?_eq_getElem?,Array.getElem?_toList] at this
theorem low_bare {x:Str} (h:Word x):Bare x:=λz=>by
 have:=yc.mp h.2.2 32 z
 revert this;decide
inductive Row7
 | W (x:Str) (n:Int)
 | M (m:M4)
 | L (l:L4)
def sW:Str:=Str.ofString "walker"
def sM:Str:=Str.ofString "meet"
def sL:Str:=Str.ofString "letter"
def sN:Str:=Str.ofString "name"
def sR:Str:=Str.ofString "number"
def Row7.sort:Row7->Str
 | .W _ _=>sW
 | .M _=>sM
 | .L _=>sL
def Row7.kinds:Row7->List Str
 | .W _ _=>[sN,sR]
 | .M _=>[sN,sN,sR,sR]
 | .L _=>[sN,sR,sN,sR]
def Row7.words (ns:List Str):Row7->List Str
 | .W x n=>[x,tx n]
 | .M m=>[nm ns m.lo,nm ns m.hi,tx m.t,tx m.m]
 | .L l=>[nm ns (l.s:Int),tx l.a,nm ns (l.w:Int),tx l.z]
def Row7.parts (ns:List Str):Row7->List V
 | .W x n=>[.str x,.int n]
 | .M m=>[.str (nm ns m.lo),.str (nm ns m.hi),.int m.t,.int m.m]
 | .L l=>[.str (nm ns (l.s:Int)),.int l.a,.str (nm ns (l.w:Int)),.int l.z]
def Row7.text (ns:List Str):Row7->Str
 | .W x n=>rowW (x,n)
 | .M m=>rowM ns m
 | .L l=>rowL ns l
inductive PartsIs:List Str->List Str->List V->Prop
 | nil:PartsIs [] [] []
 | name {w:Str}{ks ws:List Str}{ps:List V}:PartsIs ks ws ps->PartsIs (sN::ks) (w::ws) (.str w::ps)
 | num {n:Int}{ks ws:List Str}{ps:List V}:0<=n->n < 10 ^ 10->PartsIs ks ws ps->PartsIs (sR::ks) (tx n::ws) (.int n::ps)
theorem PartsIs.len {ks ws:List Str}{ps:List V} (h:PartsIs ks ws ps):ws.length=ks.length/\ps.length=ks.length:=by
 induction h with
 | nil=>exact ⟨rfl,rfl⟩
 | name _ ih=>exact ⟨by rw [zV,zV,ih.1],by rw [zV,zV,ih.2]⟩
 | num _ _ _ ih=>exact ⟨by rw [zV,zV,ih.1],by rw [zV,zV,ih.2]⟩
theorem PartsIs.at {ks ws:List Str}{ps:List V} (h:PartsIs ks ws ps):∀ {i:Nat}{k w:Str},ks[i]?=some k->ws[i]?=some w->∃ p,ps[i]?=some p/\((k=sN/\p=.str w)\/∃ n:Int,k=sR/\w=tx n/\0<=n/\n < 10 ^ 10/\p=.int n):=by
 induction h with
 | nil=>intro i k w hk;cases hk
 | name _ ih=>
  intro i k w hk hw
  match i with
  | 0=>cases hk;cases hw;exact ⟨_,rfl,.inl ⟨rfl,rfl⟩⟩
  | i + 1=>exact ih hk hw
 | num h0 h1 _ ih=>
  intro i k w hk hw
  match i with
  | 0=>cases hk;cases hw;exact ⟨_,rfl,.inr ⟨_,rfl,rfl,h0,h1,rfl⟩⟩
  | i + 1=>exact ih hk hw
theorem PartsIs.noNone {ks ws:List Str}{ps:List V} (h:PartsIs ks ws ps):inV .non ps=false/\ps.all flatV=true:=by
 induction h with
 | nil=>exact ⟨rfl,rfl⟩
 | name _ ih=>exact ⟨ih.1,ih.2⟩
 | num _ _ _ ih=>exact ⟨ih.1,ih.2⟩
def Row7.Ok (ns:List Str):Row7->Prop
 | .W x n=>Word x/\0<=n/\n < 10 ^ 10
 | .M m=>Word (nm ns m.lo)/\Word (nm ns m.hi)/\0<=m.t/\m.t < 10 ^ 10/\0<=m.m/\m.m < 10 ^ 10
 | .L l=>Word (nm ns (l.s:Int))/\Word (nm ns (l.w:Int))/\0<=l.a/\l.a < 10 ^ 10/\0<=l.z/\l.z < 10 ^ 10
theorem Row7.Ok.parts {ns:List Str}{d:Row7} (h:d.Ok ns):PartsIs d.kinds (d.words ns) (d.parts ns):=by
 cases d with
 | W x n=>exact .name (.num h.2.1 h.2.2 .nil)
 | M m=>obtain ⟨_,_,h1,h2,h3,h4⟩:=h;exact .name (.name (.num h1 h2 (.num h3 h4 .nil)))
 | L l=>obtain ⟨_,_,h1,h2,h3,h4⟩:=h;exact .name (.num h1 h2 (.name (.num h3 h4 .nil)))
theorem Row7.Ok.bare {ns:List Str}{d:Row7} (h:d.Ok ns):∀ w∈d.sort::d.words ns,Bare w/\w.length<=10:=by
 have b1:Bare sW/\Bare sM/\Bare sL:=by unfold Bare;decide +kernel
 have l1:sW.length<=10/\sM.length<=10/\sL.length<=10:=by decide +kernel
 have wd:∀ {x:Str},Word x->Bare x/\x.length<=10:=λ{x} h=>⟨low_bare h,by have:=h.2.1;omega⟩
 have nb:∀ {n:Int},0<=n->n < 10 ^ 10->Bare (tx n)/\(tx n).length<=10:=λ{n} h0 h1=>⟨tx_bare h0,tx_small h0 h1⟩
 cases d with
 | W x n=>
  obtain ⟨h1,h2,h3⟩:=h
  intro w hw
  simp only [Row7.sort,Row7.words,zH,zK,or_false] at hw
  rcases hw with rfl | rfl | rfl
  ·exact ⟨b1.1,l1.1⟩
  ·exact wd h1
  ·exact nb h2 h3
 | M m=>
  obtain ⟨h1,h2,h3,h4,h5,h6⟩:=h
  intro w hw
  simp only [Row7.sort,Row7.words,zH,zK,or_false] at hw
  rcases hw with rfl | rfl | rfl | rfl | rfl
  ·exact ⟨b1.2.1,l1.2.1⟩
  ·exact wd h1
  ·exact wd h2
  ·exact nb h3 h4
  ·exact nb h5 h6
 | L l=>
  obtain ⟨h1,h2,h3,h4,h5,h6⟩:=h
  intro w hw
  simp only [Row7.sort,Row7.words,zH,zK,or_false] at hw
  rcases hw with rfl | rfl | rfl | rfl | rfl
  ·exact ⟨b1.2.2,l1.2.2⟩
  ·exact wd h1
  ·exact nb h3 h4
  ·exact wd h2
  ·exact nb h5 h6
theorem walker_sp:sW++sp1=Str.ofString "walker " := by decide +kernel
theorem Row7.joined (ns:List Str) (d:Row7):d.text ns=Txt.join sp1 (d.sort::d.words ns):=by
 cases d with
 | W x n=>show rowW (x,n)=Txt.join sp1 [sW,x,tx n];rw [join3,walker_sp];rfl
 | M m=>show rowM ns m=Txt.join sp1 [sM,nm ns m.lo,nm ns m.hi,tx m.t,tx m.m];rw [join5,show sM++sp1=Str.ofString "meet " from meet_sp];rfl
 | L l=>show rowL ns l=Txt.join sp1 [sL,nm ns (l.s:Int),tx l.a,nm ns (l.w:Int),tx l.z];rw [join5,show sL++sp1=Str.ofString "letter " from letter_sp];rfl
theorem Row7.Ok.split {ns:List Str}{d:Row7} (h:d.Ok ns):Txt.split (d.text ns) sp1=d.sort::d.words ns:=by
 rw [Row7.joined];exact split_join (by simp) λw hw=>(h.bare w hw).1
theorem Row7.Ok.short {ns:List Str}{d:Row7} (h:d.Ok ns):(d.text ns).length<=100:=by
 rw [Row7.joined]
 refine zj (join_len _ _) ?_
 have z:sp1.length=1:=by decide +kernel
 have key:∀ ws:List Str,(∀ w∈ws,w.length<=10)->(ws.map λy=>y.length).sum<=10 * ws.length:=by
  intro ws
  induction ws with
  | nil=>intro _;exact zD _
  | cons w ws ih=>
   intro h
   have h1:=h w zd
   have h2:=ih λx hx=>h x (zb _ hx)
   rw [zu,List.sum_cons,zV];omega
 have k:=key _ λw hw=>(h.bare w hw).2
 have l:(d.sort::d.words ns).length<=5:=by cases d <;> simp [Row7.words]
 rw [z];omega
def Row7.nameO:Row7->Option Str
 | .W x _=>some x
 | _=>none
def Row7.roomO:Row7->Option Int
 | .W _ n=>some n
 | _=>none
def Row7.meetO:Row7->Option M4
 | .M m=>some m
 | _=>none
def Row7.letO:Row7->Option L4
 | .L l=>some l
 | _=>none
def allD (ns:List Str) (rooms:List Int) (ms:List M4) (ls:List L4):List Row7:=((ns.zip rooms).map (λp=>Row7.W p.1 p.2)++ms.map Row7.M)++ls.map Row7.L
theorem allD_text (ns:List Str) (rooms:List Int) (ms:List M4) (ls:List L4):(allD ns rooms ms ls).map (Row7.text ns)=allRows ns rooms ms ls:=by
 unfold allD allRows
 simp only [zC,zp];rfl
theorem zipW_names:∀ {ns:List Str}{rooms:List Int},ns.length=rooms.length->((ns.zip rooms).map λp=>Row7.W p.1 p.2).filterMap Row7.nameO=ns/\((ns.zip rooms).map λp=>Row7.W p.1 p.2).filterMap Row7.roomO=rooms
 | [],[],_=>⟨rfl,rfl⟩
 | x::ns,r::rs,h=>by
  obtain ⟨h1,h2⟩:=zipW_names (ns:=ns) (rooms:=rs) (by simpa using h)
  exact ⟨congrArg (List.cons x) h1,congrArg (List.cons r) h2⟩
 | [],_::_,h=>by cases h
 | _::_,[],h=>by cases h
theorem fm_none {α β γ:Type}{f:α->β}{g:β->Option γ} (h:∀ a,g (f a)=none) (l:List α):(l.map f).filterMap g=[]:=by
 rw [List.filterMap_map];exact List.filterMap_eq_nil_iff.mpr λa _=>h a
theorem fm_some {α β:Type}{f:α->β}{g:β->Option α} (h:∀ a,g (f a)=some a) (l:List α):(l.map f).filterMap g=l:=by
 rw [List.filterMap_map]
 have:(g ∘ f)=some:=funext h
 rw [this,List.filterMap_some]
theorem allD_names {ns:List Str}{rooms:List Int}{ms:List M4}{ls:List L4} (h:ns.length=rooms.length) :
  (allD ns rooms ms ls).filterMap Row7.nameO=ns/\(allD ns rooms ms ls).filterMap Row7.roomO=rooms/\(allD ns rooms ms ls).filterMap Row7.meetO=ms/\(allD ns rooms ms ls).filterMap Row7.letO=ls:=by
 obtain ⟨h1,h2⟩:=zipW_names h
 unfold allD
 simp only [List.filterMap_append]
 refine ⟨?_,?_,?_,?_⟩
 ·rw [h1,fm_none (λ_=>rfl),fm_none (λ_=>rfl),zi,zi]
 ·rw [h2,fm_none (λ_=>rfl),fm_none (λ_=>rfl),zi,zi]
 ·rw [fm_none (λ_=>rfl),fm_some (f:=Row7.M) (g:=Row7.meetO) (λ_=>rfl),fm_none (λ_=>rfl),zi,yU]
 ·rw [fm_none (λ_=>rfl),fm_none (λ_=>rfl),fm_some (f:=Row7.L) (g:=Row7.letO) (λ_=>rfl),yU,yU]
def Row7.place:Row7->Nat
 | .W _ _=>0
 | .M _=>1
 | .L _=>2
theorem allD_rising (ns:List Str) (rooms:List Int) (ms:List M4) (ls:List L4):((allD ns rooms ms ls).map λd=>(d.place:Int)).Pairwise (·<=·):=by
 unfold allD
 simp only [zC,zp]
 have c:∀ {α:Type} (l:List α) (k:Int),(l.map λ_=>k).Pairwise (·<=·):=λl k=>by
  rw [yE];exact List.pairwise_of_forall (λ_ _=>Int.le_refl _)
 refine yk.mpr ⟨yk.mpr ⟨c _ 0,c _ 1,λa ha b hb=>?_⟩,c _ 2,λa ha b hb=>?_⟩
 ·obtain ⟨_,_,rfl⟩:=zO.mp ha
  obtain ⟨_,_,rfl⟩:=zO.mp hb
  show (0:Int)<=1;decide
 ·obtain ⟨_,_,rfl⟩:=zO.mp hb
  rcases zZ.mp ha with h | h
  ·obtain ⟨_,_,rfl⟩:=zO.mp h
   show (0:Int)<=2;decide
  ·obtain ⟨_,_,rfl⟩:=zO.mp h
   show (1:Int)<=2;decide
structure RAt (H:Hp) (ns:List Str) (x:Addr×Addr×Row7):Prop where
 tup:H x.1=some (.tup [.str x.2.2.sort,.ref x.2.1])
 parts:H x.2.1=some (.lst (x.2.2.parts ns))
theorem RAt.same {H H':Hp}{ns:List Str}{x:Addr×Addr×Row7} (h:RAt H ns x) (s:Same H H'):RAt H' ns x:=⟨s _ _ h.tup,s _ _ h.parts⟩
def ReadL (H:Hp) (l:Addr) (ns:List Str) (xs:List (Addr×Addr×Row7)):Prop:=H l=some (.lst (xs.map λx=>V.ref x.1))/\∀ x∈xs,RAt H ns x
theorem ReadL.same {H H':Hp}{l:Addr}{ns:List Str}{xs:List (Addr×Addr×Row7)} (h:ReadL H l ns xs) (s:Same H H'):ReadL H' l ns xs:=⟨s _ _ h.1,λx hx=>(h.2 x hx).same s⟩
theorem nm_nodup {ns:List Str} (nd:ns.Nodup) {i:Nat}{k:Int} (h0:0<=k) (h1:k < ns.length) (h:ns[i]?=some (nm ns k)):(i:Int)=k:=by
 obtain ⟨j,rfl⟩:=zU h0
 have hj:j < ns.length:=by omega
 have e:ns[j]?=some (nm ns (j:Int)):=by unfold nm;rw [yC,zJ hj];rfl
 have hi:=(zT.mp h).1
 rw [<-h] at e
 rw [(List.getElem?_inj hj nd).mp e]
def spNumber:Sp:=λvs H Q _=>∃ n:Int,vs=[.str (tx n)]/\0<=n/\n < 10 ^ 10/\∀ H',Same H H'->Q (.int n) H'
def spPartsOf (K:PySem.W.Frag):Sp:=λvs H Q _=>∃ lw p w0 ws ks ps,vs=[.ref lw,.ref p]/\H lw=some (.lst ((w0::ws).map V.str))/\SqT K H p (ks.map V.str)/\PartsIs ks ws ps/\ks.length<=4/\∀ l H',Same H H'->H l=none->H' l=some (.lst ps)->Q (.ref l) H'
def spReadRow:Sp:=λvs H Q _=>∃ ns,∃ d:Row7,vs=[.str (d.text ns)]/\d.Ok ns/\∀ p l H',Same H H'->H p=none->H l=none->RAt H' ns (p,l,d)->Q (.ref p) H'
def spNumberIn:Sp:=λvs H Q _=>∃ l ns,∃ k:Int,vs=[.ref l,.str (nm ns k)]/\H l=some (.lst (ns.map V.str))/\ns.Nodup/\ns.length<=12/\0<=k/\k < ns.length/\∀ H',Same H H'->Q (.int k) H'
structure RowsOk (ns:List Str) (rooms:List Int) (ms:List M4) (ls:List L4):Prop where
 len:ns.length=rooms.length
 one:1<=rooms.length
 few:rooms.length<=12
 word:∀ x∈ns,Word x
 nodup:ns.Nodup
 room:∀ r∈rooms,(0:Int)<=r/\r<=99
 raw:Raw rooms.length ms
 lets:ls.length<=40
 each:∀ l∈ls,l.s < rooms.length/\l.w < rooms.length/\0<=l.a/\l.a<=1000000000/\0<=l.z/\l.z<=1000000000
def spReadBook (T:Addr) (lp:Pos):Sp:=λvs H Q _=>∃ nl rl ns rooms ms ls xs,vs=[.ref nl,.ref rl]/\H nl=some (.lst (ns.map V.str))/\RowsOk ns rooms ms ls/\ReadL H rl ns xs/\xs.map (·.2.2)=allD ns rooms ms ls/\MT T lp lamQ H /\
 ∀ b tr tm ps H',But T H H'->MT T lp lamQ H'->BookAt H' b rooms tr tm ps->Good rooms.length (ps.map (·.2))->(ps.map (·.2)).Perm (ms.map M4.norm)->Q (.ref b) H'
def spReadLets:Sp:=λvs H Q _=>∃ nl b rl ns rooms ms ls xs tr tm ps,vs=[.ref nl,.ref b,.ref rl]/\H nl=some (.lst (ns.map V.str))/\RowsOk ns rooms ms ls/\ReadL H rl ns xs/\xs.map (·.2.2)=allD ns rooms ms ls/\BookAt H b rooms tr tm ps/\ps.length<=60 /\
 ∀ l ys H',Same H H'->H l=none->LetsL H' l ys->ys.map (·.2)=ls->Q (.ref l) H'
structure ToldAt (H:Hp) (p nl b ll:Addr) (ns:List Str) (rooms:List Int) (tr tm:Addr) (ps:List (Addr×M4)) (ys:List (Addr×L4)):Prop where
 tup:H p=some (.tup [.ref nl,.ref b,.ref ll])
 names:H nl=some (.lst (ns.map V.str))
 book:BookAt H b rooms tr tm ps
 lets:LetsL H ll ys
theorem ToldAt.same {H H':Hp}{p nl b ll tr tm:Addr}{ns:List Str}{rooms:List Int}{ps:List (Addr×M4)}{ys:List (Addr×L4)} (h:ToldAt H p nl b ll ns rooms tr tm ps ys) (s:Same H H'):ToldAt H' p nl b ll ns rooms tr tm ps ys:=⟨s _ _ h.tup,s _ _ h.names,h.book.same s,h.lets.same s⟩
def spReadAll (T:Addr) (lp:Pos):Sp:=λvs H Q _=>∃ lr ns rooms ms ls,vs=[.ref lr]/\H lr=some (.lst ((allRows ns rooms ms ls).map V.str))/\RowsOk ns rooms ms ls/\MT T lp lamQ H /\
 ∀ p nl b ll tr tm ps ys H',But T H H'->MT T lp lamQ H'->ToldAt H' p nl b ll ns rooms tr tm ps ys->H nl=none->H ll=none->nl≠ll->Good rooms.length (ps.map (·.2))->(ps.map (·.2)).Perm (ms.map M4.norm)->ys.map (·.2)=ls->Q (.ref p) H'
def spAllWhole (K:PySem.W.Frag):Sp:=λvs H Q _=>∃ l,∃ xs:List (Addr×List Int),vs=[.ref l]/\(SqL K H l (xs.map λx=>V.ref x.1)\/SqT K H l (xs.map λx=>V.ref x.1))/\xs.length<=100/\(∀ x∈xs,H x.1=some (.tup (x.2.map V.int))/\x.2.length<=100)/\∀ H',Same H H'->Q (.bl true) H'
def spReadSo:Sp:=λvs H Q _=>∃ p nl b ll ns rooms tr tm ps ys nl2 b2 ll2 tr2 tm2 ps2 ys2,vs=[.ref p,.ref nl2,.ref b2,.ref ll2]/\ToldAt H p nl b ll ns rooms tr tm ps ys/\H nl2=some (.lst (ns.map V.str))/\BookAt H b2 rooms tr2 tm2 ps2/\LetsL H ll2 ys2/\ps.map (·.2)=ps2.map (·.2)/\ys.map (·.2)=ys2.map (·.2)/\ns.length<=12/\rooms.length<=12/\ps.length<=60/\ys.length<=41/\1<=rooms.length /\
 ∀ H',Same H H'->Q (.bl true) H'
def spMixed:Sp:=λvs H Q _=>∃ p nl b ns rooms tr tm ps,vs=[.ref p,.ref nl,.ref b]/\Purse H p/\H nl=some (.lst (ns.map V.str))/\BookAt H b rooms tr tm ps/\ns.length=rooms.length/\rooms.length<=12/\(∀ s∈ns,s.length<=100)/\Good rooms.length (ps.map (·.2)) /\
 ∀ l ms H',Go p H H'->H l=none->H' l=some (.lst (ms.map λm=>V.str (rowM ns m)))->Raw rooms.length ms->(ms.map M4.norm).Perm (ps.map (·.2))->Q (.ref l) H'
def spNamesW:Sp:=λvs H Q _=>∃ p,∃ n:Nat,vs=[.ref p,.int (n:Int)]/\1<=n/\n<=12/\Purse H p/\∀ l ns H',Go p H H'->H l=none->NamesL H' l ns->ns.length=n->(∀ s∈ns,Word s)->ns.Nodup->Q (.ref l) H'
end Sm
namespace Sm
open PySem L2 SmSort
theorem map_some {α β:Type}{f:α->β}{o o':Option α}{a:α} (e:o.map f=o'.map f) (h:o'=some a):∃ b,o=some b/\f b=f a:=by
 subst h
 cases o with
 | none=>cases e
 | some b=>exact ⟨b,rfl,Option.some.inj e⟩
end Sm
namespace Sm
open PySem L2 SmSort
open Classical in
noncomputable def cut (M:Addr->Prop) (H:Hp):Hp:=λc=>if M c then none else H c
end Sm
namespace L2
open PySem PySem.Spec PyProof.Rows
section
variable {X:Cx}{pos:Pos}
def gTupL (K:PySem.W.Frag) (n:Nat) (t:TGs):TG:=λv σ H Q=>∃ a xs,v=.ref a/\SqL K H a xs/\xs.length=n/\t xs σ H Q
theorem pg_tupL {es:List Expr}{k:Nat}{t:TGs}{n:Nat} (hc:X.calm=true) (h:PGs X es t)
  (hn:(assignEach es X.env).length=n:=by rfl) (hst:(assignEach es X.env).findIdx? (·.1)=none:=by rfl):PG X (.Tuple es k pos) (gTupL X.K n t):=by
 intro pins s σ H v u Q I r hw
 obtain ⟨a,xs,e1,hq,hl,hw⟩:=hw
 subst e1
 cases r
 obtain ⟨its,rv,⟨o,m,ho,hcl,hd,hs⟩,hz⟩:=I.list hq
 have hl':s.heap.IsList a its.toArray:=⟨o,ho,hcl,m,hs⟩
 rw [assign_Tuple]
 refine wpAny_bind (wpAny_standAt ?_)
 unfold unpack
 rw [hst,show (assignEach es X.env).length=its.toArray.size by simp [hn,<- hl,rv.length]]
 refine wpAny_bind (wpAny_holding (PySem.W.kun_itemsOf (I.ok.hd hc) hl' λh' hx=>?_))
 have I1:Inv X pins σ H { s with heap:=h' }:=I.kept (t':=s.toks) λb o e=>hx b o (zW (Heap.lt_size e)) e
 exact h pins _ σ H xs _ Q I1 (by simpa using rv) hw
end
end L2
namespace Sm
open PySem L2 SmSort
end Sm
namespace Sm
open PySem L2 SmSort
end Sm
namespace Sm
open PySem L2 SmSort
section
variable {C:Addr} {H0 H:Hp}{t u:Tr}{rooms:List Int}{tr tm:Addr}{ps:List (Addr×M4)} {n0 n1:Nat}
end
end Sm
namespace Sm
open PySem L2 SmSort
end Sm
namespace L2
open PySem PySem.Spec PyProof.Rows
theorem zipN_new (l1 l2:Addr) (xs ys:Array Value) :
  Meets (Builtin.«zip.__new__» ⟨[.type "zip", .ref l1,.ref l2],[]⟩) (λ_ R s=>s.heap.IsTuple l1 xs/\s.heap.IsList l2 ys /\
   ∀ h':Heap,IsZip h' (s.heap.objs.size + 4) (s.heap.objs.size + 2) (s.heap.objs.size + 3) .none->IsPair h' (s.heap.objs.size + 2) (.ref s.heap.objs.size) (.ref (s.heap.objs.size + 1)) ->
   IsPair h' (s.heap.objs.size + 3) .none .none->h'.IsTupleIter s.heap.objs.size l1 0->h'.IsListIter (s.heap.objs.size + 1) l2 0 -> 
   (∀ c o,s.heap.get? c=some o->h'.get? c=some o)->R (.ok (.ret (.ref (s.heap.objs.size + 4)))) { s with heap:=h' }):=
 .of_wp λprog w A R s h=>by
  obtain ⟨hp,g,d,tk,os⟩:=s;obtain ⟨hl1,hl2,h⟩:=h
  have hsub:=sub_zip
  have hL1:Heap.IsTuple (Shared.heap ⟨hp,g,d,tk,os⟩) l1 xs:=hl1
  have hL2:Heap.IsList (Shared.heap ⟨hp.push { cls:=.type "tuple_iterator", data:=.fields #[.ref l1,.int 0 0] },g,d,tk,os⟩) l2 ys:=let ⟨o,e,r⟩:=hl2;⟨o,Heap.get?_push_of_some _ e,r⟩
  wp_walk using wpAny_pyIter_tuple hL1,wpAny_pyIter_list hL2
  refine ⟨_,rfl,?_⟩
  have sp:∀ (h:Heap) (o:Obj),(h.push o).objs.size=h.objs.size + 1:=λh o=>Heap.size_push ..
  have h':=h (((((hp.push { cls:=.type "tuple_iterator", data:=.fields #[.ref l1,.int 0 0] }).push { cls:=.type "list_iterator", data:=.fields #[.ref l2,.int 0 0] }).push { cls:=.type "tuple", data:=.seq #[.ref hp.objs.size,.ref (hp.objs.size + 1)] }).push { cls:=.type "tuple", data:=.seq #[.none,.none] }).push { cls:=.type "zip", data:=.fields #[.none,.bool false,.bool false,.ref (hp.objs.size + 2),.ref (hp.objs.size + 3)] })
   (by show Heap.get? _ (hp.objs.size + 4)=_;rw [show hp.objs.size + 4=((((hp.push { cls:=.type "tuple_iterator", data:=.fields #[.ref l1,.int 0 0] }).push { cls:=.type "list_iterator", data:=.fields #[.ref l2,.int 0 0] }).push { cls:=.type "tuple", data:=.seq #[.ref hp.objs.size,.ref (hp.objs.size + 1)] }).push { cls:=.type "tuple", data:=.seq #[.none,.none] }).objs.size from by simp only [sp]];exact Heap.get?_push_size _ rfl)
   (by
    refine Heap.get?_push_of_some _ (Heap.get?_push_of_some _ ?_)
    show Heap.get? _ (hp.objs.size + 2)=_
    rw [show hp.objs.size + 2=((hp.push { cls:=.type "tuple_iterator", data:=.fields #[.ref l1,.int 0 0] }).push { cls:=.type "list_iterator", data:=.fields #[.ref l2,.int 0 0] }).objs.size from by simp only [sp]];exact Heap.get?_push_size _ rfl)
   (by
    refine Heap.get?_push_of_some _ ?_
    show Heap.get? _ (hp.objs.size + 3)=_
    rw [show hp.objs.size + 3=(((hp.push { cls:=.type "tuple_iterator", data:=.fields #[.ref l1,.int 0 0] }).push { cls:=.type "list_iterator", data:=.fields #[.ref l2,.int 0 0] }).push { cls:=.type "tuple", data:=.seq #[.ref hp.objs.size,.ref (hp.objs.size + 1)] }).objs.size from by simp only [sp]];exact Heap.get?_push_size _ rfl)
   ⟨_,Heap.get?_push_of_some _ (Heap.get?_push_of_some _ (Heap.get?_push_of_some _ (Heap.get?_push_of_some _ (Heap.get?_push_size _ rfl)))),rfl,rfl⟩
   ⟨{ cls:=.type "list_iterator", data:=.fields #[.ref l2,.int 0 0] },(by
    refine Heap.get?_push_of_some _ (Heap.get?_push_of_some _ (Heap.get?_push_of_some _ ?_))
    show Heap.get? _ (hp.objs.size + 1)=_
    rw [show hp.objs.size + 1=(hp.push { cls:=.type "tuple_iterator", data:=.fields #[.ref l1,.int 0 0] }).objs.size from by simp only [sp]];exact Heap.get?_push_size _ rfl),rfl,rfl⟩
   (λc o x=>Heap.get?_push_of_some _ (Heap.get?_push_of_some _ (Heap.get?_push_of_some _ (Heap.get?_push_of_some _ (Heap.get?_push_of_some _ x)))))
  simp only [sp] at h' ⊢
  exact h'
end L2
namespace L2
open PySem PySem.Spec PyProof.Rows
section
variable {prog:Program}{w:World}{A:Around}{E:Value->Shared->Prop}{s:Shared}
variable {z TI TO i1 i2:Addr} {fp1 fp2:List Addr}{n:Nat} {P1 P2:Nat->Value->Prop} {S1 S2:Nat->Heap->Prop}
theorem ZD.mixN {l1 l2:Addr} (hh:A.handled=none) (ne:TI≠z/\TO≠z/\i1≠z/\i2≠z/\TI≠TO/\TI≠i1/\TI≠i2/\TO≠i1/\TO≠i2/\i1≠i2) (a1:∀ x∈[z,TO,i1,i2],l1≠x) (a2:∀ x∈[z,TO,i1,i2],l2≠x) {xs ys:Array Value} (hs:ys.size=xs.size) :
  ZD prog w A z TI TO i1 i2 [i1,l1] [i2,l2] xs.size (λi v=>xs[i]?=some v) (λi v=>ys[i]?=some v) (λi h=>h.IsTupleIter i1 l1 i/\h.IsTuple l1 xs) (λi h=>h.IsListIter i2 l2 i/\h.IsList l2 ys) where
 d1:=drawsT hh i1 l1 (a1 _ (by simp)) xs
 d2:=hs ▸ Draws.list hh i2 l2 (a2 _ (by simp)) ys
 ne:=ne
 f1:=by
  obtain ⟨n1,n2,n3,n4,n5,n6,n7,n8,n9,n10⟩:=ne
  have b1:=a1 z (by simp);have b2:=a1 TO (by simp);have b3:=a1 i2 (by simp)
  simp only [zH,zK,or_false,not_or]
  exact ⟨⟨n3.symm,b1.symm⟩,⟨n8,b2.symm⟩,n10.symm,b3.symm⟩
 f2:=by
  obtain ⟨n1,n2,n3,n4,n5,n6,n7,n8,n9,n10⟩:=ne
  have b1:=a2 z (by simp);have b2:=a2 TO (by simp);have b3:=a2 i1 (by simp)
  simp only [zH,zK,or_false,not_or]
  exact ⟨⟨n4.symm,b1.symm⟩,⟨n9,b2.symm⟩,n10,b3.symm⟩
end
def IzN (K:PySem.W.Frag) (a b:Addr):It:=
 ⟨λi H=>∃ xs ys x y,SqT K H a xs/\SqL K H b ys/\xs.length=ys.length/\xs[i]?=some x/\ys[i]?=some y,λi H v H'=>∃ p x y,H p=none/\v=.ref p/\H'=upd H p (.tup [x,y])/\∀ xs ys,SqT K H a xs->SqL K H b ys->xs[i]?=some x/\ys[i]?=some y,
  λi H=>∃ xs ys,SqT K H a xs/\SqL K H b ys/\xs.length=ys.length/\xs.length=i⟩
theorem turn_zipN {P:Program}{w:World}{K:PySem.W.Frag}{es:List Expr}{k:Nat}{pos:Pos} (l1 l2 z TI TO i1 i2:Addr) (ap:ZN z TI TO i1 i2) (a1:∀ x∈[z,TO,i1,i2],l1≠x) (a2:∀ x∈[z,TO,i1,i2],l2≠x) :
  Turn P w K (.Tuple es k pos) (IzN K l1 l2) [z,TI,TO,i1,i2] z (λi h=>IsZip h z TI TO .none/\IsPair h TI (.ref i1) (.ref i2)/\(∃ a b,IsPair h TO a b)/\h.IsTupleIter i1 l1 i/\h.IsListIter i2 l2 i) where
 mem:=by simp
 obj:=λi h st b hb=>by
  obtain ⟨hz,hTI,⟨a,c,hTO⟩,⟨o1,g1,c1,d1⟩,⟨o2,g2,c2,d2⟩⟩:=st
  simp only [zH,zK,or_false] at hb
  rcases hb with e | e | e | e | e <;> subst e
  ·exact ⟨_,hz,λv q=>nomatch q⟩
  ·exact ⟨_,hTI,λv q=>nomatch q⟩
  ·exact ⟨_,hTO,λv q=>nomatch q⟩
  ·exact ⟨o1,g1,λv q=>by rw [d1] at q;cases q⟩
  ·exact ⟨o2,g2,λv q=>by rw [d2] at q;cases q⟩
 keep:=λi h h' st q=>by
  obtain ⟨hz,hTI,⟨a,c,hTO⟩,⟨o1,g1,r1⟩,⟨o2,g2,r2⟩⟩:=st
  exact ⟨q z (by simp) _ hz,q TI (by simp) _ hTI,⟨a,c,q TO (by simp) _ hTO⟩,⟨o1,q i1 (by simp) o1 g1,r1⟩,⟨o2,q i2 (by simp) o2 g2,r2⟩⟩
 item:=by
  intro X hP hw hK hc i pins s σ H E I hf st hg
  subst hP hw hK
  obtain ⟨xs,ys,x,y,hq1,hq2,el,hx,hy⟩:=hg
  obtain ⟨its1,rv1,p1,hz1⟩:=I.tuple hq1
  obtain ⟨its2,rv2,p2,hz2⟩:=I.list hq2
  obtain ⟨u,hu,ru⟩:=rv1.get hx
  obtain ⟨v,hv,rv⟩:=rv2.get hy
  obtain ⟨hZ,hTI,⟨a0,c0,hTO⟩,hi1,hi2⟩:=st
  have t1:s.heap.IsTuple l1 its1.toArray:=p1
  have t2:s.heap.IsList l2 its2.toArray:=p2.isList
  have fp:=λb hb=>hf b hb
  have lt:∀ b,b∈[z,TI,TO,i1,i2]->b < s.heap.objs.size:=λb hb=>by
   simp only [zH,zK,or_false] at hb
   rcases hb with e | e | e | e | e <;> subst e
   ·exact Heap.lt_size hZ
   ·exact Heap.lt_size hTI
   ·exact Heap.lt_size hTO
   ·exact let ⟨_,z,_⟩:=hi1;Heap.lt_size z
   ·exact let ⟨_,z,_⟩:=hi2;Heap.lt_size z
  have ll1:l1 < s.heap.objs.size:=let ⟨_,z,_⟩:=t1;Heap.lt_size z
  have ll2:l2 < s.heap.objs.size:=let ⟨_,z,_⟩:=t2;Heap.lt_size z
  have e1:=rv1.length
  have e2:=rv2.length
  have ix:=(zT.mp hu).1
  refine zdn_item (ZD.mixN (A:=X.A.in1) (I.ok.hd hc) ap a1 a2 (xs:=its1.toArray) (ys:=its2.toArray) (by simp;omega)) (by simpa using ix) hZ hTI hTO ⟨hi1,t1⟩ ⟨hi2,t2⟩ (λu' v' h1 tk hu' hv' hZ1 hTO1 hs1 hs2 hT hsz hk=>?_) (λb hb=>?_) (λb hb=>?_)
  rotate_left
  ·simp only [zH,zK,or_false] at hb
   rcases hb with e | e
   ·rw [e];exact lt i1 (by simp)
   ·rw [e];exact ll1
  ·simp only [zH,zK,or_false] at hb
   rcases hb with e | e
   ·rw [e];exact lt i2 (by simp)
   ·rw [e];exact ll2
  obtain rfl:u=u':=by
   have q:its1.toArray[i]?=some u:=by simpa using hu
   exact Option.some.inj (q.symm.trans hu')
  obtain rfl:v=v':=by
   have q:its2.toArray[i]?=some v:=by simpa using hv
   exact Option.some.inj (q.symm.trans hv')
  refine ⟨_,rfl,?_⟩
  refine wpAny_letOwnedTupleGo_zip hZ1 λh2 hZ2 hs2'=>?_
  replace hs2':Heap.SameBut z h1 h2:=hs2'
  obtain ⟨n1,n2,n3,n4,n5,n6,n7,n8,n9,n10⟩:=ap
  have old2:∀ b o,b ∉ [z,TO,i1,i2]->s.heap.get? b=some o->h2.get? b=some o:=λb o hb q=>by
   simp only [zH,zK,or_false,not_or] at hb
   exact hs2'.extBut b o hb.1 (hk b o hb.1 hb.2.1 hb.2.2.1 hb.2.2.2 q)
  have hT2:h2.get? s.heap.objs.size=some { cls:=.type "tuple", data:=.seq #[u,v] }:=hs2'.extBut _ _ (yA (lt z (by simp))) hT
  have nT:H s.heap.objs.size=none:=I.hok.fresh (zD _)
  have sub:∀ b,b∈[z,TO,i1,i2]->b∈[z,TI,TO,i1,i2]:=λb hb=>by
   simp only [zH,zK,or_false] at hb ⊢
   rcases hb with e | e | e | e <;> simp [e]
  refine ⟨.ref s.heap.objs.size,upd H s.heap.objs.size (.tup [x,y]),?_,rfl,⟨_,x,y,nT,rfl,rfl,λys' zs' h1 h2=>by rw [I.tuple_inj h1 hq1,I.list_inj h2 hq2];exact ⟨hx,hy⟩⟩,⟨hZ2,?_,⟨u,v,?_⟩,?_,?_⟩,λb hb=>?_⟩
  ·refine Inv.step (s:=s) (h':=h2) (g':=s.gens) (d':=s.drawn) (t':=tk) (ch:=[z,TO,i1,i2]) I (λb hb=>?_) (λb o _ _ hb q _=>old2 b o hb q) (λb o _ _ hb q _=>⟨o.slots,old2 b o hb q⟩)
    (λb o _ q n=>by rw [xH (zW (Heap.lt_size q))];exact n) (λb o hb q=>⟨o,old2 b o hb q⟩)
    (λb ys q=>by rw [xH (xF q nT)];exact q) (λb o v q=>by rw [xH (xF q nT)];exact q) (λb ps q=>⟨#[],by rw [xH (xF q nT),q];simp⟩)
    (λm hm=>by
     obtain ⟨o,es',ep,q,r⟩:=hm
     exact ⟨o,es',ep,old2 _ o (λhb=>(fp _ (sub _ hb)).2.1 rfl) q,r⟩) (λb v' q=>?_) I.bare
   ·obtain ⟨e0,e1,e2,e3,e4,e5⟩:=fp b (sub b hb)
    exact ⟨e3,e1,e4,e5⟩
   ·by_cases hb:b=s.heap.objs.size
    ·subst hb
     rw [xC] at q
     cases q
     exact ⟨⟨by show 2<=sizeLine;rw [sizeLine_eq];decide,λob e=>by rw [hT2] at e;cases e;rfl⟩,[u,v],.cons ru (.cons rv .nil),⟨_,hT2,rfl,_,rfl⟩⟩
    ·rw [xH hb] at q
     refine (I.hok b v' q).stay (λc ob hc qc=>old2 c ob (λhb=>?_) qc) (λc qc=>by rw [xH (xF qc nT)];exact qc) λc ys qc=>by rw [xH (xF qc nT)];exact qc
     have e0:=(fp c (sub c hb)).1
     rcases hc with z | z
     ·subst z;exact xF q e0 rfl
     ·exact xF z e0 rfl
  ·exact old2 _ _ (by simp only [zH,zK,or_false,not_or];exact ⟨n1,n5,n6,n7⟩) hTI
  ·exact hs2'.extBut _ _ n2 hTO1
  ·obtain ⟨o,q,r⟩:=hs1.1
   exact ⟨o,hs2'.extBut i1 o n3 q,r⟩
  ·obtain ⟨o,q,r⟩:=hs2.1
   exact ⟨o,hs2'.extBut i2 o n4 q,r⟩
  ·rw [xH (zW (lt b hb))];exact (fp b hb).1
 done:=by
  intro X hP hw hK hc i pins s σ H E I hf st hg
  subst hP hw hK
  obtain ⟨xs,ys,hq1,hq2,el,hx⟩:=hg
  obtain ⟨its1,rv1,p1,hz1⟩:=I.tuple hq1
  obtain ⟨its2,rv2,p2,hz2⟩:=I.list hq2
  obtain ⟨hZ,hTI,⟨a0,c0,hTO⟩,hi1,hi2⟩:=st
  have t1:s.heap.IsTuple l1 its1.toArray:=p1
  have l1':=rv1.length
  have l2':=rv2.length
  have en:i=its1.toArray.size:=by simp;omega
  subst en
  have sub:∀ b,b∈[z,TO,i1,i2]->b∈[z,TI,TO,i1,i2]:=λb hb=>by
   simp only [zH,zK,or_false] at hb ⊢
   rcases hb with e | e | e | e <;> simp [e]
  refine zdn_end (ZD.mixN (A:=X.A.in1) (I.ok.hd hc) ap a1 a2 (xs:=its1.toArray) (ys:=its2.toArray) (by simp;omega)) hZ hTI hTO ⟨hi1,t1⟩ λh' hk=>⟨rfl,?_⟩
  have old2:∀ b o,b ∉ [z,TO,i1,i2]->s.heap.get? b=some o->h'.get? b=some o:=λb o hb q=>by
   simp only [zH,zK,or_false,not_or] at hb
   exact hk b o hb.1 hb.2.1 hb.2.2.1 hb.2.2.2 q
  refine Inv.step (s:=s) (h':=h') (g':=s.gens) (d':=s.drawn) (t':=s.toks) (ch:=[z,TO,i1,i2]) I (λb hb=>?_) (λb o _ _ hb q _=>old2 b o hb q) (λb o _ _ hb q _=>⟨o.slots,old2 b o hb q⟩)
    (λb o _ q n=>n) (λb o hb q=>⟨o,old2 b o hb q⟩)
    (λb ys q=>q) (λb o v q=>q) (λb ps q=>⟨#[],by rw [q];simp⟩)
    (λm hm=>by
     obtain ⟨o,es',ep,q,r⟩:=hm
     exact ⟨o,es',ep,old2 _ o (λhb=>(hf _ (sub _ hb)).2.1 rfl) q,r⟩) (λb v' q=>?_) I.bare
  ·obtain ⟨e0,e1,e2,e3,e4,e5⟩:=hf b (sub b hb)
   exact ⟨e3,e1,e4,e5⟩
  ·refine (I.hok b v' q).stay (λc ob hc qc=>old2 c ob (λhb=>?_) qc) (λc qc=>qc) λc ys qc=>qc
   have e0:=(hf c (sub c hb)).1
   rcases hc with z | z
   ·subst z;exact xF q e0 rfl
   ·exact xF z e0 rfl
 self:=λ_ _ _ _ _ st h=>wpAny_pyIter_zip st.1 h
def iZipN (K:PySem.W.Frag) (ta:TA):TI:=fun σ H R=>ta σ H λvs H1=>∃ a b,vs=[.ref a,.ref b]/\(∃ xs,SqT K H1 a xs)/\(∃ ys,SqL K H1 b ys)/\R (IzN K a b) H1
theorem pi_zipN {X:Cx}{a b:Expr}{ta:TA} {p pos pos2:Pos}{es:List Expr}{k:Nat}{K:PySem.W.Frag} (hK:X.K=K) (hg:Gl X "zip") (hm:X.mg "zip" = none) (ha:PA X [a,b] ta)
  (hs:starEach [a,b] X.env=(false,eval a X.env)::starEach [b] X.env:=by rfl) (hs2:starEach [b] X.env=[(false,eval b X.env)]:=by rfl) :
  PI X (.Tuple es k pos2) (.Call (.Name "zip" p) [a,b] [] pos) (iZipN K ta):=by
 subst hK
 intro pins s σ H R I h
 refine Call_ (ld_blt I hg hm boot_zip (yQ (thn (ha pos pins s σ H _ I h) λus s1 ⟨vs,H1,I1,r1,q1⟩=>?_) (by rw [hs,hs2]) (by rw [hs2];rfl)))
 obtain ⟨l1,l2,e,⟨xs,hq1⟩,⟨ys,hq2⟩,q⟩:=q1
 subst e
 cases r1 with
 | cons r rr=>
  cases rr with
  | cons r' rr=>
   cases rr
   cases r
   cases r'
   obtain ⟨its1,rv1,p1,hz1⟩:=I1.tuple hq1
   obtain ⟨its2,rv2,p2,hz2⟩:=I1.list hq2
   have t1:s1.heap.IsTuple l1 its1.toArray:=p1
   have t2:s1.heap.IsList l2 its2.toArray:=p2.isList
   have lt1:l1 < s1.heap.objs.size:=let ⟨_,z,_⟩:=t1;Heap.lt_size z
   have lt2:l2 < s1.heap.objs.size:=let ⟨_,z,_⟩:=t2;Heap.lt_size z
   refine callType_new F.called_zip (by decide) (F.typeCall_zip_2 _ _) (F.newCall_zip_2 _ _) (λobj=>F.args_object_init_3 obj _ _) F.entry_zip_new (zipN_new l1 l2 its1.toArray its2.toArray) ⟨t1,t2,λh' hZ hTI hTO hi1 hi2 hk=>⟨⟨_,hZ,rfl⟩,?_⟩⟩
   refine wpAny_pyIter_zip hZ ?_
   have I2:Inv X pins σ H1 { s1 with heap:=h' }:=I1.kept (t':=s1.toks) hk
   refine ⟨s1.heap.objs.size + 4,[s1.heap.objs.size + 4,s1.heap.objs.size + 2,s1.heap.objs.size + 3,s1.heap.objs.size,s1.heap.objs.size + 1],_,_,H1,rfl,I2,turn_zipN l1 l2 _ _ _ _ _ ?_ ?_ ?_,⟨hZ,hTI,⟨_,_,hTO⟩,hi1,hi2⟩,λb hb=>?_,q⟩
   ·have z:=zipApart_new lt1 lt2
    exact ⟨z.TIz,z.TOz,z.i1z,z.i2z,z.TITO,z.TIi1,z.TIi2,z.TOi1,z.TOi2,z.i12⟩
   ·intro x hx
    have z:=zipApart_new lt1 lt2
    simp only [zH,zK,or_false] at hx
    rcases hx with e | e | e | e <;> subst e
    ·exact z.l1z
    ·exact z.l1TO
    ·exact z.l1i1
    ·exact z.l1i2
   ·intro x hx
    have z:=zipApart_new lt1 lt2
    simp only [zH,zK,or_false] at hx
    rcases hx with e | e | e | e <;> subst e
    ·exact z.l2z
    ·exact z.l2TO
    ·exact z.l2i1
    ·exact z.l2i2
   ·have hb':s1.heap.objs.size<=b:=by
     simp only [zH,zK,or_false] at hb
     rcases hb with e | e | e | e | e <;> rw [e] <;> first | exact zD _ | exact Nat.le_add_right _ _
    exact I1.fpOk hb' (I1.hok.fresh hb')
section
variable {K:PySem.W.Frag}{a b:Addr}{xs ys:List V}{n:Nat}{caps:List Nat}{g:TG}{tc:TT}{te:TE}{σ:St}{H:Hp}{Qf:Addr->Hp->List V->Prop}
theorem comp_zipN (el:xs.length=ys.length) (Pv:Nat->St->List V->Hp->Prop) (h0:Pv 0 (tau0 n caps σ) [] H) (hn:xs.length<=1000) (hl:∀ i τ acc H,Pv i τ acc H->acc.length<=i/\SqT K H a xs/\SqL K H b ys)
  (hs:∀ i x y q τ acc H (C:St->List V->Hp->Prop),xs[i]?=some x->ys[i]?=some y->H q=none->Pv i τ acc H->(∀ τ acc H,Pv (i + 1) τ acc H->C τ acc H)->g (.ref q) τ (upd H q (.tup [x,y])) fun τ2 H2=>tc τ2 H2 λb H3=>if b=true then te τ2 H3 λy H4=>C τ2 (acc++[y]) H4 else C τ2 acc H3)
  (hd:∀ τ acc H,Pv xs.length τ acc H->∀ p,H p=none->Qf p H acc) :
  ∃ W:Nat->Nat->St->List V->Hp->Prop,(∃ m,W 0 m (tau0 n caps σ) [] H)/\∀ i m τ acc H,W i m τ acc H ->
   ((IzN K a b).stop i H/\acc.length<=sizeLine/\∀ p,H p=none->Qf p H acc) \/
   ((IzN K a b).go i H/\acc.length < sizeLine/\∀ x H',(IzN K a b).yld i H x H'->g x τ H' fun τ2 H2=>tc τ2 H2 λb H3=>if b=true then te τ2 H3 λy H4=>∃ m',m' < m/\W (i + 1) m' τ2 (acc++[y]) H4 else ∃ m',m' < m/\W (i + 1) m' τ2 acc H3):=
 comp_of (J:=IzN K a b) Pv xs.length h0 hn (λi τ acc H p=>(hl i τ acc H p).1) (λi τ acc H hi p=>⟨xs,ys,xs[i],ys[i]'(by omega),(hl i τ acc H p).2.1,(hl i τ acc H p).2.2,el,by simp [hi],by simp [<-el,hi]⟩) (fun τ acc H p=>⟨xs,ys,(hl _ τ acc H p).2.1,(hl _ τ acc H p).2.2,el,rfl⟩)
  (λi τ acc H C hi p c x H' y=>by obtain ⟨q,x',y',hq,e1,e2,y⟩:=y;subst e1;subst e2;exact hs i x' y' q τ acc _ C (y xs ys (hl i τ acc _ p).2.1 (hl i τ acc _ p).2.2).1 (y xs ys (hl i τ acc _ p).2.1 (hl i τ acc _ p).2.2).2 hq p c) hd
end
end L2
namespace L2
open PySem PySem.Spec PyProof.Rows PySem.W SmSort
theorem minRun_le:∀ (fuel n r:Nat),r<=1->minRun' fuel n r<=n + r
 | 0,n,r,_=>zD _
 | fuel + 1,n,r,h=>by
  rw [minRun'_succ]
  split
  ·exact zD _
  ·have:=minRun_le fuel (n / 2) (max r (n % 2)) (by omega)
   omega
section
variable {prog:Program}{w:World}{A:Around}{E:Value->Shared->Prop}{s:Shared}{κ:SortKind}{it:Array Keyed}
theorem asc_rising {cmp:Nat->Nat->(Bool->Shared->Prop)->Shared->Prop}{G:Nat->Shared->Prop}{p:Array Nat}{n:Nat} (rise:∀ i C,1<=i->i < n->C false s->cmp (p.getD i 0) (p.getD (i - 1) 0) C s) (q:G n s):∀ f a,1<=a->a + f=n->(kas_asc p f a).kasWp cmp G s
 | 0,a,_,e=>by obtain rfl:a=n:=(by omega);exact q
 | f + 1,a,h,e=>rise a _ h (by omega) (by
   show (if false=true then KasT.ret a else kas_asc p f (a + 1)).kasWp cmp G s
   rw [if_neg (by simp)]
   exact asc_rising rise q f (a + 1) (by omega) (by omega))
theorem runs_rising {n:Nat}{Q:Unit->SortSt->Shared->Prop} (h2:2<=n) (rise:∀ i C,1<=i->i < n->C false s->kas_cmp prog w A κ it i (i - 1) C s)
  (q:∀ st',arrOf st'=arrOf (kas_st κ it (yW (List.range n)))->failedOf st'=none->Q () st' s):kasC (model prog w) A E sortRuns' Q (kas_st κ it (yW (List.range n))) s:=by
 obtain ⟨r,rfl⟩:∃ r,n=r + 2:=⟨n - 2,by omega⟩
 have hrs:(yW (List.range (r + 2))).size=r + 2:=by simp
 have getR:∀ i,i < r + 2->(yW (List.range (r + 2))).getD i 0=i:=λi hi=>by simp [Array.getD,hi]
 rw [sortRuns'_eq]
 refine kasC_bind (kasC_get ?_)
 have hsz:(arrOf (kas_st κ it (yW (List.range (r + 2))))).size=r + 2:=by
  show ((yW (List.range (r + 2))).map (kas_item it)).size=_
  rw [Array.size_map,hrs]
 have hmr:=minRun_le (r + 2) (r + 2) 0 (by omega)
 dsimp only
 simp only [hsz]
 generalize minRun' (r + 2) (r + 2) 0=mr at hmr
 refine kasC_bind (kasC_range (kasC_cons (l:=1::List.range' 2 r) ?_))
 dsimp only
 rw [if_neg (by omega)]
 simp only [Nat.sub_zero,yq]
 refine kasC_bind ?_
 rw [countRun0_eq]
 refine kasC_bind (kas_ascLoop (G:=λm s'=>m=r + 2/\s'=s) (zD 1) (by omega) (by omega) (λm s' _ _ hm=>?_) (asc_rising (n:=r + 2) (λi C h1 hi hC=>?_) ⟨rfl,rfl⟩ _ _ (zD 1) (by omega)))
 ·obtain ⟨rfl,rfl⟩:=hm
  dsimp only
  rw [if_pos (beq_self_eq_true _)]
  refine kasC_pure ?_
  dsimp only
  rw [if_neg (by omega)]
  refine kasC_bind (kasC_get ?_)
  rw [show (pendingOf (kas_st κ it (yW (List.range (r + 2))))).back?=none from rfl]
  dsimp only
  refine kasC_bind (kasC_modify (kasC_pure (kasC_cons ?_)))
  dsimp only
  rw [if_pos (zD _)]
  refine kasC_pure (kasC_bind (kasC_range (kasC_cons (l:=1::List.range' 2 r) (kasC_bind (kasC_get ?_)))))
  rw [if_pos (by exact zD 1)]
  exact kasC_pure (kasC_pure (q _ rfl rfl))
 ·rw [getR i hi,getR (i - 1) (by omega)]
  exact rise i C h1 hi hC
theorem sort_rising {a:Addr}{its:List Value}{k:Nat}{P:PySem.Fin->Shared->Prop} (hx:s.heap.get? a=some (seqObj "list" its.toArray k)) (h2:2<=its.length) (line:its.length<=sizeLine)
  (kk:∀ h',(∀ b o,b≠a->s.heap.get? b=some o->h'.get? b=some o)->wpAny (model prog w) A (keyKind' its.toArray) (fun κ s'=>s'={ s with heap:=h' }/\∀ i C,1<=i->i < its.length->C false s'->kas_cmp prog w A κ (its.toArray.zip its.toArray) i (i - 1) C s') (λ_ _=>False) { s with heap:=h' })
  (done:P (.done (.ret .none)) { s with heap:=sortedHeap s.heap a its its.toArray }):wpAny (model prog w) A (Builtin.«list.sort» ⟨[.ref a],[]⟩) P E s:=by
 rw [list_sort_plain]
 obtain ⟨e1,at1⟩:∃ e1,(s.heap.update a (Obj.mapSeq λ_=>(#[]:Array Value))).get? a=some (seqObj "list" #[] e1):=⟨_,get?_update_seq hx (λ_=>#[])⟩
 refine wpAny_bind (listItems_at hx rfl (wpAny_bind (listUpdate_at hx rfl (wpAny_bind (seqEpoch_at at1 rfl (wpAny_bind (wpAny_newTuple (wpAny_bind (wpAny_newList (wpAny_holding ?_) (zf _))) line))))
  (by rw [zF];exact line) (zf _))))
 have at2:(((s.heap.update a (Obj.mapSeq λ_=>(#[]:Array Value))).push (seqObj "tuple" its.toArray 0)).push (seqObj "list" #[] 0)).get? a=some (seqObj "list" #[] e1):=
  Heap.get?_push_of_some _ (Heap.get?_push_of_some _ at1)
 show wpAny (model prog w) A _ P E { s with heap:=((s.heap.update a (Obj.mapSeq λ_=>(#[]:Array Value))).push (seqObj "tuple" its.toArray 0)).push (seqObj "list" #[] 0) }
 have nless:¬ its.toArray.size < 2:=by rw [zF];omega
 have zsz:(its.toArray.zip its.toArray).size=its.length:=by simp
 have est:∀ κ,SortSt.mk' κ (its.toArray.zip its.toArray) #[] 7 none=kas_st κ (its.toArray.zip its.toArray) (yW (List.range its.length)):=fun κ=>by
  have e:=kas_range (its.toArray.zip its.toArray)
  rw [zsz] at e
  unfold kas_st;rw [e]
 have snds:(its.toArray.zip its.toArray).map (·.2)=its.toArray:=by
  apply Array.ext
  ·simp
  ·intro i h1 h2;simp
 dsimp only
 rw [if_neg nless,if_neg nless]
 refine wpAny_bind (wpAny_mono (kk _ λb o nb e=>?_) (fun κ s' hk=>?_) λ_ _ x=>x.elim)
 ·refine Heap.get?_push_of_some _ (Heap.get?_push_of_some _ ?_)
  rw [Heap.get?_update_ne _ _ _ _ nb];exact e
 obtain ⟨rfl,rise⟩:=hk
 rw [est κ]
 have run:=runs_rising (E:=E) (Q:=λ_ st' s'=>s'={ s with heap:=((s.heap.update a (Obj.mapSeq λ_=>(#[]:Array Value))).push (seqObj "tuple" its.toArray 0)).push (seqObj "list" #[] 0) }/\(arrOf st').map (·.2)=its.toArray/\failedOf st'=none) h2 rise (λst' e f=>⟨rfl,by rw [e,<- est κ];exact snds,f⟩)
 refine wpAny_bind (wpAny_mono run ?_ λ_ _ e=>e)
 rintro ⟨⟨⟩,st'⟩ s' ⟨rfl,hout,hf⟩
 dsimp only
 refine wpAny_bind (seqEpoch_at at2 rfl (wpAny_bind (listUpdate_at at2 rfl ?_ (zf _) (by rw [hout,zF];exact Nat.le_succ_of_le line))))
 rw [hf]
 simp only [bne_self_eq_false,zc,if_false]
 rw [hout]
 exact wpAny_pure done
theorem sorted_rising {l:Addr}{its:List Value}{Q:Value->Shared->Prop} (hl:s.heap.IsList l its.toArray) (h2:2<=its.length) (line:its.length<=sizeLine)
  (kk:∀ h',(∀ b o,s.heap.get? b=some o->h'.get? b=some o)->wpAny (model prog w) A.in1.in1 (keyKind' its.toArray) (fun κ s'=>s'={ s with heap:=h' }/\∀ i C,1<=i->i < its.length->C false s'->kas_cmp prog w A.in1.in1 κ (its.toArray.zip its.toArray) i (i - 1) C s') (λ_ _=>False) { s with heap:=h' })
  (done:Q (.ref (s.heap.objs.size + 1)) { s with heap:=sortedAll s.heap its its.toArray }):wpAny (model prog w) A (call (.builtin "sorted") [.ref l]) Q E s:=by
 refine Calls.call_function_entry kind_sorted plain_sorted entry_sorted (args_sorted1 _) ?_
 unfold Builtin.«sorted»
 refine wpAny_bind (m:=checkCount "sorted" 1 1 _) (wpAny_pure (wpAny_bind (collect_list hl (wpAny_bind (wpAny_newList ?_ line)) line)))
 have sz:((s.heap.push (seqObj "list" #[] 0)).update s.heap.objs.size (Obj.mapSeq (·++its.toArray))).objs.size=s.heap.objs.size + 1:=by rw [Heap.size_update,size_push']
 have atL:(((s.heap.push (seqObj "list" #[] 0)).update s.heap.objs.size (Obj.mapSeq (·++its.toArray))).push (seqObj "list" its.toArray 0)).get? (s.heap.objs.size + 1)=some (seqObj "list" its.toArray 0):=by
  rw [<-sz];exact Heap.get?_push_size _ rfl
 show wpAny _ _ _ _ _ { s with heap:=((s.heap.push (seqObj "list" #[] 0)).update s.heap.objs.size (Obj.mapSeq (·++its.toArray))).push (seqObj "list" its.toArray 0) }
 rw [sz]
 refine wpAny_bind (wpAny_holding (wpAny_call_entry slot_list_sort ⟨_,atL,rfl⟩ entry_list_sort (sort_rising atL h2 line (λh' keep=>kk h' λb o e=>?_) ⟨_,rfl,wpAny_pure ⟨_,rfl,done⟩⟩) (args_list_sort _)))
 have lb:b < s.heap.objs.size:=Heap.lt_size e
 refine keep b o (zW (yD lb)) (Heap.get?_push_of_some _ ?_)
 rw [Heap.get?_update_ne _ _ _ _ (zW lb)]
 exact Heap.get?_push_of_some _ e
end
section
variable {X:Cx}
end
end L2
namespace L2
open PySem PySem.Spec PyProof.Rows PySem.W SmSort
section
variable {X:Cx}
theorem call_sortV:CallR X (.builtin "sorted") (λxs H Q=>∃ p,∃ ns:List Int,xs=[.ref p]/\H p=some (.lst (ns.map V.int))/\ns.Pairwise (·<=·)/\∀ l,H l=none->Q (.ref l) (upd H l (.lst (ns.map V.int)))):=by
 intro pins s σ H xs us Q I r h
 obtain ⟨p,ns,rfl,hq,up,q⟩:=h
 obtain ⟨u,rfl,rx⟩:=vals1 r
 cases rx
 obtain ⟨its,r',pl,hz⟩:=I.list (SqL.of hq)
 have hI:=intsAre_of r'
 have hlen:its.length=ns.length:=by rw [<-r'.length,zA]
 rw [zA] at hz
 have sz:((s.heap.push (seqObj "list" #[] 0)).update s.heap.objs.size (Obj.mapSeq (·++its.toArray))).objs.size=s.heap.objs.size + 1:=by rw [Heap.size_update,size_push']
 have kp:∀ b o,s.heap.get? b=some o->(sortedAll s.heap its its.toArray).get? b=some o:=λb o e=>by
  have lb:b < s.heap.objs.size:=Heap.lt_size e
  have l1:=zW (yD lb)
  unfold sortedAll sortedHeap
  rw [Heap.get?_update_ne _ _ _ _ l1]
  refine Heap.get?_push_of_some _ (Heap.get?_push_of_some _ ?_)
  rw [Heap.get?_update_ne _ _ _ _ l1]
  refine Heap.get?_push_of_some _ ?_
  rw [Heap.get?_update_ne _ _ _ _ (zW lb)]
  exact Heap.get?_push_of_some _ e
 obtain ⟨c,ec⟩:∃ c,(sortedAll s.heap its its.toArray).get? (s.heap.objs.size + 1)=some (seqObj "list" its.toArray c):=by
  have e0:=Heap.get?_push_size ((s.heap.push (seqObj "list" #[] 0)).update s.heap.objs.size (Obj.mapSeq (·++its.toArray))) (o:=seqObj "list" its.toArray 0) rfl
  rw [sz] at e0
  unfold sortedAll sortedHeap
  have e1:=get?_update_seq e0 (λ_=>(#[]:Array Value))
  exact ⟨_,get?_update_seq (Heap.get?_push_of_some _ (Heap.get?_push_of_some _ e1)) _⟩
 have fin:EP X pins σ Q (.ref (s.heap.objs.size + 1)) { s with heap:=sortedAll s.heap its its.toArray }:=
  ⟨.ref (s.heap.objs.size + 1),_,I.laid (t':=s.toks) kp (yj _) (show ObjOk X.prog X.w _ _ _ (.lst (ns.map V.int)) from ⟨by rw [zA];exact hz,_,c,r',ec⟩),rfl,q _ (I.hok.fresh (yj _))⟩
 by_cases h2:its.length < 2
 ·exact sorted_short pl.isList h2 fin
 ·refine sorted_rising pl.isList (by omega) (by rw [hlen];exact hz) (λh' keep=>?_) fin
  rw [ksk_kind (keys:=its.toArray) hI (by rw [zF];omega)]
  refine wpAny_pure ⟨rfl,λi C h1 hi hC=>?_⟩
  have gi:∀ j,j < its.length->∃ t,its.getD j Value.none=.int (ns.getD j 0) t:=λj hj=>by
   obtain ⟨t,e⟩:=IntsAre.int_at hI j its[j] (zJ hj)
   exact ⟨t,by rw [<-e];simp [hj]⟩
  obtain ⟨t1,e1⟩:=gi i hi
  obtain ⟨t2,e2⟩:=gi (i - 1) (by omega)
  unfold kas_cmp
  rw [kat_item rfl,kat_item rfl,e1,e2]
  refine kat_lt_int ?_
  have hi':i < ns.length:=by omega
  have hj':i - 1 < ns.length:=by omega
  have:=zt.mp up (i - 1) i hj' hi' (by omega)
  have d1:ns.getD i 0=ns[i]:=by simp [hi']
  have d2:ns.getD (i - 1) 0=ns[i - 1]:=by simp [hj']
  rw [d1,d2,decide_eq_false (by omega)]
  exact hC
end
end L2
namespace Sm
open PySem L2 SmSort
end Sm
namespace Sm
open PySem L2 SmSort
theorem BookAt.eqv {K:PySem.W.Frag}{H:Hp}{b tr tm b' tr' tm':Addr}{rooms:List Int}{ps qs:List (Addr×M4)} (h:BookAt H b rooms tr tm ps) (h':BookAt H b' rooms tr' tm' qs) (e:ps.map (·.2)=qs.map (·.2)):Eqv K H 3 (.ref b) (.ref b') true:=by
 have le:ps.length=qs.length:=by have:=congrArg List.length e;rwa [zA,zA] at this
 refine .inr (.inr ⟨b,b',_,_,λ_=>true,rfl,rfl,.inr ⟨SqT.of h.book,SqT.of h'.book⟩,λ_=>rfl,by simp,λi x y hx hy=>?_⟩)
 match i with
 | 0=>
  cases hx;cases hy
  have:=Eqv.rows (K:=K) (n:=1) (f:=V.int) (λ_=>rfl) eqV_int (.inr ⟨h.rooms,h'.rooms⟩)
  rwa [decide_eq_true rfl] at this
 | 1=>
  cases hx;cases hy
  refine .inr (.inr ⟨tm,tm',_,_,λ_=>true,rfl,rfl,.inr ⟨SqT.of h.meets,SqT.of h'.meets⟩,λ_=>rfl,by simp [le],λj x y hx hy=>?_⟩)
  obtain ⟨r,hr,rfl⟩:=xW hx
  obtain ⟨r',hr',rfl⟩:=xW hy
  have er:r.2=r'.2:=by
   have:=congrArg (·[j]?) e
   simp only [zX,hr,hr',Option.map_some,Option.some.injEq] at this
   exact this
  have h1:H r.1=some (.tup (r.2.ints.map V.int)):=h.rows _ (zB hr)
  have h2:H r'.1=some (.tup (r.2.ints.map V.int)):=by rw [er];exact h'.rows _ (zB hr')
  have:=Eqv.rows (K:=K) (n:=0) (f:=V.int) (λ_=>rfl) eqV_int (.inr ⟨h1,h2⟩)
  rwa [decide_eq_true rfl] at this
 | i + 2=>cases hx
end Sm
namespace Sm
open PySem L2 SmSort
def straight (L:L4) (M:M4):Prop:=L.a < M.t/\L.s≠L.w/\(M.lo=(L.s:Int)\/M.hi=(L.s:Int))/\(M.lo=(L.w:Int)\/M.hi=(L.w:Int))
instance (L:L4) (M:M4):Decidable (straight L M):=by unfold straight;infer_instance
section
variable {rooms:List Int}{ms:List M4}{ls:List (Addr×L4)}{d:RuleD}{m j:Nat}{s:RS}{M:M4}{L:Addr×L4}{o:Option (Nat×Int)}
end
end Sm
namespace Sm
open PySem L2 SmSort
theorem eqV_refl {x:V} (h:flatV x=true):eqV x x=true:=by
 cases x with
 | non=>rfl
 | bl b=>show (b == b)=true;simp
 | int i=>show (i == i)=true;simp
 | str z=>show (z == z)=true;simp
 | _=>cases h
theorem eqv_flatS {K:PySem.W.Frag}{H:Hp}{n:Nat}{a c:Addr}{xs:List V} (hf:∀ x∈xs,flatV x=true) (h:(SqL K H a xs/\SqL K H c xs)\/(SqT K H a xs/\SqT K H c xs)):Eqv K H (n + 1) (.ref a) (.ref c) true:=by
 refine .inr (.inr ⟨a,c,xs,xs,λ_=>true,rfl,rfl,h,λ_=>rfl,by simp,λi x y hx hy=>?_⟩)
 rw [hx] at hy;cases hy
 have f:=hf x (zB hx)
 cases n with
 | zero=>exact .inr ⟨f,f,(eqV_refl f).symm⟩
 | succ n=>exact .inr (.inl ⟨f,f,(eqV_refl f).symm⟩)
theorem eqv_refs {K:PySem.W.Frag}{H:Hp}{n:Nat}{a c:Addr}{as cs:List Addr} (le:as.length=cs.length) (h:∀ (i:Nat) x y,as[i]?=some x->cs[i]?=some y->Eqv K H n (.ref x) (.ref y) true) (hl:H a=some (.lst (as.map V.ref))) (hc:H c=some (.lst (cs.map V.ref))):Eqv K H (n + 1) (.ref a) (.ref c) true:=by
 refine .inr (.inr ⟨a,c,_,_,λ_=>true,rfl,rfl,.inl ⟨SqL.of hl,SqL.of hc⟩,λ_=>rfl,by simp [le],λi x y hx hy=>?_⟩)
 obtain ⟨u,hu,rfl⟩:=xW hx
 obtain ⟨v,hv,rfl⟩:=xW hy
 exact h i u v hu hv
section
variable {ms:List M4}{L:L4}{M:M4}{m:Nat}
end
section
variable {rooms:List Int}{ms:List M4}{ls:List (Addr×L4)}{d:RuleD}{m:Nat}{M:M4}{s:RS}
end
end Sm
namespace Sm
open PySem L2 SmSort
theorem le_0 (c:Nat):(!decide ((⟨#[c]⟩:Str).cps.toList < (Str.ofString "0").cps.toList))=decide (48<=c):=by
 have e:(Str.ofString "0").cps.toList=[48]:=by decide +kernel
 rw [e]
 show (!decide ([c] < [48]))=_
 rw [<-decide_not,decide_eq_decide,List.cons_lt_cons_iff]
 simp
theorem le_9 (c:Nat):(!decide ((Str.ofString "9").cps.toList < (⟨#[c]⟩:Str).cps.toList))=decide (c<=57):=by
 have e:(Str.ofString "9").cps.toList=[57]:=by decide +kernel
 rw [e]
 show (!decide ([57] < [c]))=_
 rw [<-decide_not,decide_eq_decide,List.cons_lt_cons_iff]
 simp
theorem is_zero (c:Nat):(⟨#[c]⟩:Str)=Str.ofString "0" ↔ c=48:=by
 have e:Str.ofString "0" = ⟨#[48]⟩:=by decide +kernel
 rw [e]
 simp
theorem at_zero {x:V}{xs:List V}:atI (x::xs) 0=some x:=by rw [show (0:Int)=((0:Nat):Int) from rfl];exact wB rfl
theorem Same.seqT {K:PySem.W.Frag}{H H':Hp}{a:Addr}{xs:List V} (e:Same H H') (h:SqT K H a xs):SqT K H' a xs:=by
 rcases h with (h | h) | h
 ·exact .inl (.inl (e _ _ h))
 ·exact .inl (.inr (by obtain ⟨o,h⟩:=h;exact ⟨o,e _ _ h⟩))
 ·exact .inr h
theorem nameN:Str.ofString "number" ≠ Str.ofString "name" := by decide +kernel
theorem sorts_ne:sW≠sM/\sW≠sL/\sM≠sL:=by decide +kernel
theorem all_rep (n:Nat):((List.replicate n true).all id)=true:=by simp
theorem told_eq {K:PySem.W.Frag}{H:Hp} {p q nl b ll tr tm nl2 b2 ll2 tr2 tm2:Addr}{ns:List Str}{rooms:List Int} {ps ps2:List (Addr×M4)} {ys ys2:List (Addr×L4)}{Q:VK}{neg:Bool} (h:ToldAt H p nl b ll ns rooms tr tm ps ys) (h2:ToldAt H q nl2 b2 ll2 ns rooms tr2 tm2 ps2 ys2)
  (e1:ps.map (·.2)=ps2.map (·.2)) (e2:ys.map (·.2)=ys2.map (·.2)) (qq:Q (.bl (if neg=true then !true else true)) H):rEqv K neg (.ref p) (.ref q) H Q:=by
 refine ⟨3,p,q,_,_,λ_=>true,true,by decide,rfl,rfl,.inr ⟨SqT.of h.tup,SqT.of h2.tup⟩,by simp,λi x y hx hy=>?_,qq⟩
 match i,hx,hy with
 | 0,hx,hy=>
  cases hx;cases hy
  exact eqv_flatS (λx hx=>by obtain ⟨s,_,rfl⟩:=zO.mp hx;rfl) (.inl ⟨SqL.of h.names,SqL.of h2.names⟩)
 | 1,hx,hy=>cases hx;cases hy;exact h.book.eqv h2.book e1
 | 2,hx,hy=>
  cases hx;cases hy
  have le:ys.length=ys2.length:=by have:=congrArg List.length e2;rwa [zA,zA] at this
  refine eqv_refs (n:=2) (as:=ys.map (·.1)) (cs:=ys2.map (·.1)) (by rw [zA,zA];exact le) (λi a b ha hb=>?_) (by rw [h.lets.1,zp];rfl) (by rw [h2.lets.1,zp];rfl)
  rw [zX] at ha hb
  cases e:ys[i]? with
  | none=>rw [e] at ha;cases ha
  | some u=>
   cases e':ys2[i]? with
   | none=>rw [e'] at hb;cases hb
   | some v=>
    rw [e] at ha;rw [e'] at hb
    cases ha;cases hb
    have ev:u.2=v.2:=by
     have a1:(ys.map (·.2))[i]?=some u.2:=by rw [zX,e];rfl
     have a2:(ys2.map (·.2))[i]?=some v.2:=by rw [zX,e'];rfl
     rw [e2,a2] at a1
     exact (Option.some.inj a1).symm
    have r1:=h.lets.2 u (zB e)
    have r2:=h2.lets.2 v (zB e')
    rw [<-ev] at r2
    exact eqv_flatS (λx hx=>by unfold letRow at hx;simp only [zH,zK,or_false] at hx;rcases hx with rfl | rfl | rfl | rfl <;> rfl) (.inr ⟨SqT.of r1,SqT.of r2⟩)
 | i + 3,hx,hy=>cases hx
theorem eqV_str (x y:Str):eqV (.str x) (.str y)=decide (x=y):=by
 show (x == y)=_
 by_cases e:x=y
 ·subst e;simp
 ·rw [decide_eq_false e];simp [e]
theorem in_strs {x:Str}{ns:List Str} (h:x∈ns):inV (.str x) (ns.map V.str)=true:=List.any_eq_true.mpr ⟨_,zO.mpr ⟨x,h,rfl⟩,by rw [eqV_str,decide_eq_true rfl]⟩
theorem ix_name {K:PySem.W.Frag}{H:Hp}{l:Addr}{ns:List Str}{k:Int}{Q:VK} (hl:H l=some (.lst (ns.map V.str))) (nd:ns.Nodup) (k0:0<=k) (k1:k < ns.length) (few:ns.length<=12) (q:Q (.int k) H):rIndex K (.ref l) [.str (nm ns k)] H Q:=by
 obtain ⟨e,hm⟩:=nm_at (ns:=ns) k0 k1
 obtain ⟨j,rfl⟩:=zU k0
 have hj:ns[j]?=some (nm ns (j:Int)):=by unfold nm;rw [yC,zJ (by omega)];rfl
 refine ⟨0,l,_,_,λu=>eqV u (.str (nm ns (j:Int))),j,_,by decide,rfl,rfl,SqL.of hl,λu hu=>?_,by rw [zX,hj];rfl,(eqV_str _ _).trans (decide_eq_true rfl),λm hm w hw=>?_,by omega,q⟩
 ·obtain ⟨s,_,rfl⟩:=zO.mp hu
  exact .inr ⟨rfl,rfl,rfl⟩
 ·obtain ⟨s,hs,rfl⟩:=xW hw
  refine (eqV_str _ _).trans (decide_eq_false λe=>?_)
  subst e
  have:=nm_nodup nd k0 k1 hs
  omega
theorem take_fm {α β:Type}{f:α->Option β}{l:List α}{i:Nat}{a:α} (h:l[i]?=some a):(l.take (i + 1)).filterMap f=(l.take i).filterMap f++(f a).toList:=by
 rw [yr,h,Option.toList_some,List.filterMap_append]
 cases e:f a <;> simp [e]
theorem RowsOk.short {ns:List Str}{rooms:List Int}{ms:List M4}{ls:List L4} (ro:RowsOk ns rooms ms ls):(allD ns rooms ms ls).length<=112:=by
 unfold allD
 simp only [zA,zI,yh]
 have:=ro.raw.few;have:=ro.few;have:=ro.lets;omega
theorem read_at {ns:List Str}{ds:List Row7}{xs:List (Addr×Addr×Row7)} (ex:xs.map (·.2.2)=ds) {i:Nat}{x:Addr×Addr×Row7} (h:xs[i]?=some x):ds[i]?=some x.2.2:=by
 rw [<-ex,zX,h];rfl
theorem fm_no {α β:Type}{f:α->Option β}{l:List α}{i:Nat}{a:α} (h:l[i]?=some a) (e:f a=none):(l.take (i + 1)).filterMap f=(l.take i).filterMap f:=by
 rw [take_fm h,e];exact zi _
theorem fm_yes {α β:Type}{f:α->Option β}{l:List α}{i:Nat}{a:α}{b:β} (h:l[i]?=some a) (e:f a=some b):(l.take (i + 1)).filterMap f=(l.take i).filterMap f++[b]:=by
 rw [take_fm h,e];rfl
theorem let_ok {m:L4}{w:Nat} (h:m.s < w/\m.w < w/\0<=m.a/\m.a<=1000000000/\0<=m.z/\m.z<=1000000000):isLet w (some (letRow m))=true:=by
 obtain ⟨h1,h2,h3,h4,h5,h6⟩:=h
 have e:∀ {lo hi x:Int},lo<=x->x<=hi->inB lo hi (.int x)=true:=λ{lo hi x} a b=>by simp [inB,a,b]
 show (inB 0 ((w:Int) - 1) (.int (m.s:Int)) && (inB 0 1000000000 (.int m.a) && (inB 0 ((w:Int) - 1) (.int (m.w:Int)) && inB 0 1000000000 (.int m.z))))=true
 rw [e (by omega) (by omega),e h3 h4,e (by omega) (by omega),e h5 h6];rfl
theorem RowsOk.ok {ns:List Str}{rooms:List Int}{ms:List M4}{ls:List L4} (ro:RowsOk ns rooms ms ls):∀ d∈allD ns rooms ms ls,d.Ok ns:=by
 have nw:∀ {k:Int},0<=k->k < rooms.length->Word (nm ns k):=λ{k} h0 h1=>ro.word _ (nm_at h0 (by have:=ro.len;omega)).2
 intro d hd
 unfold allD at hd
 rcases zZ.mp hd with h | h
 ·rcases zZ.mp h with h | h
  ·obtain ⟨p,hp,rfl⟩:=zO.mp h
   obtain ⟨a1,a2⟩:=yy (show (p.1,p.2)∈ns.zip rooms from hp)
   have:=ro.room _ a2
   exact ⟨ro.word _ a1,by omega,by omega⟩
  ·obtain ⟨m,hm,rfl⟩:=zO.mp h
   have e:=ro.raw.each m hm
   exact ⟨nw (by omega) (by omega),nw (by omega) (by omega),by omega,by omega,by omega,by omega⟩
 ·obtain ⟨l,hl,rfl⟩:=zO.mp h
  have e:=ro.each l hl
  exact ⟨nw (by omega) (by omega),nw (by omega) (by omega),by omega,by omega,by omega,by omega⟩
theorem ix_sort {K:PySem.W.Frag}{H:Hp}{c:Addr}{d:Row7}{Q:VK} (h:tupsB K c [sW,sM,sL]=true) (q:Q (.int (d.place:Int)) H):rIndexT K (.ref c) [.str d.sort] H Q:=by
 refine ⟨0,c,_,_,λu=>eqV u (.str d.sort),d.place,.str d.sort,by decide,rfl,rfl,(tups_sq h).1,λu hu=>?_,by cases d <;> rfl,(eqV_str _ _).trans (decide_eq_true rfl),λm hm w hw=>?_,q⟩
 ·obtain ⟨s,_,rfl⟩:=zO.mp hu
  exact .inr ⟨rfl,rfl,rfl⟩
 ·cases d with
  | W x n=>exact absurd hm (yI _)
  | M x=>
   obtain rfl:m=0:=Nat.lt_one_iff.mp hm
   cases hw
   exact (eqV_str _ _).trans (decide_eq_false sorts_ne.1)
  | L x=>
   match m,hm,hw with
   | 0,_,hw=>cases hw;exact (eqV_str _ _).trans (decide_eq_false sorts_ne.2.1)
   | 1,_,hw=>cases hw;exact (eqV_str _ _).trans (decide_eq_false sorts_ne.2.2)
theorem ne_intsV {K:PySem.W.Frag}{H:Hp}{l d:Addr}{ns:List Int}{Q:VK}{neg:Bool} (hl:H l=some (.lst (ns.map V.int))) (hd:H d=some (.lst (ns.map V.int))) (q:Q (.bl (if neg=true then !true else true)) H):rEqv K neg (.ref l) (.ref d) H Q:=by
 refine ⟨0,l,d,_,_,λ_=>true,true,by decide,rfl,rfl,.inl ⟨SqL.of hl,SqL.of hd⟩,by simp,λi x y hx hy=>?_,q⟩
 rw [hx] at hy;cases hy
 obtain ⟨r,hr,rfl⟩:=xW hx
 exact .inr ⟨rfl,rfl,by rw [eqV_int,decide_eq_true rfl]⟩
theorem MT.read {T:Addr}{lp:Pos}{q:Str}{H H':Hp}{l:Addr}{ns:List Str}{xs:List (Addr×Addr×Row7)} (m:L2.MT T lp q H) (b:But T H H') (h:ReadL H l ns xs):ReadL H' l ns xs:=
 ⟨MT.keep m b h.1 (by intro ys z;cases z),λx hx=>⟨MT.keep m b (h.2 x hx).tup (by intro ys z;cases z),MT.keep m b (h.2 x hx).parts (by intro ys z;cases z)⟩⟩
def ones (us:List Nat):List Str:=us.map λc=>⟨#[c]⟩
theorem ones_len (us:List Nat):(ones us).length=us.length:=zA _
theorem join_ones (us:List Nat):(Txt.join (Str.ofString "") (ones us)).cps.toList=us:=by
 have e:(Str.ofString "").cps=#[]:=by decide +kernel
 cases us with
 | nil=>rfl
 | cons u us=>
  have key:∀ (vs:List Nat) (acc:Array Nat),((ones vs).foldl (λacc p=>acc++(Str.ofString "").cps++p.cps) acc).toList=acc.toList++vs:=by
   intro vs
   induction vs with
   | nil=>intro acc;exact (zi _).symm
   | cons v vs ih=>
    intro acc
    show ((ones vs).foldl _ (acc++(Str.ofString "").cps++#[v])).toList=_
    rw [ih,e];simp
  exact key us #[u]
theorem a26_low:∀ c∈A26.cps.toList,low c=true:=by decide +kernel
theorem a26_nodup:A26.cps.toList.Nodup:=by decide +kernel
structure NmI (pn:Nat) (b st:Int) (i:Nat) (s:Str):Prop where
 word:Word s
 sign:s.cps.toList[pn]?=atI A26.cps.toList ((b + (i:Int) * st) % 26)
theorem nmI_nodup {pn:Nat}{b st:Int}{ss:List Str} (h:∀ (j:Nat) s,ss[j]?=some s->NmI pn b st j s) (few:ss.length<=12) (hst:st=1\/st=3\/st=5\/st=7\/st=9\/st=11):ss.Nodup:=by
 refine zt.mpr λi j hi hj lt e=>?_
 have h1:=(h i _ (zJ hi)).sign
 have h2:=(h j _ (zJ hj)).sign
 rw [e,h2] at h1
 have r:∀ x:Int,0<=x % 26/\x % 26 < 26:=λx=>⟨yN _ (by decide),yB _ (by decide)⟩
 obtain ⟨x1,x2⟩:=r (b + (i:Int) * st)
 obtain ⟨y1,y2⟩:=r (b + (j:Int) * st)
 have l26:A26.cps.toList.length=26:=by rw [Array.length_toList];exact a26_len
 obtain ⟨u,hu⟩:=zU x1
 obtain ⟨v,hv⟩:=zU y1
 rw [hu,hv] at h1
 have a1:atI A26.cps.toList (u:Int)=some (A26.cps.toList[u]'(by omega)):=wB (zJ _)
 have a2:atI A26.cps.toList (v:Int)=some (A26.cps.toList[v]'(by omega)):=wB (zJ _)
 rw [a1,a2] at h1
 have uv:v=u:=by
  have hv':v < A26.cps.toList.length:=by omega
  have hu':u < A26.cps.toList.length:=by omega
  have e2:A26.cps.toList[v]?=A26.cps.toList[u]?:=by rw [zJ hv',zJ hu'];exact h1
  exact (List.getElem?_inj hv' a26_nodup).mp e2
 rcases hst with rfl | rfl | rfl | rfl | rfl | rfl <;> omega
theorem ab_parts:(Txt.slice (Str.ofString "ab") none (some 0)).cps.toList=[]/\(Txt.slice (Str.ofString "ab") none (some 1)).cps.toList=[97]/\(Txt.slice (Str.ofString "ab") none (some 2)).cps.toList=[97,98]:=by decide +kernel
theorem name_ok {us:List Nat}{m pn:Nat}{k:Int}{y:Option Nat} (lu:us.length=m) (m1:1<=m) (m8:m<=8) (lo:∀ c∈us,low c=true) (hp:pn < m) (hy:us[pn]?=y) (k0:0<=k) (k2:k<=2) (k7:7<=m->k=0) :
  Word (Txt.join (Str.ofString "") (ones us)++Txt.slice (Str.ofString "ab") none (some k))/\(Txt.join (Str.ofString "") (ones us)++Txt.slice (Str.ofString "ab") none (some k)).cps.toList[pn]?=y:=by
 obtain ⟨e,he,hl,hk⟩:∃ e,(Txt.slice (Str.ofString "ab") none (some k)).cps.toList=e/\(∀ c∈e,low c=true)/\e.length=k.toNat:=by
  rcases (by omega:k=0\/k=1\/k=2) with rfl | rfl | rfl
  ·exact ⟨_,ab_parts.1,by decide,rfl⟩
  ·exact ⟨_,ab_parts.2.1,by decide,rfl⟩
  ·exact ⟨_,ab_parts.2.2,by decide,rfl⟩
 have ec:(Txt.join (Str.ofString "") (ones us)++Txt.slice (Str.ofString "ab") none (some k)).cps.toList=us++e:=by rw [cat_list,join_ones,he]
 have len:(Txt.join (Str.ofString "") (ones us)++Txt.slice (Str.ofString "ab") none (some k)).length=m + k.toNat:=by
  show Array.size _=_
  rw [<-Array.length_toList,ec,zI,lu,hk]
 refine ⟨⟨by omega,by omega,?_⟩,?_⟩
 ·rw [ec]
  refine yc.mpr λc hc=>?_
  rcases zZ.mp hc with h | h
  ·exact lo c h
  ·exact hl c h
 ·rw [ec,yK (by omega)];exact hy
theorem words_atW {d:Int} (h0:0<=d) (h1:d < 6):∃ w,atI (sixW.map V.str) d=some (V.str w)/\Word w:=by
 have wd:∀ w∈sixW,1<=w.length/\w.length<=8/\w.cps.toList.all low=true:=by decide +kernel
 obtain ⟨k,rfl⟩:=zU h0
 have hk:k < sixW.length:=by show k < 6;omega
 exact ⟨sixW[k],wB (by rw [zX,zJ hk];rfl),wd _ (zn hk)⟩
theorem not_strs {x:Str}{ns:List Str} (h:(if true=true then !inV (.str x) (ns.map V.str) else inV (.str x) (ns.map V.str))=true):x ∉ ns:=λz=>by
 rw [if_pos rfl,in_strs z] at h;cases h
theorem nodup_set {ns:List Str}{x:Str}{i:Nat} (nd:ns.Nodup) (h:x ∉ ns):(ns.set i x).Nodup:=by
 refine zt.mpr λa b ha hb lt e=>?_
 rw [List.length_set] at ha hb
 rw [List.getElem_set,List.getElem_set] at e
 split at e
 ·split at e
  ·omega
  ·exact h (by rw [e];exact zn _)
 ·split at e
  ·exact h (by rw [<-e];exact zn _)
  ·exact zt.mp nd a b ha hb lt e
structure Own7 (H:Hp) (nl b ll:Addr) (ns:List Str) (rooms:List Int) (tr tm:Addr) (ps:List (Addr×M4)) (ls:List (Addr×L4)):Prop where
 names:H nl=some (.lst (ns.map V.str))
 book:BookAt H b rooms tr tm ps
 lets:LetsL H ll ls
section
variable {H H':Hp}{nl b ll tr tm:Addr}{ns:List Str}{rooms:List Int}{ps:List (Addr×M4)}{ls:List (Addr×L4)}
theorem Own7.same (h:Own7 H nl b ll ns rooms tr tm ps ls) (s:Same H H'):Own7 H' nl b ll ns rooms tr tm ps ls:=⟨s _ _ h.names,h.book.same s,h.lets.same s⟩
theorem Own7.keep {T:Addr}{lp:Pos}{q:Str} (h:Own7 H nl b ll ns rooms tr tm ps ls) (m:L2.MT T lp q H) (bt:But T H H'):Own7 H' nl b ll ns rooms tr tm ps ls:=
 ⟨MT.keep m bt h.names (by intro ys z;cases z),h.book.tups (MT.tups' m bt),MT.keep m bt h.lets.1 (by intro ys z;cases z),λl hl=>MT.tups' m bt _ _ (h.lets.2 l hl)⟩
theorem Own7.put {a:Addr}{xs:List V}{o:HO} (h:Own7 H nl b ll ns rooms tr tm ps ls) (e:H a=some (.lst xs)) (n1:nl≠a) (n2:ll≠a):Own7 (upd H a o) nl b ll ns rooms tr tm ps ls:=
 have t:=Tups.set (o:=o) e
 ⟨by rw [xH n1];exact h.names,h.book.tups t,by rw [xH n2];exact h.lets.1,λl hl=>t _ _ (h.lets.2 l hl)⟩
theorem ToldAt.own {p:Addr} (h:ToldAt H p nl b ll ns rooms tr tm ps ls):Own7 H nl b ll ns rooms tr tm ps ls:=⟨h.names,h.book,h.lets⟩
theorem ToldAt.put {p a:Addr}{xs:List V}{o:HO} (h:ToldAt H p nl b ll ns rooms tr tm ps ls) (e:H a=some (.lst xs)) (n1:nl≠a) (n2:ll≠a):ToldAt (upd H a o) p nl b ll ns rooms tr tm ps ls:=
 have w:=h.own.put (o:=o) e n1 n2
 ⟨Tups.set (o:=o) e _ _ h.tup,w.names,w.book,w.lets⟩
theorem RowsOk.mk' {ms:List M4} (ln:ns.length=rooms.length) (one:1<=rooms.length) (few:rooms.length<=12) (wd:∀ x∈ns,Word x) (nd:ns.Nodup) (rr:∀ r∈rooms,(0:Int)<=r/\r<=99) (raw:Raw rooms.length ms) (l40:ls.length<=40)
  (lb:∀ l∈ls,l.2.s < rooms.length/\l.2.w < rooms.length/\0<=l.2.a/\l.2.a<=1000000000/\0<=l.2.z/\l.2.z<=1000000000):RowsOk ns rooms ms (ls.map (·.2)):=
 ⟨ln,one,few,wd,nd,rr,raw,by rw [zA];exact l40,λl hl=>by obtain ⟨x,hx,rfl⟩:=zO.mp hl;exact lb x hx⟩
end
theorem allRows_cut {ns:List Str}{rooms:List Int} {ms ms2:List M4}{ls:List L4} (h:ns.length=rooms.length) :
  cutV ((allRows ns rooms ms ls).map V.str) none (some ((ns.length:Nat):Int))++(ms2.map λm=>V.str (rowM ns m))++cutV ((allRows ns rooms ms ls).map V.str) (some ((ns.length + ms.length:Nat):Int)) none=(allRows ns rooms ms2 ls).map V.str:=by
 have l1:((ns.zip rooms).map rowW).length=ns.length:=by rw [zA,yh];omega
 rw [cut_take,cut_drop]
 unfold allRows
 simp only [zC,ym]
 rw [List.take_append_of_le_length (by rw [zA,l1];exact zD _),za (by rw [zA,l1];exact zD _)]
 have e:(((ns.zip rooms).map rowW).map V.str).length=ns.length:=by rw [zA,l1]
 have e2:((ms.map (rowM ns)).map V.str).length=ms.length:=by rw [zA,zA]
 rw [<-ym ((List.map V.str (List.map rowW (ns.zip rooms)))) (List.map V.str (List.map (rowM ns) ms)),List.drop_left' (by rw [zI,e,e2]),zp (g:=V.str) (f:=rowM ns) (l:=ms2)]
 rfl
end Sm
namespace L2
open PySem PySem.Spec PyProof.Rows
structure Df (K:PySem.W.Frag) (mg:Str->Option Value) (x q:Str) (st:Stmt) (f:Addr) (fd:FuncData) (ps:List Str):Prop where
 F:Fun K x q st f fd
 i:Binds K fd ps []
 m:mg x=some (.ref f)
 k:PySem.W.keepIn K (.ref f)=true
theorem Df.of {K:PySem.W.Frag}{h:Heap}{mg:Str->Option Value}{x q:Str}{st:Stmt}{f:Addr}{fd:FuncData}{ps:List Str} (X:K.In h) (G:h.Ns mainGlobals mg) (e:zG K mainGlobals x=some (some (.ref f))) (F:Fun K x q st f fd)
  (b:∀ (kV doc pm:Value) (an:Option Addr) (cdv ct:Value) (us:List Value),us.length=ps.length->bindArgs (yu x q (defArgs st) (defBody st) (defScope st) .none kV doc pm an cdv ct) ⟨us,[]⟩=pure (ps.zip us):=by
   (intro _ _ _ _ _ _ us hl
    first
     | exact Sm.us1 hl λ_=>rfl
     | exact Sm.us2 hl λ_ _=>rfl
     | exact Sm.us3 hl λ_ _ _=>rfl
     | exact Sm.us4 hl λ_ _ _ _=>rfl
     | exact Sm.us5 hl λ_ _ _ _ _=>rfl
     | exact Sm.us6 hl λ_ _ _ _ _ _=>rfl
     | exact Sm.us0 hl rfl)):Df K mg x q st f fd ps:=⟨F,F.binds b,yJ X G e,F.kp⟩
abbrev OkD {K:PySem.W.Frag}{mg:Str->Option Value}{x q:Str}{st:Stmt}{f:Addr}{fd:FuncData}{ps:List Str} (_:Df K mg x q st f fd ps) (P:Program) (w:World) (base:Heap) (k:Nat) (sp:Sp):Prop:=FnOk P w K mg base CX0 k f fd ps sp
theorem pcl {X:Cx}{n k:Nat}{x q:Str}{st:Stmt}{f:Addr}{fd:FuncData}{ps:List Str}{sp:Sp}{p pos:Pos}{e:Expr}{es:List Expr}{t:TA} (F:FnOk X.prog X.w X.K X.mg X.base CX0 k f fd ps sp) (hr:Room n X.A) (D:Df X.K X.mg x q st f fd ps)
  (ha:PA X (e::es) t) (h:k<=n:=by decide) (hg:Gl X x:=by rfl) (hdb:(x == ("__debug__" : Str))=false:=by decide) (he:starEach (e::es) X.env=(false,eval e X.env)::starEach es X.env:=by rfl) (hpl:(backTo pos (starEach es X.env)).any (·.1)=false:=by rfl) :
  PE X (.Call (.Name x p) (e::es) [] pos) (tCall sp [] E0 t):=pe_call F (hr.mono h) hg D.m D.k D.i .nil pass0 ha hdb he hpl
end L2
namespace Sm
open PySem L2
theorem line9:1002<=sizeLine:=by rw [sizeLine_eq];decide
end Sm


namespace Sm
open PySem L2
def top (i:Nat):Stmt:=PySem.Challenge.pw_satchelmeet_k87_rows_read.main.body.getD i (.Pass ⟨0,0,0,0⟩)
abbrev AJ:Stmt:=top 31
abbrev Dh:Stmt:=top 28
abbrev BB:Stmt:=top 29
abbrev B0:Stmt:=top 30
abbrev Dr:Stmt:=top 33
abbrev Ds:Stmt:=top 6
abbrev Cw:Stmt:=top 7
abbrev BD:Stmt:=top 15
abbrev B1:Stmt:=top 16
abbrev wA:Stmt:=top 17
abbrev Bi:Stmt:=top 18
abbrev BC:Stmt:=top 14
abbrev Cv:Stmt:=top 36
abbrev BA:Stmt:=top 34
abbrev D3:Stmt:=top 8
abbrev Cy:Stmt:=top 19
abbrev Cz:Stmt:=top 21
abbrev wQ:Stmt:=top 35
abbrev wL:Stmt:=top 32
abbrev B4:Stmt:=top 38
abbrev CB:Stmt:=top 39
abbrev B3:Stmt:=top 40
abbrev CC:Stmt:=top 41
abbrev wJ:Stmt:=top 42
abbrev CF:Stmt:=top 43
abbrev Dt:Stmt:=top 44
abbrev CA:Stmt:=top 45
abbrev BS:Stmt:=top 46
abbrev wR:Stmt:=top 48
abbrev CD:Stmt:=top 49
abbrev B2:Stmt:=top 47
abbrev AK:Stmt:=top 50
abbrev Bj:Stmt:=top 51
abbrev A4:Stmt:=top 52
abbrev Fk:Stmt:=top 53
def lamPos:Pos:=⟨32,49,32,77⟩
set_option genInjectivity false
set_option genSizeOf false
structure Ad where
 Bq:Addr
 Cf:FuncData
 BZ:Addr
 Dk:FuncData
 AR:Addr
 BH:FuncData
 Bt:Addr
 Ci:FuncData
 Br:Addr
 Cg:FuncData
 Bu:Addr
 Cj:FuncData
 AU:Addr
 BJ:FuncData
 AX:Addr
 BM:FuncData
 AD:Addr
 Bc:FuncData
 Ac:Addr
 Af:FuncData
 Aq:Addr
 AB:FuncData
 AT:Addr
 Ay:FuncData
 AS:Addr
 BI:FuncData
 AQ:Addr
 BG:FuncData
 BY:Addr
 Dj:FuncData
 AV:Addr
 BK:FuncData
 AW:Addr
 BL:FuncData
 Ap:Addr
 AA:FuncData
 Bs:Addr
 Ch:FuncData
 AG:Addr
 Bf:FuncData
 AZ:Addr
 BO:FuncData
 AF:Addr
 Be:FuncData
 A0:Addr
 BP:FuncData
 Al:Addr
 Aw:FuncData
 A2:Addr
 BR:FuncData
 Bv:Addr
 Ck:FuncData
 AY:Addr
 BN:FuncData
 Au:Addr
 AO:FuncData
 AH:Addr
 Bg:FuncData
 A1:Addr
 BQ:FuncData
 AE:Addr
 Bd:FuncData
 Aj:Addr
 At:FuncData
 Ar:Addr
 AC:FuncData
 Ak:Addr
 Av:FuncData
 ED:Addr
 Fg:FuncData
 tC:Addr
 tP:Addr
 c_FORMS:Addr
 D2:Addr
 c_SORTS:Addr
structure Tx (K:PySem.W.Frag) (mg:Str->Option Value) (a:Ad) (a_LAST_TIME:Tok) (a_MOST_WALKERS:Tok) (a_MOST_ROOM:Tok) (a_MOST_MEETINGS:Tok) (a_MOST_MANY:Tok) (a_LONGEST_NAME:Tok) (a_MOST_FIGURES:Tok) (a_MOST_LETTERS:Tok):Prop where
 Du:Df K mg "show_all" "show_all" AJ a.Bq a.Cf ["names", "book", "letters"]
 D4:Df K mg "is_name" "is_name" Dh a.BZ a.Dk ["thing"]
 CH:Df K mg "number_of" "number_of" BB a.AR a.BH ["word"]
 Dw:Df K mg "parts_of" "parts_of" B0 a.Bt a.Ci ["words", "form"]
 Dv:Df K mg "read_row" "read_row" Dr a.Br a.Cg ["row"]
 Dx:Df K mg "is_whole" "is_whole" Ds a.Bu a.Cj ["thing"]
 Ag:Df K mg "is_within" "is_within" Cw a.AU a.BJ ["thing", "least", "most"]
 CK:Df K mg "are_rooms" "are_rooms" BD a.AX a.BM ["thing"]
 B5:Df K mg "is_meeting" "is_meeting" B1 a.AD a.Bc ["walkers", "thing"]
 Am:Df K mg "meets_twice_at_once" "meets_twice_at_once" wA a.Ac a.Af ["meetings"]
 Bm:Df K mg "lesser_first" "lesser_first" Bi a.Aq a.AB ["meeting"]
 CI:Df K mg "made_book" "made_book" BC a.AT a.Ay ["rooms", "meetings"]
 Ax:Df K mg "number_in" "number_in" Cv a.AS a.BI ["names", "name"]
 CG:Df K mg "read_book" "read_book" BA a.AQ a.BG ["names", "read"]
 Di:Df K mg "is_time" "is_time" D3 a.BY a.Dj ["thing"]
 BE:Df K mg "is_walker" "is_walker" Cy a.AV a.BK ["book", "thing"]
 CJ:Df K mg "is_letter" "is_letter" Cz a.AW a.BL ["book", "thing"]
 Bk:Df K mg "read_letters" "read_letters" wQ a.Ap a.AA ["names", "book", "read"]
 Bl:Df K mg "read_all" "read_all" wL a.Bs a.Ch ["rows"]
 As:Df K mg "_law_purse" "_law_purse" B4 a.AG a.Bf ["_law_script", "_law_k"]
 Ab:Df K mg "_law_take" "_law_take" CB a.AZ a.BO ["_law_purse_here", "_law_many"]
 B7:Df K mg "_law_rooms" "_law_rooms" B3 a.AF a.Be ["_law_purse_here", "_law_walkers"]
 CL:Df K mg "_law_step" "_law_step" CC a.A0 a.BP ["_law_purse_here"]
 A6:Df K mg "_law_meetings" "_law_meetings" wJ a.Al a.Aw ["_law_purse_here", "_law_walkers", "_law_most"]
 CN:Df K mg "_law_book" "_law_book" CF a.A2 a.BR ["_law_purse_here", "_law_most_walkers", "_law_most_meetings"]
 Dy:Df K mg "_law_far" "_law_far" Dt a.Bv a.Ck ["_law_purse_here"]
 BF:Df K mg "_law_time" "_law_time" CA a.AY a.BN ["_law_purse_here", "_law_book_here", "_law_later"]
 BT:Df K mg "_law_letter" "_law_letter" BS a.Au a.AO ["_law_purse_here", "_law_book_here"]
 B8:Df K mg "_law_names" "_law_names" wR a.AH a.Bg ["_law_purse_here", "_law_many"]
 CM:Df K mg "_law_rows" "_law_rows" CD a.A1 a.BQ ["_law_names_here", "_law_book_here", "_law_letters_here"]
 B6:Df K mg "_law_whole" "_law_whole" B2 a.AE a.Bd ["_law_thing"]
 Ai:Df K mg "_law_all_whole" "_law_all_whole" AK a.Aj a.At ["_law_things"]
 Ah:Df K mg "_law_read_so" "_law_read_so" Bj a.Ar a.AC ["_law_told", "_law_names_here", "_law_book_here", "_law_letters_here"]
 A5:Df K mg "_law_mixed_up" "_law_mixed_up" A4 a.Ak a.Av ["_law_head", "_law_names_here", "_law_book_here"]
 Fm:Df K mg "law" "law" Fk a.ED a.Fg ["_law_script"]
 b_all:mg "all" = none
 b_bool:mg "bool" = none
 b_int:mg "int" = none
 b_isinstance:mg "isinstance" = none
 b_len:mg "len" = none
 b_list:mg "list" = none
 b_max:mg "max" = none
 b_min:mg "min" = none
 b_range:mg "range" = none
 b_set:mg "set" = none
 b_sorted:mg "sorted" = none
 b_str:mg "str" = none
 b_tuple:mg "tuple" = none
 b_zip:mg "zip" = none
 t_hd:PySem.W.codeHdIn K a.tC a.tP=true
 t_cd:a.Ay.code=.ref a.tC
 m_FORMS:mg "FORMS" = some (.ref a.c_FORMS)
 Fl:mg "NoBook" = some (.ref a.D2)
 m_SORTS:mg "SORTS" = some (.ref a.c_SORTS)
 fS:tupsB K a.c_SORTS [sW,sM,sL]=true
 fC:cstB K "dict" a.c_FORMS=true
 fW:formB K a.c_FORMS sW [sN,sR]=true
 fM:formB K a.c_FORMS sM [sN,sN,sR,sR]=true
 fL:formB K a.c_FORMS sL [sN,sR,sN,sR]=true
 c_LAST_TIME:mg "LAST_TIME" = some (.int 1000000000 a_LAST_TIME)
 c_MOST_WALKERS:mg "MOST_WALKERS" = some (.int 12 a_MOST_WALKERS)
 c_MOST_ROOM:mg "MOST_ROOM" = some (.int 99 a_MOST_ROOM)
 c_MOST_MEETINGS:mg "MOST_MEETINGS" = some (.int 60 a_MOST_MEETINGS)
 c_MOST_MANY:mg "MOST_MANY" = some (.int 99 a_MOST_MANY)
 c_LONGEST_NAME:mg "LONGEST_NAME" = some (.int 8 a_LONGEST_NAME)
 c_MOST_FIGURES:mg "MOST_FIGURES" = some (.int 18 a_MOST_FIGURES)
 c_MOST_LETTERS:mg "MOST_LETTERS" = some (.int 40 a_MOST_LETTERS)
section
variable (P:Program) (w:World) {K:PySem.W.Frag}{mg:Str->Option Value} (base:Heap) {a:Ad}{t_LAST_TIME:Tok}{t_MOST_WALKERS:Tok}{t_MOST_ROOM:Tok}{t_MOST_MEETINGS:Tok}{t_MOST_MANY:Tok}{t_LONGEST_NAME:Tok}{t_MOST_FIGURES:Tok}{t_MOST_LETTERS:Tok}
theorem Eb:FnScope ["names", "book", "letters", "rooms", "meetings", "rows"] ["names", "book", "letters"] (defScope AJ):=⟨rfl,rfl,rfl,by decide +kernel,rfl,by decide +kernel,by decide +kernel⟩
theorem EU (T:Tx K mg a t_LAST_TIME t_MOST_WALKERS t_MOST_ROOM t_MOST_MEETINGS t_MOST_MANY t_LONGEST_NAME t_MOST_FIGURES t_MOST_LETTERS) (B:BmAt mg base):OkD T.Du P w base 1 (spShow):=by
 refine T.Du.F.ok Eb (λvs H Q E h=>?_) (λcdv A outer s H vs Q E hr h=>?_)
 ·obtain ⟨_,_,_,_,_,_,_,_,_,rfl,_⟩:=h;rfl
 ·have nd:=Eb.nd
  have hu:=hr.units
  obtain ⟨nl,b,ll,ns,ls,rooms,tr,tm,ps,rfl,hn,hb,ln,r12,n100,rb,gd,hll,l41,lb,q⟩:=h
  refine ⟨_,(@xJ _ _ _ (@xN _ _ _ _ _ _ (ps_asg (pv 1) (xq (n:=2) rfl rfl (xK (xI (i:=3) nd rfl rfl) (xK (xI (i:=4) nd rfl rfl) xi)))) (@xN _ _ _ _ _ _ (wG (ix:=5) nd rfl rfl (own:=["name", "room"]) (caps:=[]) rfl (show CompScope ["name", "room"] [] ["names", "book", "letters", "rooms", "meetings", "rows"] (defScope AJ) _ from ⟨rfl,by decide +kernel,by decide +kernel,by decide +kernel,by decide +kernel⟩) (pi_zipM rfl rfl T.b_zip (@xA _ _ _ (@xB _ _ _ _ _ (pv 0) (@xB _ _ _ _ _ (pv 3) xG rfl) rfl))) (λ_ _ _ _=>(xq (n:=2) rfl rfl (xK (xI (i:=0) (show List.Nodup (["name", "room"]:List Str) from by decide +kernel) rfl rfl) (xK (xI (i:=1) (show List.Nodup (["name", "room"]:List Str) from by decide +kernel) rfl rfl) xi)))) (λ_ _ _ _=>xz) (λ_ _ _ _=>(pe_fstr (pj_c xX (pj_c (pe_fmt (pv 0)) (pj_c xX (pj_c (pe_fmt (pv 1)) pj_nil))))))) (@xN _ _ _ _ _ _ (ps_aug (i:=5) nd rfl rfl (pe_comp (own:=["one", "other", "when", "many"]) (caps:=[0]) rfl (show CompScope ["one", "other", "when", "many"] [0] ["names", "book", "letters", "rooms", "meetings", "rows"] (defScope AJ) _ from ⟨rfl,by decide +kernel,by decide +kernel,by decide +kernel,by decide +kernel⟩) (@pi_tup'' _ _ _ _ _ rfl (pv 4)) (λ_ _ _ _=>(xq (n:=4) rfl rfl (xK (xI (i:=0) (show List.Nodup (["one", "other", "when", "many", "names"]:List Str) from by decide +kernel) rfl rfl) (xK (xI (i:=1) (show List.Nodup (["one", "other", "when", "many", "names"]:List Str) from by decide +kernel) rfl rfl) (xK (xI (i:=2) (show List.Nodup (["one", "other", "when", "many", "names"]:List Str) from by decide +kernel) rfl rfl) (xK (xI (i:=3) (show List.Nodup (["one", "other", "when", "many", "names"]:List Str) from by decide +kernel) rfl rfl) xi)))))) (λ_ _ _ _=>xz) (λ_ _ _ _=>(pe_fstr (pj_c xX (pj_c (pe_fmt (@xU _ _ _ _ _ _ _ (xV rfl) (pv 4) (pv 0) (λ_ _=>rfl))) (pj_c xX (pj_c (pe_fmt (@xU _ _ _ _ _ _ _ (xV rfl) (pv 4) (pv 1) (λ_ _=>rfl))) (pj_c xX (pj_c (pe_fmt (pv 2)) (pj_c xX (pj_c (pe_fmt (pv 3)) pj_nil))))))))))) ip_cat) (@xN _ _ _ _ _ _ (ps_aug (i:=5) nd rfl rfl (pe_comp (own:=["sender", "since", "wish", "last"]) (caps:=[0]) rfl (show CompScope ["sender", "since", "wish", "last"] [0] ["names", "book", "letters", "rooms", "meetings", "rows"] (defScope AJ) _ from ⟨rfl,by decide +kernel,by decide +kernel,by decide +kernel,by decide +kernel⟩) (@xm _ _ _ _ _ rfl (pv 2)) (λ_ _ _ _=>(xq (n:=4) rfl rfl (xK (xI (i:=0) (show List.Nodup (["sender", "since", "wish", "last", "names"]:List Str) from by decide +kernel) rfl rfl) (xK (xI (i:=1) (show List.Nodup (["sender", "since", "wish", "last", "names"]:List Str) from by decide +kernel) rfl rfl) (xK (xI (i:=2) (show List.Nodup (["sender", "since", "wish", "last", "names"]:List Str) from by decide +kernel) rfl rfl) (xK (xI (i:=3) (show List.Nodup (["sender", "since", "wish", "last", "names"]:List Str) from by decide +kernel) rfl rfl) xi)))))) (λ_ _ _ _=>xz) (λ_ _ _ _=>(pe_fstr (pj_c xX (pj_c (pe_fmt (@xU _ _ _ _ _ _ _ (xV rfl) (pv 4) (pv 0) (λ_ _=>rfl))) (pj_c xX (pj_c (pe_fmt (pv 1)) (pj_c xX (pj_c (pe_fmt (@xU _ _ _ _ _ _ _ (xV rfl) (pv 4) (pv 2) (λ_ _=>rfl))) (pj_c xX (pj_c (pe_fmt (pv 3)) pj_nil))))))))))) ip_cat) (@xT _ _ _ (@xR _ _ _ _ (pv 5)))))))),?_⟩
  have line:100002<=sizeLine:=by rw [sizeLine_eq];decide
  have zE:Str.empty.length=0:=rfl
  have z1:(Str.ofString "walker ").length=7:=by decide +kernel
  have z2:(Str.ofString "meet ").length=5:=by decide +kernel
  have z3:(Str.ofString "letter ").length=7:=by decide +kernel
  have z4:(Str.ofString " ").length=1:=by decide +kernel
  have z5:(Str.ofString "meet").length=4:=by decide +kernel
  have z6:(Str.ofString "letter").length=6:=by decide +kernel
  have rm:∀ {r:Int},r∈rooms->-(10 ^ 12)<=r/\r<=10 ^ 12:=λ{r} hr=>by have:=rb r hr;omega
  have nmb:∀ {i:Int},0<=i->i < rooms.length->atI (ns.map V.str) i=some (V.str (nm ns i))/\(nm ns i).length<=100:=λ{i} h0 h1=>by
   have:=nm_at (ns:=ns) h0 (by omega)
   exact ⟨this.1,n100 _ this.2⟩
  have n60:=gd.len
  refine ⟨_,rfl,b,_,rfl,SqT.of hb.book,rfl,_,_,rfl,_,_,rfl,rfl,?_⟩
  refine ⟨_,rfl,_,rfl,nl,tr,rfl,⟨_,SqL.of hn⟩,⟨_,SqT.of hb.rooms⟩,?_⟩
  refine comp_zipM (K:=K) (a:=nl) (b:=tr) (xs:=ns.map V.str) (ys:=rooms.map V.int) (by rw [zA,zA,ln]) (λi τ acc H5=>(∃ t0 t1,τ=[t0,t1])/\acc=(((ns.zip rooms).take i).map rowW).map V.str/\Same H H5) ⟨⟨_,_,rfl⟩,rfl,Same.refl _⟩ (by rw [zA];omega) ?_ ?_ ?_
  ·rintro i τ acc H5 ⟨_,rfl,s5⟩
   exact ⟨by rw [zA,zA,zY];omega,SqL.of (s5 _ _ hn),SqT.of (s5 _ _ hb.rooms)⟩
  ·rintro i u v q0 τ acc H5 C hu hv hq ⟨⟨t0,t1,rfl⟩,rfl,s5⟩ hC
   obtain ⟨x,hx,rfl⟩:=xW hu
   obtain ⟨r,hr,rfl⟩:=xW hv
   have hz:(ns.zip rooms)[i]?=some (x,r):=List.getElem?_zip_eq_some.mpr ⟨hx,hr⟩
   have lx:=n100 x (zB hx)
   have rb1:=rm (zB hr)
   have lr:=tx_len rb1.1 rb1.2
   have kq:upd H5 q0 (HO.tup [V.str x,V.int r]) q0=some (.tup [V.str x,V.int r]):=xC
   refine ⟨q0,_,rfl,SqT.of kq,rfl,_,_,rfl,_,_,rfl,rfl,_,rfl,(by simp only [xb,zE,z1,z2,z3,z4];omega),_,rfl,x,.inl ⟨rfl,by omega⟩,_,rfl,(by simp only [xb,zE,z1,z2,z3,z4];omega),_,rfl,(by simp only [xb,zE,z1,z2,z3,z4];omega),_,rfl,tx r,fmt_int rb1.1 rb1.2,_,rfl,(by simp only [xb,zE,z1,z2,z3,z4];omega),(by simp only [xb,zE,z1,z2,z3,z4];omega),hC _ _ _ ⟨⟨_,_,rfl⟩,?_,s5.trans (xE hq)⟩⟩
   rw [xt hz,zC,zC,emp_app];rfl
  rintro τ acc H5 ⟨_,e,s5⟩
  rw [zA,za (by rw [yh];omega)] at e
  subst e
  intro p hp
  have s6:=s5.trans (xE (o:=HO.lst (((ns.zip rooms).map rowW).map V.str)) hp)
  have fp:H p=none:=s5.free hp
  have kp:upd H5 p (HO.lst (((ns.zip rooms).map rowW).map V.str)) p=some (.lst (((ns.zip rooms).map rowW).map V.str)):=xC
  generalize upd H5 p (HO.lst (((ns.zip rooms).map rowW).map V.str))=H6 at s6 kp ⊢
  clear hp s5
  refine ⟨_,rfl,_,rfl,tm,rfl,⟨_,SqT.of (hb.same s6).meets⟩,?_⟩
  refine comp_tup (K:=K) (a:=tm) (xs:=ps.map λa=>V.ref a.1) (λi τ acc H7=>(∃ t0 t1 t2 t3,τ=[t0,t1,t2,t3,some (.ref nl)])/\acc=(((ps.map (·.2)).take i).map (rowM ns)).map V.str/\Same H6 H7) ⟨⟨_,_,_,_,rfl⟩,rfl,Same.refl _⟩ (by rw [zA];omega) ?_ ?_ ?_
  ·rintro i τ acc H7 ⟨_,rfl,s7⟩
   exact ⟨by rw [zA,zA,zY];omega,SqT.of (s7 _ _ (hb.same s6).meets)⟩
  ·rintro i v τ acc H7 C hv ⟨⟨t0,t1,t2,t3,rfl⟩,rfl,s7⟩ hC
   obtain ⟨p0,hp0,rfl⟩:=xW hv
   have ge:=gd.each p0.2 (zO.mpr ⟨p0,zB hp0,rfl⟩)
   have hM:(ps.map (·.2))[i]?=some p0.2:=by rw [zX,hp0];rfl
   obtain ⟨a1,l1⟩:=nmb (i:=p0.2.lo) (by omega) (by omega)
   obtain ⟨a2,l2⟩:=nmb (i:=p0.2.hi) (by omega) (by omega)
   have b1:-(10 ^ 12)<=p0.2.t/\p0.2.t<=10 ^ 12:=by omega
   have b2:-(10 ^ 12)<=p0.2.m/\p0.2.m<=10 ^ 12:=by omega
   have t1:=tx_len b1.1 b1.2
   have t2:=tx_len b2.1 b2.2
   have hrow:=(hb.same (s6.trans s7)).rows p0 (zB hp0)
   have hn7:=(s6.trans s7) _ _ hn
   refine ⟨p0.1,_,rfl,SqT.of hrow,rfl,_,_,rfl,_,_,rfl,_,_,rfl,_,_,rfl,rfl,_,rfl,(by simp only [xb,zE,z1,z2,z3,z4];omega),_,rfl,_,rfl,nl,_,_,_,rfl,rfl,SqL.of hn7,a1,_,.inl ⟨rfl,by omega⟩,_,rfl,(by simp only [xb,zE,z1,z2,z3,z4];omega),_,rfl,(by simp only [xb,zE,z1,z2,z3,z4];omega),_,rfl,_,rfl,nl,_,_,_,rfl,rfl,SqL.of hn7,a2,_,.inl ⟨rfl,by omega⟩,_,rfl,(by simp only [xb,zE,z1,z2,z3,z4];omega),_,rfl,(by simp only [xb,zE,z1,z2,z3,z4];omega),_,rfl,tx p0.2.t,fmt_int b1.1 b1.2,_,rfl,(by simp only [xb,zE,z1,z2,z3,z4];omega),_,rfl,(by simp only [xb,zE,z1,z2,z3,z4];omega),_,rfl,tx p0.2.m,fmt_int b2.1 b2.2,_,rfl,(by simp only [xb,zE,z1,z2,z3,z4];omega),(by simp only [xb,zE,z1,z2,z3,z4];omega),hC _ _ _ ⟨⟨_,_,_,_,rfl⟩,?_,s7⟩⟩
   rw [xt hM,zC,zC,emp_app];rfl
  rintro τ acc H7 ⟨_,e,s7⟩
  rw [zA,za (by rw [zA];omega)] at e
  subst e
  intro p2 hp2
  have s8:=(xE (o:=HO.lst (((ps.map (·.2)).map (rowM ns)).map V.str)) hp2)
  have kp2:upd H7 p2 (HO.lst (((ps.map (·.2)).map (rowM ns)).map V.str)) p2=some (.lst (((ps.map (·.2)).map (rowM ns)).map V.str)):=xC
  have s68:=s7.trans s8
  generalize upd H7 p2 (HO.lst (((ps.map (·.2)).map (rowM ns)).map V.str))=H8 at s8 kp2 s68 ⊢
  have lz:(ns.zip rooms).length<=12:=by rw [yh];omega
  refine ⟨p,p2,_,_,rfl,rfl,s68 _ _ kp,kp2,(by rw [zA,zA,zA,zA,zA];omega),?_⟩
  have b9:But p H8 (upd H8 p (HO.lst (((ns.zip rooms).map rowW).map V.str++((ps.map (·.2)).map (rowM ns)).map V.str))):=But.set
  have kp9:upd H8 p (HO.lst (((ns.zip rooms).map rowW).map V.str++((ps.map (·.2)).map (rowM ns)).map V.str)) p=some (.lst ((((ns.zip rooms).map rowW)++((ps.map (·.2)).map (rowM ns))).map V.str)):=by rw [xC,zC]
  have s9:Same H (upd H8 p (HO.lst (((ns.zip rooms).map rowW).map V.str++((ps.map (·.2)).map (rowM ns)).map V.str))):=But.same fp (s6.trans s68) b9
  generalize upd H8 p (HO.lst (((ns.zip rooms).map rowW).map V.str++((ps.map (·.2)).map (rowM ns)).map V.str))=H9 at b9 kp9 s9 ⊢
  clear s68 kp2 s8 hp2 s7 b9 kp s6
  have hl9:=hll.same s9
  refine ⟨_,rfl,_,rfl,ll,rfl,⟨_,SqL.of hl9.1⟩,?_⟩
  refine x8 (K:=K) (a:=ll) (xs:=ls.map λa=>V.ref a.1) (λi τ acc H7=>(∃ t0 t1 t2 t3,τ=[t0,t1,t2,t3,some (.ref nl)])/\acc=(((ls.map (·.2)).take i).map (rowL ns)).map V.str/\Same H9 H7) ⟨⟨_,_,_,_,rfl⟩,rfl,Same.refl _⟩ (by rw [zA];omega) ?_ ?_ ?_
  ·rintro i τ acc H7 ⟨_,rfl,s7⟩
   exact ⟨by rw [zA,zA,zY];omega,SqL.of (s7 _ _ hl9.1)⟩
  ·rintro i v τ acc H7 C hv ⟨⟨t0,t1,t2,t3,rfl⟩,rfl,s7⟩ hC
   obtain ⟨L,hL,rfl⟩:=xW hv
   have Lm:=zB hL
   obtain ⟨c1,c2,c3,c4,c5,c6⟩:=lb L Lm
   have hM:(ls.map (·.2))[i]?=some L.2:=by rw [zX,hL];rfl
   obtain ⟨a1,l1⟩:=nmb (i:=(L.2.s:Int)) (by omega) (by omega)
   obtain ⟨a2,l2⟩:=nmb (i:=(L.2.w:Int)) (by omega) (by omega)
   have t1:=tx_len c3 c4
   have t2:=tx_len c5 c6
   have hrow:H7 L.1=some (.tup [V.int (L.2.s:Int),V.int L.2.a,V.int (L.2.w:Int),V.int L.2.z]):=s7 _ _ (hl9.2 L Lm)
   have hn7:=(s9.trans s7) _ _ hn
   refine ⟨L.1,_,rfl,SqT.of hrow,rfl,_,_,rfl,_,_,rfl,_,_,rfl,_,_,rfl,rfl,_,rfl,(by simp only [xb,zE,z1,z2,z3,z4];omega),_,rfl,_,rfl,nl,_,_,_,rfl,rfl,SqL.of hn7,a1,_,.inl ⟨rfl,by omega⟩,_,rfl,(by simp only [xb,zE,z1,z2,z3,z4];omega),_,rfl,(by simp only [xb,zE,z1,z2,z3,z4];omega),_,rfl,tx L.2.a,fmt_int c3 c4,_,rfl,(by simp only [xb,zE,z1,z2,z3,z4];omega),_,rfl,(by simp only [xb,zE,z1,z2,z3,z4];omega),_,rfl,_,rfl,nl,_,_,_,rfl,rfl,SqL.of hn7,a2,_,.inl ⟨rfl,by omega⟩,_,rfl,(by simp only [xb,zE,z1,z2,z3,z4];omega),_,rfl,(by simp only [xb,zE,z1,z2,z3,z4];omega),_,rfl,tx L.2.z,fmt_int c5 c6,_,rfl,(by simp only [xb,zE,z1,z2,z3,z4];omega),(by simp only [xb,zE,z1,z2,z3,z4];omega),hC _ _ _ ⟨⟨_,_,_,_,rfl⟩,?_,s7⟩⟩
   rw [xt hM,zC,zC,emp_app];rfl
  rintro τ acc H7 ⟨_,e,s7⟩
  rw [zA,za (by rw [zA];omega)] at e
  subst e
  intro p2 hp2
  have s8:=(xE (o:=HO.lst (((ls.map (·.2)).map (rowL ns)).map V.str)) hp2)
  have kp2:upd H7 p2 (HO.lst (((ls.map (·.2)).map (rowL ns)).map V.str)) p2=some (.lst (((ls.map (·.2)).map (rowL ns)).map V.str)):=xC
  have s68:=s7.trans s8
  generalize upd H7 p2 (HO.lst (((ls.map (·.2)).map (rowL ns)).map V.str))=H8 at s8 kp2 s68 ⊢
  refine ⟨p,p2,_,_,rfl,rfl,s68 _ _ kp9,kp2,(by rw [zA,zI,zA,zA,zA,zA,zA,zA];omega),?_⟩
  refine ⟨_,rfl,q p _ (But.same fp (s9.trans s68) But.set) fp ?_⟩
  rw [xC];unfold allRows;rw [zC (l₁:=List.map rowW (ns.zip rooms)++List.map (rowM ns) (List.map (λy=>y.2) ps))]
theorem Er:FnScope ["thing"] ["thing"] (defScope Dh):=⟨rfl,rfl,rfl,by decide +kernel,rfl,by decide +kernel,by decide +kernel⟩
theorem Fa (T:Tx K mg a t_LAST_TIME t_MOST_WALKERS t_MOST_ROOM t_MOST_MEETINGS t_MOST_MANY t_LONGEST_NAME t_MOST_FIGURES t_MOST_LETTERS) (B:BmAt mg base):OkD T.D4 P w base 1 (spIsName):=by
 refine T.D4.F.ok Er (λvs H Q E h=>?_) (λcdv A outer s H vs Q E hr h=>?_)
 ·obtain ⟨x,t,rfl,_⟩:=h;rfl
 ·have nd:=Er.nd
  have hu:=hr.units
  obtain ⟨x,t,rfl,ht,hl,q⟩:=h
  refine ⟨_,(@xJ _ _ _ (@xN _ _ _ _ _ _ (@xY _ _ _ _ _ _ _ _ (@PW.pt _ _ _ (@wN _ _ _ _ _ _ _ (@xf _ _ _ _ (xg (xL (call_isinstS) (by rfl) T.b_isinstance zR (@xA _ _ _ (@xB _ _ _ _ _ (pv 0) (@xB _ _ _ _ _ (xv (v:=V.ty "str") rfl T.b_str zx rfl) xG rfl) rfl))))) (@wD _ _ _ _ (@xf _ _ _ _ (pt_chain op_le op_le xD (xL (call_len_str) (by rfl) T.b_len PySem.boot_len (@xA _ _ _ (@xB _ _ _ _ _ (pv 0) xG rfl))) (wM (v:=V.int 8) rfl T.c_LONGEST_NAME ⟨_,rfl⟩)))))) (@xJ _ _ _ (@xT _ _ _ (@xR _ _ _ _ pe_bl))) xO) (@xT _ _ _ (@xR _ _ _ _ (xL (call_all rfl rfl) (by rfl) T.b_all yg (@xA _ _ _ (@xB _ _ _ _ _ (pe_comp (own:=["sign"]) (caps:=[]) rfl (show CompScope ["sign"] [] ["thing"] (defScope Dh) _ from ⟨rfl,by decide +kernel,by decide +kernel,by decide +kernel,by decide +kernel⟩) (pi_str' rfl (pv 0)) (λ_ _ _ _=>(xI (i:=0) (show List.Nodup (["sign"]:List Str) from by decide +kernel) rfl rfl)) (λ_ _ _ _=>xz) (λ_ _ _ _=>(pe_chain op_le_str op_le_str xX (pv 0) xX))) xG rfl))))))),?_⟩
  have line:=line9
  by_cases e:t = "str"
  ·subst e
   obtain ⟨z,rfl⟩:∃ z,x=.str z:=by
    cases x with
    | str z=>exact ⟨z,rfl⟩
    | ref a=>
     unfold tyS at ht
     dsimp only at ht
     split at ht <;> simp at ht
    | _=>simp [tyS] at ht
   have hz:=hl z rfl
   have q':∀ H',Same H H'->Q (.bl (decide (1<=z.length) && (decide (z.length<=8) && z.cps.toList.all low))) H':=q
   refine ⟨_,rfl,_,_,rfl,ht,_,rfl,iteB0 rfl ?_⟩
   refine ⟨_,rfl,z,rfl,by omega,_,_,rfl,rfl,_,rfl,iteD (λc=>⟨_,_,rfl,rfl,_,rfl,iteB (λc2=>?_) (λc2=>?_)⟩) (λc=>⟨_,rfl,iteB1 rfl ?_⟩)⟩
   rotate_left
   ·have c':1<=z.length:=by omega
    have c2q:(decide ((z.length:Int)<=8))=true:=by simpa using c2
    have c2':z.length<=8:=by have:=of_decide_eq_true c2q;omega
    rw [decide_eq_true c',decide_eq_true c2',yZ,yZ] at q'
    refine ⟨_,rfl,z,rfl,?_⟩
    refine comp_str (z:=z) (λi τ acc H5=>(∃ t0,τ=[t0])/\acc=(((z.cps.toList.take i).map low).map V.bl)/\H=H5) ⟨⟨_,rfl⟩,rfl,rfl⟩ (by show z.length<=1000;omega) ?_ ?_ ?_
    ·rintro i τ acc H5 ⟨⟨t0,rfl⟩,rfl,rfl⟩
     rw [zA,zA,zY];exact Nat.min_le_left _ _
    ·rintro i c τ acc H5 C hx ⟨⟨t0,rfl⟩,rfl,rfl⟩ hC
     have hx':z.cps.toList[i]?=some c:=by rw [Array.getElem?_toList];exact hx
     have tk:((z.cps.toList.take (i + 1)).map low).map V.bl=((z.cps.toList.take i).map low).map V.bl++[V.bl (low c)]:=by rw [List.take_succ,hx',zC,zC];rfl
     refine ⟨_,rfl,_,_,rfl,rfl,_,rfl,iteB (λc1=>?_) (λc1=>?_)⟩
     ·rw [le_a] at c1
      refine ⟨_,_,rfl,rfl,hC _ _ _ ⟨⟨_,rfl⟩,?_,rfl⟩⟩
      rw [tk,le_z];unfold low;rw [c1];rfl
     ·rw [le_a] at c1
      refine hC _ _ _ ⟨⟨_,rfl⟩,?_,rfl⟩
      rw [tk];unfold low;rw [c1];rfl
    ·rintro τ acc H5 ⟨⟨t0,rfl⟩,rfl,rfl⟩ lc hlc
     refine ⟨lc,z.cps.toList.map low,rfl,SqL.of (by rw [xC,<- Array.length_toList,yV]),?_⟩
     rw [show (z.cps.toList.map low).all id=z.cps.toList.all low from by rw [List.all_map];rfl]
     exact q' _ (xE hlc)
   ·rw [show decide (1<=z.length)=false from decide_eq_false (by omega)] at q'
    exact q' _ (Same.refl _)
   ·have d2:decide ((z.length:Int)<=8)=false:=by simpa using c2
    have d3:=of_decide_eq_false d2
    rw [show decide (z.length<=8)=false from decide_eq_false (by omega)] at q'
    have r:=q' _ (Same.refl _)
    rw [yM,yt] at r
    exact r
  ·have nb:nameB x=false:=by
    cases x with
    | str z=>cases ht;exact absurd rfl e
    | _=>rfl
   rw [nb] at q
   exact ⟨_,rfl,_,_,rfl,ht,_,rfl,iteB1 (by rw [show (t == "str")=false from by simp [e]];rfl) (q _ (Same.refl _))⟩
theorem DN:FnScope ["word"] ["word"] (defScope BB):=⟨rfl,rfl,rfl,by decide +kernel,rfl,by decide +kernel,by decide +kernel⟩
theorem EG (T:Tx K mg a t_LAST_TIME t_MOST_WALKERS t_MOST_ROOM t_MOST_MEETINGS t_MOST_MANY t_LONGEST_NAME t_MOST_FIGURES t_MOST_LETTERS) (B:BmAt mg base):OkD T.CH P w base 1 (spNumber):=by
 refine T.CH.F.ok DN (λvs H Q E h=>?_) (λcdv A outer s H vs Q E hr h=>?_)
 ·obtain ⟨_,rfl,_⟩:=h;rfl
 ·have nd:=DN.nd
  have hu:=hr.units
  obtain ⟨n,rfl,h0,h1,q⟩:=h
  refine ⟨_,(@xJ _ _ _ (@xN _ _ _ _ _ _ (@xY _ _ _ _ _ _ _ _ (@PW.pt _ _ _ (@wN _ _ _ _ _ _ _ (@xf _ _ _ _ (pt_chain op_le op_le xD (xL (call_len_str) (by rfl) T.b_len PySem.boot_len (@xA _ _ _ (@xB _ _ _ _ _ (pv 0) xG rfl))) (wM (v:=V.int 18) rfl T.c_MOST_FIGURES ⟨_,rfl⟩))) (@wD _ _ _ _ (@xf _ _ _ _ (xg (xL (call_all rfl rfl) (by rfl) T.b_all yg (@xA _ _ _ (@xB _ _ _ _ _ (pe_comp (own:=["sign"]) (caps:=[]) rfl (show CompScope ["sign"] [] ["word"] (defScope BB) _ from ⟨rfl,by decide +kernel,by decide +kernel,by decide +kernel,by decide +kernel⟩) (pi_str' rfl (pv 0)) (λ_ _ _ _=>(xI (i:=0) (show List.Nodup (["sign"]:List Str) from by decide +kernel) rfl rfl)) (λ_ _ _ _=>xz) (λ_ _ _ _=>(pe_chain op_le_str op_le_str xX (pv 0) xX))) xG rfl)))))))) (@xJ _ _ _ (@xT _ _ _ (@xR _ _ _ _ pe_non))) xO) (@xT _ _ _ (@xR _ _ _ _ (@pe_ifExp _ _ _ _ _ _ _ _ (@PW.pt _ _ _ (@pw_and _ _ _ _ _ _ _ (@xS _ _ _ _ _ _ _ _ op_eq (@xU _ _ _ _ _ _ _ ix_str (pv 0) xD (λ_ _=>rfl)) xX (nomark _)) (@pw_and1 _ _ _ _ (@xS _ _ _ _ _ _ _ _ op_gt (xL (call_len_str) (by rfl) T.b_len PySem.boot_len (@xA _ _ _ (@xB _ _ _ _ _ (pv 0) xG rfl))) xD (nomark _))))) pe_non (xh (call_intT) (by rfl) T.b_int PyProof.Rows.boot_int (@xA _ _ _ (@xB _ _ _ _ _ (pv 0) xG rfl)))))))),?_⟩
  have line:=line9
  have l1:=tx_some h0
  have l10:=tx_small h0 h1
  have dg:=tx_digits h0
  have hd:=tx_head h0
  have q':∀ H',Same H H'->Q (.int n) H':=q
  refine ⟨_,rfl,tx n,rfl,by omega,_,_,rfl,rfl,_,rfl,iteB1 (decide_eq_true (by omega)) ⟨_,_,rfl,rfl,_,rfl,iteB0 (by rw [decide_eq_true (by omega)];rfl) ?_⟩⟩
  refine ⟨_,rfl,tx n,rfl,?_⟩
  refine comp_str (z:=tx n) (λi τ acc H5=>(∃ t0,τ=[t0])/\acc=(List.replicate i true).map V.bl/\H=H5) ⟨⟨_,rfl⟩,rfl,rfl⟩ (by show (tx n).length<=1000;omega) ?_ ?_ ?_
  ·rintro i τ acc H5 ⟨_,rfl,rfl⟩
   rw [zA,yf];exact zD _
  ·rintro i c τ acc H5 C hx ⟨⟨t0,rfl⟩,rfl,rfl⟩ hC
   have hx':(tx n).cps.toList[i]?=some c:=by rw [Array.getElem?_toList];exact hx
   have r:=dg c (zB hx')
   refine ⟨_,rfl,_,_,rfl,rfl,_,rfl,iteB1 (by rw [le_0];exact decide_eq_true r.1) ⟨_,_,rfl,rfl,hC _ _ _ ⟨⟨_,rfl⟩,?_,rfl⟩⟩⟩
   rw [le_9,decide_eq_true r.2,List.replicate_succ',zC];rfl
  rintro τ acc H5 ⟨⟨t0,rfl⟩,rfl,rfl⟩ lc hlc
  have s5:=xE (o:=HO.lst ((List.replicate (tx n).cps.size true).map V.bl)) hlc
  refine ⟨lc,_,rfl,SqL.of xC,?_⟩
  generalize upd H lc (HO.lst ((List.replicate (tx n).cps.size true).map V.bl))=H6 at s5 ⊢
  obtain ⟨c0,hc0⟩:∃ c,(tx n).cps[0]?=some c:=⟨_,Array.getElem?_eq_getElem (show 0 < (tx n).length by omega)⟩
  have at0:atI (tx n).cps.toList 0=some c0:=by rw [show (0:Int)=((0:Nat):Int) from rfl];exact wB (by rw [Array.getElem?_toList];exact hc0)
  have fin:tCB (λxs H Q=>∃ n:Int,xs=[V.str (Str.ofString (toString n))]/\0<=n/\n < 10 ^ 10/\Q (V.int n) H) (tCons (tVar 0) tNil) (L2.start [Str.ofString "word"] [V.str (tx n)]) H6 Q:=⟨_,rfl,n,rfl,h0,h1,q' _ s5⟩
  refine ⟨_,rfl,iteB0 (by rw [all_rep];rfl) ?_⟩
  refine ⟨_,rfl,tx n,0,c0,rfl,rfl,by omega,at0,rfl,_,rfl,?_⟩
  by_cases h48:c0=48
  ·have short:¬ 1 < (tx n).length:=λz=>hd z (by rw [hc0,h48])
   refine iteB1 (decide_eq_true (by rw [(is_zero c0).mpr h48])) ?_
   exact ⟨_,rfl,tx n,rfl,by omega,_,_,rfl,rfl,_,rfl,iteB0 (decide_eq_false (by omega)) fin⟩
  ·exact iteB0 (decide_eq_false λz=>h48 ((is_zero c0).mp (V.str.inj z))) fin
theorem Ee:FnScope ["words", "form", "parts"] ["words", "form"] (defScope B0):=⟨rfl,rfl,rfl,by decide +kernel,rfl,by decide +kernel,by decide +kernel⟩
theorem EX (T:Tx K mg a t_LAST_TIME t_MOST_WALKERS t_MOST_ROOM t_MOST_MEETINGS t_MOST_MANY t_LONGEST_NAME t_MOST_FIGURES t_MOST_LETTERS) (B:BmAt mg base):OkD T.Dw P w base 2 (spPartsOf K):=by
 have E2:=EG P w base T B
 refine T.Dw.F.ok Ee (λvs H Q E h=>?_) (λcdv A outer s H vs Q E hr h=>?_)
 ·obtain ⟨_,_,_,_,_,_,rfl,_⟩:=h;rfl
 ·have nd:=Ee.nd
  have hu:=hr.units
  obtain ⟨lw,p,w0,ws,ks,ps,rfl,hw,hp,hP,k4,q⟩:=h
  refine ⟨_,(@xJ _ _ _ (@xN _ _ _ _ _ _ (@xY _ _ _ _ _ _ _ _ (@PW.pt _ _ _ (@wN _ _ _ _ _ _ _ (pt_cmp (@pc_isN _ _ _ _ _ (pv 1))) (@wD _ _ _ _ (@xS _ _ _ _ _ _ _ _ op_ne (xL (xP rfl) (by rfl) T.b_len PySem.boot_len (@xA _ _ _ (@xB _ _ _ _ _ (pv 0) xG rfl))) (@xQ _ _ _ _ _ _ _ _ xj (xL (xP rfl) (by rfl) T.b_len PySem.boot_len (@xA _ _ _ (@xB _ _ _ _ _ (pv 1) xG rfl))) xD) (nomark _))))) (@xJ _ _ _ (@xT _ _ _ (@xR _ _ _ _ pe_non))) xO) (@xN _ _ _ _ _ _ (wG (ix:=2) nd rfl rfl (own:=["sort", "word"]) (caps:=[]) rfl (show CompScope ["sort", "word"] [] ["words", "form", "parts"] (defScope B0) _ from ⟨rfl,by decide +kernel,by decide +kernel,by decide +kernel,by decide +kernel⟩) (pi_zipN rfl rfl T.b_zip (@xA _ _ _ (@xB _ _ _ _ _ (pv 1) (@xB _ _ _ _ _ (@pe_slice _ _ _ _ _ _ _ _ _ _ (sl_list' rfl) (pv 0) (@po_some _ _ _ xD) po_none) xG rfl) rfl))) (λ_ _ _ _=>(xq (n:=2) rfl rfl (xK (xI (i:=0) (show List.Nodup (["sort", "word"]:List Str) from by decide +kernel) rfl rfl) (xK (xI (i:=1) (show List.Nodup (["sort", "word"]:List Str) from by decide +kernel) rfl rfl) xi)))) (λ_ _ _ _=>xz) (λ_ _ _ _=>(@pe_ifExp _ _ _ _ _ _ _ _ (@xS _ _ _ _ _ _ _ _ op_eq (pv 0) xX (nomark _)) (pv 1) (pcl E2 hr T.CH (@xA _ _ _ (@xB _ _ _ _ _ (pv 1) xG rfl)))))) (@xT _ _ _ (@xR _ _ _ _ (@pe_ifExp _ _ _ _ _ _ _ _ (@xS _ _ _ _ _ _ _ _ (op_in_seq' rfl) pe_non (pv 2) rfl) pe_non (pv 2))))))),?_⟩
  have line:=line9
  have lp:=hP.len
  have hP':=hP
  have lz:(w0::ws).length=ks.length + 1:=by rw [zV];omega
  refine ⟨_,rfl,_,rfl,iteB0 rfl ?_⟩
  refine ⟨_,rfl,lw,_,rfl,.inl (SqL.of hw),_,rfl,p,_,rfl,.inr hp,_,_,rfl,rfl,rfl,_,rfl,iteB0 (by rw [zA,zA,lz];simp) ?_⟩
  have cut:cutV ((w0::ws).map V.str) (some 1) none=ws.map V.str:=by rw [show (1:Int)=((1:Nat):Int) from rfl,cut_drop];rfl
  refine ⟨_,rfl,_,rfl,1,rfl,lw,_,rfl,SqL.of hw,λb1 hb1=>?_⟩
  rw [cut] at *
  have s1:=xE (o:=HO.lst (ws.map V.str)) hb1
  have k1:upd H b1 (HO.lst (ws.map V.str)) b1=some (.lst (ws.map V.str)):=xC
  generalize upd H b1 (HO.lst (ws.map V.str))=H1 at s1 k1 ⊢
  have hp1:SqT K H1 p (ks.map V.str):=Same.seqT s1 hp
  refine ⟨p,b1,rfl,⟨_,hp1⟩,⟨_,SqL.of k1⟩,?_⟩
  refine comp_zipN (K:=K) (a:=p) (b:=b1) (xs:=ks.map V.str) (ys:=ws.map V.str) (by rw [zA,zA];omega) (λi τ acc H5=>(∃ t0 t1,τ=[t0,t1])/\acc=ps.take i/\Same H1 H5) ⟨⟨_,_,rfl⟩,rfl,Same.refl _⟩ (by rw [zA];omega) ?_ ?_ ?_
  ·rintro i τ acc H5 ⟨_,rfl,s5⟩
   exact ⟨by rw [zY];omega,Same.seqT s5 hp1,SqL.of (s5 _ _ k1)⟩
  ·rintro i u v q0 τ acc H5 C hu hv hq ⟨⟨t0,t1,rfl⟩,rfl,s5⟩ hC
   obtain ⟨kd,hk,rfl⟩:=xW hu
   obtain ⟨wd,hwd,rfl⟩:=xW hv
   obtain ⟨pt,hpt,cs⟩:=hP.at hk hwd
   have kq:upd H5 q0 (HO.tup [V.str kd,V.str wd]) q0=some (.tup [V.str kd,V.str wd]):=xC
   have s6:=s5.trans (xE (o:=HO.tup [V.str kd,V.str wd]) hq)
   generalize upd H5 q0 (HO.tup [V.str kd,V.str wd])=H6 at kq s6 ⊢
   have fin:∀ H',Same H6 H'->C [some (V.str kd),some (V.str wd)] (ps.take i++[pt]) H':=λH' s'=>hC _ _ _ ⟨⟨_,_,rfl⟩,by rw [xt hpt],s6.trans s'⟩
   refine ⟨q0,_,rfl,SqT.of kq,rfl,_,_,rfl,_,_,rfl,rfl,?_⟩
   rcases cs with ⟨rfl,rfl⟩ | ⟨n,rfl,rfl,h0,h1,rfl⟩
   ·exact ⟨_,rfl,rfl,_,rfl,iteB1 (decide_eq_true rfl) ⟨_,rfl,fin _ (Same.refl _)⟩⟩
   ·exact ⟨_,rfl,rfl,_,rfl,iteB0 (decide_eq_false λz=>nameN (V.str.inj z)) ⟨_,rfl,n,rfl,h0,h1,fin⟩⟩
  rintro τ acc H5 ⟨_,rfl,s5⟩
  rw [zA,za (by omega)]
  intro l hl
  have s6:=s5.trans (xE (o:=HO.lst ps) hl)
  have k6:upd H5 l (HO.lst ps) l=some (.lst ps):=xC
  have fl:=s5.free hl
  generalize upd H5 l (HO.lst ps)=H6 at s6 k6 ⊢
  refine ⟨_,rfl,l,_,rfl,.inl (SqL.of k6),rfl,hP.noNone.2,_,rfl,iteB0 hP.noNone.1 ?_⟩
  exact ⟨_,rfl,q l _ (s1.trans s6) (s1.free fl) k6⟩
theorem Ec:FnScope ["row", "words", "parts"] ["row"] (defScope Dr):=⟨rfl,rfl,rfl,by decide +kernel,rfl,by decide +kernel,by decide +kernel⟩
theorem EV (T:Tx K mg a t_LAST_TIME t_MOST_WALKERS t_MOST_ROOM t_MOST_MEETINGS t_MOST_MANY t_LONGEST_NAME t_MOST_FIGURES t_MOST_LETTERS) (B:BmAt mg base):OkD T.Dv P w base 3 (spReadRow):=by
 have Fd:=EX P w base T B
 refine T.Dv.F.ok Ec (λvs H Q E h=>?_) (λcdv A outer s H vs Q E hr h=>?_)
 ·obtain ⟨_,_,rfl,_⟩:=h;rfl
 ·have nd:=Ec.nd
  have hu:=hr.units
  obtain ⟨ns,d,rfl,ok,q⟩:=h
  refine ⟨_,(@xJ _ _ _ (@xN _ _ _ _ _ _ (@xY _ _ _ _ _ _ _ _ (@xf _ _ _ _ (xg (xL (call_isinstS) (by rfl) T.b_isinstance zR (@xA _ _ _ (@xB _ _ _ _ _ (pv 0) (@xB _ _ _ _ _ (xv (v:=V.ty "str") rfl T.b_str zx rfl) xG rfl) rfl))))) (@xJ _ _ _ (@xT _ _ _ wE)) xO) (@xN _ _ _ _ _ _ (xM (i:=1) nd rfl rfl (wP yY PySem.F.slot_str_split PySem.F.type_str_split mt_split (pv 0) (@xA _ _ _ (@xB _ _ _ _ _ xX xG rfl)))) (@xN _ _ _ _ _ _ (xM (i:=2) nd rfl rfl (pcl Fd hr T.Dw (@xA _ _ _ (@xB _ _ _ _ _ (pv 1) (@xB _ _ _ _ _ (pe_bmC rfl PySem.F.plainAttrs_dict PySem.F.slot_dict_get PySem.F.type_dict_get (mt_dgetC rfl) (wM (v:=V.ref a.c_FORMS) (by rfl) T.m_FORMS rfl) (@xA _ _ _ (@xB _ _ _ _ _ (@xU _ _ _ _ _ _ _ (xV rfl) (pv 1) xD (λ_ _=>rfl)) xG rfl))) xG rfl) rfl)))) (@xN _ _ _ _ _ _ (@xY _ _ _ _ _ _ _ _ (pt_cmp (@pc_isN _ _ _ _ _ (pv 2))) (@xJ _ _ _ (@xT _ _ _ wE)) xO) (@xT _ _ _ (@xR _ _ _ _ (@wF _ _ _ _ _ (@xA _ _ _ (@xB _ _ _ _ _ (@xU _ _ _ _ _ _ _ (xV rfl) (pv 1) xD (λ_ _=>rfl)) (@xB _ _ _ _ _ (pv 2) xG rfl) rfl)))))))))),?_⟩
  have line:=line9
  have hf:formB K a.c_FORMS d.sort d.kinds=true:=by
   cases d with
   | W x n=>exact T.fW
   | M m=>exact T.fM
   | L l=>exact T.fL
  refine ⟨_,rfl,_,_,rfl,rfl,_,rfl,iteB0 rfl ?_⟩
  refine ⟨_,rfl,rfl,d.text ns,sp1,rfl,rfl,by decide +kernel,by have:=ok.short;omega,λlw hlw=>?_⟩
  rw [ok.split]
  have s1:=xE (o:=HO.lst ((d.sort::d.words ns).map V.str)) hlw
  have k1:upd H lw (HO.lst ((d.sort::d.words ns).map V.str)) lw=some (.lst ((d.sort::d.words ns).map V.str)):=xC
  generalize upd H lw (HO.lst ((d.sort::d.words ns).map V.str))=H1 at s1 k1 ⊢
  refine ⟨_,rfl,a.c_FORMS,rfl,T.fC,_,rfl,lw,_,_,_,rfl,rfl,SqL.of k1,at_zero,a.c_FORMS,_,_,rfl,rfl,hf,λpf hpf=>?_⟩
  refine ⟨lw,pf,d.sort,d.words ns,d.kinds,d.parts ns,rfl,k1,hpf,ok.parts,by cases d <;> simp [Row7.kinds],λl H2 s2 hl2 kl2=>?_⟩
  have fl:H l=none:=s1.free hl2
  refine ⟨_,rfl,_,rfl,iteB0 rfl ?_⟩
  refine ⟨_,rfl,lw,_,_,_,rfl,rfl,SqL.of (s2 _ _ k1),at_zero,_,rfl,by show 2<=sizeLine;omega,λp hp=>?_⟩
  have s3:=xE (o:=HO.tup [V.str d.sort,V.ref l]) hp
  exact q p l _ ((s1.trans s2).trans s3) ((s1.trans s2).free hp) fl ⟨xC,s3 _ _ kl2⟩
theorem Ef:FnScope ["thing"] ["thing"] (defScope Ds):=⟨rfl,rfl,rfl,by decide +kernel,rfl,by decide +kernel,by decide +kernel⟩
theorem EY (T:Tx K mg a t_LAST_TIME t_MOST_WALKERS t_MOST_ROOM t_MOST_MEETINGS t_MOST_MANY t_LONGEST_NAME t_MOST_FIGURES t_MOST_LETTERS) (B:BmAt mg base):OkD T.Dx P w base 1 (spWhole):=by
 refine T.Dx.F.ok Ef (λvs H Q E h=>?_) (λcdv A outer s H vs Q E hr h=>?_)
 ·obtain ⟨x,t,rfl,_⟩:=h;rfl
 ·have nd:=Ef.nd
  have hu:=hr.units
  obtain ⟨x,t,rfl,ht,k⟩:=h
  refine ⟨_,(@xJ _ _ _ (@xT _ _ _ (@xR _ _ _ _ (@pe_and _ _ _ _ _ _ _ (xL (xa) (by rfl) T.b_isinstance zR (@xA _ _ _ (@xB _ _ _ _ _ (pv 0) (@xB _ _ _ _ _ (xv (v:=V.ty "int") rfl T.b_int PyProof.Rows.boot_int rfl) xG rfl) rfl))) (@pe_one _ _ _ _ _ (@pe_not _ _ _ _ (xL (xa) (by rfl) T.b_isinstance zR (@xA _ _ _ (@xB _ _ _ _ _ (pv 0) (@xB _ _ _ _ _ (xv (v:=V.ty "bool") rfl T.b_bool PyProof.Rows.boot_bool rfl) xG rfl) rfl))))))))),?_⟩
  refine ⟨_,rfl,x,t, "int", rfl,ht,.inl rfl,_,rfl,?_⟩
  rcases tyS_six ht with rfl | rfl | rfl | rfl | rfl | rfl | rfl <;> first | exact iteB0 rfl k | exact iteB1 rfl ⟨_,rfl,x,_, "bool", rfl,ht,.inr (.inl rfl),_,rfl,k⟩
theorem DQ:FnScope ["thing", "least", "most"] ["thing", "least", "most"] (defScope Cw):=⟨rfl,rfl,rfl,by decide +kernel,rfl,by decide +kernel,by decide +kernel⟩
theorem Bb (T:Tx K mg a t_LAST_TIME t_MOST_WALKERS t_MOST_ROOM t_MOST_MEETINGS t_MOST_MANY t_LONGEST_NAME t_MOST_FIGURES t_MOST_LETTERS) (B:BmAt mg base):OkD T.Ag P w base 2 (spWithin):=by
 have Fe:=EY P w base T B
 refine T.Ag.F.ok DQ (λvs H Q E h=>?_) (λcdv A outer s H vs Q E hr h=>?_)
 ·obtain ⟨x,t,lo,hi,rfl,_⟩:=h;rfl
 ·have nd:=DQ.nd
  have hu:=hr.units
  obtain ⟨x,t,lo,hi,rfl,ht,k⟩:=h
  refine ⟨_,(@xJ _ _ _ (@xT _ _ _ (@xR _ _ _ _ (@pe_and _ _ _ _ _ _ _ (pcl Fe hr T.Dx (@xA _ _ _ (@xB _ _ _ _ _ (pv 0) xG rfl))) (@pe_one _ _ _ _ _ (pe_chain op_le op_le (pv 1) (pv 0) (pv 2))))))),?_⟩
  refine ⟨_,rfl,x,t,rfl,ht,_,rfl,?_⟩
  by_cases h:t = "int"
  ·subst h
   obtain ⟨i,rfl⟩:=tyS_int ht
   refine iteB1 rfl ⟨_,rfl,_,rfl,_,_,rfl,rfl,_,rfl,?_⟩
   have k:Q (.bl (decide (lo<=i) && decide (i<=hi))) H:=k
   by_cases h1:lo<=i
   ·rw [decide_eq_true h1] at k ⊢
    exact iteB1 rfl ⟨_,rfl,_,_,rfl,rfl,k⟩
   ·rw [decide_eq_false h1] at k ⊢
    exact iteB0 rfl k
  ·rw [inB_no ht h] at k
   exact iteB0 (by simpa using h) k
theorem DT:FnScope ["thing"] ["thing"] (defScope BD):=⟨rfl,rfl,rfl,by decide +kernel,rfl,by decide +kernel,by decide +kernel⟩
theorem EK (T:Tx K mg a t_LAST_TIME t_MOST_WALKERS t_MOST_ROOM t_MOST_MEETINGS t_MOST_MANY t_LONGEST_NAME t_MOST_FIGURES t_MOST_LETTERS) (B:BmAt mg base):OkD T.CK P w base 3 (spAreRooms):=by
 have Ae:=Bb P w base T B
 refine T.CK.F.ok DT (λvs H Q E h=>?_) (λcdv A outer s H vs Q E hr h=>?_)
 ·obtain ⟨p,rooms,rfl,_⟩:=h;rfl
 ·have nd:=DT.nd
  have hu:=hr.units
  obtain ⟨p,rooms,rfl,hp,h1,h12,hr9,q⟩:=h
  refine ⟨_,(@xJ _ _ _ (@xN _ _ _ _ _ _ (@xY _ _ _ _ _ _ _ _ (@PW.pt _ _ _ (@wN _ _ _ _ _ _ _ (@xf _ _ _ _ (xg (xL (xa) (by rfl) T.b_isinstance zR (@xA _ _ _ (@xB _ _ _ _ _ (pv 0) (@xB _ _ _ _ _ (xv (v:=V.ty "list") rfl T.b_list yR rfl) xG rfl) rfl))))) (@wD _ _ _ _ (@xf _ _ _ _ (pt_chain op_le op_le xD (xL (xP rfl) (by rfl) T.b_len PySem.boot_len (@xA _ _ _ (@xB _ _ _ _ _ (pv 0) xG rfl))) (wM (v:=V.int 12) rfl T.c_MOST_WALKERS ⟨_,rfl⟩)))))) (@xJ _ _ _ (@xT _ _ _ (@xR _ _ _ _ pe_bl))) xO) (@xT _ _ _ (@xR _ _ _ _ (xL (call_all rfl rfl) (by rfl) T.b_all yg (@xA _ _ _ (@xB _ _ _ _ _ (pe_comp (own:=["room"]) (caps:=[]) rfl (show CompScope ["room"] [] ["thing"] (defScope BD) _ from ⟨rfl,by decide +kernel,by decide +kernel,by decide +kernel,by decide +kernel⟩) (@xm _ _ _ _ _ rfl (pv 0)) (λ_ _ _ _=>(xI (i:=0) (show List.Nodup (["room"]:List Str) from by decide +kernel) rfl rfl)) (λ_ _ _ _=>xz) (λ_ _ _ _=>(pcl Ae hr T.Ag (@xA _ _ _ (@xB _ _ _ _ _ (pv 0) (@xB _ _ _ _ _ xD (@xB _ _ _ _ _ (wM (v:=V.int 99) rfl T.c_MOST_ROOM ⟨_,rfl⟩) xG rfl) rfl) rfl))))) xG rfl))))))),?_⟩
  have line:=line9
  refine (zr rfl ⟨_, "list", "list", rfl,tyS_lst hp,.inr (.inr (.inl rfl)),zr rfl (iteB0 rfl ?_)⟩)
  simp only [gTup,gCons,gNil,tYes,tBM,rAppend,gSub,tAugS,ipI,rU,rIxL,rIxT,rSetL,tSeq,tAsg,tIfS,tRet,tOp,tUn,rI0,rI,tVar,tC,gName,tCall,tCB,tCons,tNil,tAndV,tOrV,tNotV,tNext,tTest,tB,tNot,tAnd,tOr,tDrop,rEq,rNe,scal,scN,scI,scB,tChain,tTup,tLst,tSl,tNoPart,tPart,cxOf,L2.start,zu,yX,zV,zy,yw,yx,List.replicate,yp,yU,zi,yP,yF,Option.some.injEq,exists_eq_left',exists_eq_left,exists_and_left,and_assoc,V.int.injEq,V.ty.injEq,V.str.injEq,V.bl.injEq,V.ref.injEq,List.cons.injEq,and_true,true_and,yd,ye]
  refine ⟨_,.inl (SqL.of hp),iteB1 (decide_eq_true (by rw [zA];omega)) (iteB0 (by rw [decide_eq_true (by rw [zA];omega)];rfl) ?_)⟩
  refine (zr rfl ⟨p,rfl,⟨_,SqL.of hp⟩,?_⟩)
  refine x8 (K:=K) (a:=p) (xs:=rooms.map V.int) (λi τ acc H5=>(∃ t0,τ=[t0])/\acc=(List.replicate i true).map V.bl/\H5=H) ⟨⟨_,rfl⟩,rfl,rfl⟩ (by rw [zA];omega) ?_ ?_ ?_
  ·rintro i τ acc H5 ⟨⟨t0,rfl⟩,rfl,rfl⟩
   exact ⟨by simp,SqL.of hp⟩
  ·rintro i x τ acc H5 C hx ⟨⟨t0,rfl⟩,rfl,rfl⟩ hC
   obtain ⟨r,hr,rfl⟩:=xW hx
   have snoc:(List.replicate i true).map V.bl++[V.bl true]=(List.replicate (i + 1) true).map V.bl:=by
    rw [List.replicate_succ',zC];rfl
   obtain ⟨r0,r1⟩:=hr9 r (zB hr)
   have e:inB 0 99 (.int r)=true:=by simp [inB,r0,r1]
   refine (zr rfl ⟨.int r, "int", 0,99,rfl,rfl,?_⟩)
   rw [e]
   exact hC _ _ _ ⟨⟨_,rfl⟩,snoc,rfl⟩
  ·rintro τ acc H5 ⟨⟨t0,rfl⟩,rfl,rfl⟩ lc hlc
   refine ⟨lc,rfl,_,SqL.of xC,?_⟩
   have:=q _ (xE (o:=HO.lst ((List.replicate (rooms.map V.int).length true).map V.bl)) hlc)
   have a:(List.replicate (rooms.map V.int).length true).all id=true:=by simp
   rw [a]
   exact this
theorem Dl:FnScope ["walkers", "thing", "one", "other", "when", "many"] ["walkers", "thing"] (defScope B1):=⟨rfl,rfl,rfl,by decide +kernel,rfl,by decide +kernel,by decide +kernel⟩
theorem Ew (T:Tx K mg a t_LAST_TIME t_MOST_WALKERS t_MOST_ROOM t_MOST_MEETINGS t_MOST_MANY t_LONGEST_NAME t_MOST_FIGURES t_MOST_LETTERS) (B:BmAt mg base):OkD T.B5 P w base 3 (spIsMeet):=by
 have Ae:=Bb P w base T B
 refine T.B5.F.ok Dl (λvs H Q E h=>?_) (λcdv A outer s H vs Q E hr h=>?_)
 ·obtain ⟨w,t,r,rfl,_⟩:=h;rfl
 ·have nd:=Dl.nd
  have hu:=hr.units
  obtain ⟨w,t,r,rfl,ht,⟨a1,a2,a3,a4,a5,a6,a7,a8,a9⟩,q⟩:=h
  refine ⟨_,(@xJ _ _ _ (@xN _ _ _ _ _ _ (@xY _ _ _ _ _ _ _ _ (@PW.pt _ _ _ (@wN _ _ _ _ _ _ _ (@xf _ _ _ _ (xg (xL (xa) (by rfl) T.b_isinstance zR (@xA _ _ _ (@xB _ _ _ _ _ (pv 1) (@xB _ _ _ _ _ (xv (v:=V.ty "tuple") rfl T.b_tuple zq rfl) xG rfl) rfl))))) (@wD _ _ _ _ (@xS _ _ _ _ _ _ _ _ op_ne (xL (xP rfl) (by rfl) T.b_len PySem.boot_len (@xA _ _ _ (@xB _ _ _ _ _ (pv 1) xG rfl))) xD (nomark _))))) (@xJ _ _ _ (@xT _ _ _ (@xR _ _ _ _ pe_bl))) xO) (@xN _ _ _ _ _ _ (ps_asg (pv 1) (xq (n:=4) rfl rfl (xK (xI (i:=2) nd rfl rfl) (xK (xI (i:=3) nd rfl rfl) (xK (xI (i:=4) nd rfl rfl) (xK (xI (i:=5) nd rfl rfl) xi)))))) (@xN _ _ _ _ _ _ (@xY _ _ _ _ _ _ _ _ (@PW.pt _ _ _ (@wN _ _ _ _ _ _ _ (@xf _ _ _ _ (xg (pcl Ae hr T.Ag (@xA _ _ _ (@xB _ _ _ _ _ (pv 2) (@xB _ _ _ _ _ xD (@xB _ _ _ _ _ (@xQ _ _ _ _ _ _ _ _ op_sub (pv 0) xD) xG rfl) rfl) rfl))))) (@wD _ _ _ _ (@xf _ _ _ _ (xg (pcl Ae hr T.Ag (@xA _ _ _ (@xB _ _ _ _ _ (pv 3) (@xB _ _ _ _ _ xD (@xB _ _ _ _ _ (@xQ _ _ _ _ _ _ _ _ op_sub (pv 0) xD) xG rfl) rfl) rfl)))))))) (@xJ _ _ _ (@xT _ _ _ (@xR _ _ _ _ pe_bl))) xO) (@xT _ _ _ (@xR _ _ _ _ (@pe_and _ _ _ _ _ _ _ (@pe_cmpR _ _ _ _ _ _ _ _ op_ne (pv 2) (pv 3) (nomark _)) (@pe_and _ _ _ _ _ _ _ (pcl Ae hr T.Ag (@xA _ _ _ (@xB _ _ _ _ _ (pv 4) (@xB _ _ _ _ _ xD (@xB _ _ _ _ _ (wM (v:=V.int 1000000000) rfl T.c_LAST_TIME ⟨_,rfl⟩) xG rfl) rfl) rfl))) (@pe_one _ _ _ _ _ (pcl Ae hr T.Ag (@xA _ _ _ (@xB _ _ _ _ _ (pv 5) (@xB _ _ _ _ _ xD (@xB _ _ _ _ _ (wM (v:=V.int 99) rfl T.c_MOST_MANY ⟨_,rfl⟩) xG rfl) rfl) rfl)))))))))))),?_⟩
  have ht':H t=some (.tup [.int r.lo,.int r.hi,.int r.t,.int r.m]):=ht
  have e1:inB 0 (w - 1) (.int r.lo)=true:=by
   have:r.lo<=w - 1:=by omega
   simp [inB,a1,this]
  have e2:inB 0 (w - 1) (.int r.hi)=true:=by
   have:r.hi<=w - 1:=by omega
   simp [inB,a3,this]
  have e3:inB 1 1000000000 (.int r.t)=true:=by simp [inB,a6,a7]
  have e4:inB 1 99 (.int r.m)=true:=by simp [inB,a8,a9]
  refine (zr rfl ⟨_, "tuple", "tuple", rfl,tyS_tup ht',.inr (.inr (.inr rfl)),zr rfl (iteB0 rfl ?_)⟩)
  refine (zr rfl ⟨t,zr rfl ⟨.inr (SqT.of ht'),rfl,zr rfl (iteB0 rfl ?_)⟩⟩)
  refine (zr rfl (un4 ht' ?_))
  refine (zr rfl (zr rfl (zr2 rfl rfl ⟨.int r.lo, "int", zr2 rfl rfl (zr rfl ?_)⟩)))
  rw [e1]
  refine iteB0 rfl (zr rfl (zr rfl (zr2 rfl rfl ⟨.int r.hi, "int", zr2 rfl rfl (zr rfl ?_)⟩)))
  rw [e2]
  refine iteB0 rfl (zr rfl (zr rfl ⟨rfl,zr rfl (iteB1 (by simp [a5]) (zr rfl ⟨.int r.t, "int", zr2 rfl rfl (zr rfl ?_)⟩))⟩))
  rw [e3]
  refine iteB1 rfl (zr rfl ⟨.int r.m, "int", zr2 rfl rfl ?_⟩)
  rw [e4]
  exact q
theorem Az:FnScope ["meetings", "seen", "one", "other", "when", "many"] ["meetings"] (defScope wA):=⟨rfl,rfl,rfl,by decide +kernel,rfl,by decide +kernel,by decide +kernel⟩
theorem B9 (T:Tx K mg a t_LAST_TIME t_MOST_WALKERS t_MOST_ROOM t_MOST_MEETINGS t_MOST_MANY t_LONGEST_NAME t_MOST_FIGURES t_MOST_LETTERS) (B:BmAt mg base):OkD T.Am P w base 1 (spTwice):=by
 refine T.Am.F.ok Az (λvs H Q E h=>?_) (λcdv A outer s H vs Q E hr h=>?_)
 ·obtain ⟨l,fs,w,rfl,_⟩:=h;rfl
 ·have nd:=Az.nd
  have hu:=hr.units
  obtain ⟨l,fs,w0,rfl,hL,raw,q⟩:=h
  refine ⟨_,(@xJ _ _ _ (@xN _ _ _ _ _ _ (xM (i:=1) nd rfl rfl (pe_callTy0 call_setNew (by rfl) T.b_set PyProof.Rows.boot_set)) (@xN _ _ _ _ _ _ (wO PassesOwn.never rfl (@xm _ _ _ _ _ rfl (pv 0)) (xq (n:=4) rfl rfl (xK (xI (i:=2) nd rfl rfl) (xK (xI (i:=3) nd rfl rfl) (xK (xI (i:=4) nd rfl rfl) (xK (xI (i:=5) nd rfl rfl) xi))))) (@xJ _ _ _ (@xN _ _ _ _ _ _ (@xY _ _ _ _ _ _ _ _ (@PW.pt _ _ _ (@wN _ _ _ _ _ _ _ (@xS _ _ _ _ _ _ _ _ (op_inS hu) (@wF _ _ _ _ _ (@xA _ _ _ (@xB _ _ _ _ _ (pv 2) (@xB _ _ _ _ _ (pv 4) xG rfl) rfl))) (pv 1) rfl) (@wD _ _ _ _ (@xS _ _ _ _ _ _ _ _ (op_inS hu) (@wF _ _ _ _ _ (@xA _ _ _ (@xB _ _ _ _ _ (pv 3) (@xB _ _ _ _ _ (pv 4) xG rfl) rfl))) (pv 1) rfl)))) (@xJ _ _ _ (@xT _ _ _ (@xR _ _ _ _ pe_bl))) xO) (@xN _ _ _ _ _ _ (xx (pe_bmS PySem.F.slot_set_add PySem.F.type_set_add (mt_addS hu) (pv 1) (@xA _ _ _ (@xB _ _ _ _ _ (@wF _ _ _ _ _ (@xA _ _ _ (@xB _ _ _ _ _ (pv 2) (@xB _ _ _ _ _ (pv 4) xG rfl) rfl))) xG rfl)))) (@xT _ _ _ (xx (pe_bmS PySem.F.slot_set_add PySem.F.type_set_add (mt_addS hu) (pv 1) (@xA _ _ _ (@xB _ _ _ _ _ (@wF _ _ _ _ _ (@xA _ _ _ (@xB _ _ _ _ _ (pv 3) (@xB _ _ _ _ _ (pv 4) xG rfl) rfl))) xG rfl))))))))) (@xT _ _ _ (@xR _ _ _ _ pe_bl))))),?_⟩
  have line:=line9
  have n60:fs.length<=60:=by have:=raw.few;rw [zA] at this;exact this
  refine ⟨rfl,λsp hsp=>?_⟩
  refine (zr rfl ⟨l,rfl,⟨_,(xE hsp).seq (SqL.of hL.1)⟩,?_⟩)
  refine for_list (K:=K) (a:=l) (xs:=fs.map λa=>V.ref a.1) (λi σ H5=>∃ xs:List (Addr×List Int),(∃ v2 v3 v4 v5,σ=[some (.ref l),some (.ref sp),v2,v3,v4,v5])/\Same H H5/\H5 sp=some (setO P w sp xs)/\(∀ e∈xs,H5 e.1=some (.tup (e.2.map V.int)))/\xs.length<=2 * i/\∀ e∈xs,∃ j,j < i/\∃ r,fs[j]?=some r/\(e.2=[r.2.lo,r.2.t]\/e.2=[r.2.hi,r.2.t])) ?_ ?_ ?_ ?_
  ·exact ⟨[],⟨_,_,_,_,rfl⟩,xE hsp,xC,(λ_ z=>nomatch z),zf _,λ_ z=>nomatch z⟩
  ·rintro i σ H5 _ ⟨xs,_,sm,_⟩
   exact sm.seq (SqL.of hL.1)
  ·rintro i x σ H5 hx ⟨xs,⟨v2,v3,v4,v5,rfl⟩,sm,hs,hk,few,old⟩
   obtain ⟨r,hr,rfl⟩:=xW hx
   have hi:i < fs.length:=(zT.mp hr).1
   have hrow:H5 r.1=some (.tup [.int r.2.lo,.int r.2.hi,.int r.2.t,.int r.2.m]):=sm _ _ (hL.2 r (zB hr))
   have fresh:∀ k,(k=[r.2.lo,r.2.t]\/k=[r.2.hi,r.2.t])->k ∉ xs.map (·.2):=λk hk2 z=>by
    obtain ⟨e,he,rfl⟩:=zO.mp z
    obtain ⟨j,hj,r',hr',h⟩:=old e he
    have hj':j < fs.length:=by omega
    have ap:(fs.map (·.2))[j]'(by rw [zA];exact hj')=r'.2/\(fs.map (·.2))[i]'(by rw [zA];exact hi)=r.2:=by
     constructor
     ·have:=(zT.mp hr').2
      rw [List.getElem_map,this]
     ·have:=(zT.mp hr).2
      rw [List.getElem_map,this]
    have pw:=zt.mp raw.pw j i (by rw [zA];exact hj') (by rw [zA];exact hi) hj
    rw [ap.1,ap.2] at pw
    have apt:r'.2.t=r.2.t->apart r'.2 r.2:=pw
    rcases h with h | h <;> rcases hk2 with hk2 | hk2 <;> (rw [h] at hk2;injection hk2 with q1 q2;injection q2 with q2 _;have:=apt q2;unfold apart at this;omega)
   refine (un4 hrow ?_)
   have nsp:∀ {t:Addr} {H9:Hp}{o:HO},H9 sp=some o->H9 t=none->t≠sp:=λa b z=>by rw [z,a] at b;cases b
   refine (zr rfl (zr rfl ⟨by show 2<=sizeLine;omega,λt1 ht1=>(zr rfl ⟨sp,xs,t1,[r.2.lo,r.2.t],rfl,rfl,?_,xC,λe he=>xE ht1 _ _ (hk e he),zr rfl ?_⟩)⟩))
   ·rw [xH (nsp hs ht1).symm];exact hs
   rw [decide_eq_false (fresh _ (.inl rfl))]
   have s1:=xE (o:=HO.tup [V.int r.2.lo,V.int r.2.t]) ht1
   have hs1:=s1 _ _ hs
   have hk1:=λe he=>s1 _ _ (hk e he)
   generalize upd H5 t1 (HO.tup [V.int r.2.lo,V.int r.2.t])=H6 at *
   refine iteB0 rfl (zr rfl (zr rfl ⟨by show 2<=sizeLine;omega,λt2 ht2=>(zr rfl ⟨sp,xs,t2,[r.2.hi,r.2.t],rfl,rfl,xE ht2 _ _ hs1,xC,λe he=>xE ht2 _ _ (hk1 e he),zr rfl ?_⟩)⟩))
   rw [decide_eq_false (fresh _ (.inr rfl))]
   have s2:=s1.trans (xE (o:=HO.tup [V.int r.2.hi,V.int r.2.t]) ht2)
   have hs2:=xE (o:=HO.tup [V.int r.2.hi,V.int r.2.t]) ht2 _ _ hs1
   have hk2:=λe he=>xE (o:=HO.tup [V.int r.2.hi,V.int r.2.t]) ht2 _ _ (hk1 e he)
   generalize upd H6 t2 (HO.tup [V.int r.2.hi,V.int r.2.t])=H7 at *
   refine iteB0 rfl ?_
   have ne:r.2.lo≠r.2.hi:=(raw.each r.2 (zO.mpr ⟨r,zB hr,rfl⟩)).2.2.2.2.1
   refine (zr rfl ⟨⟨sp,xs,rfl,hs2⟩,zr rfl (zr rfl ⟨by show 2<=sizeLine;omega,λt3 ht3=>⟨sp,xs,t3,[r.2.lo,r.2.t],rfl,rfl,xE ht3 _ _ hs2,xC,λe he=>xE ht3 _ _ (hk2 e he),by omega,λz=>absurd z (fresh _ (.inl rfl)),λ_=>?_⟩⟩)⟩)
   have s3:=(sm.trans s2).trans (xE (o:=HO.tup [V.int r.2.lo,V.int r.2.t]) ht3)
   have s3':=Same.put (o:=setO P w sp (xs++[(t3,[r.2.lo,r.2.t])])) hsp s3
   have n3:t3≠sp:=λz=>by rw [z,hs2] at ht3;cases ht3
   have hk3:∀ e∈xs++[(t3,[r.2.lo,r.2.t])],upd (upd H7 t3 (HO.tup [V.int r.2.lo,V.int r.2.t])) sp (setO P w sp (xs++[(t3,[r.2.lo,r.2.t])])) e.1=some (.tup (e.2.map V.int)):=λe he=>by
    rcases zZ.mp he with h | h
    ·have h1:=hk2 e h
     rw [xH (ne_of h1 hs2 (by intro z;cases z))]
     exact xE ht3 _ _ h1
    ·cases zP.mp h
     show upd (upd H7 t3 _) sp _ t3=_
     rw [xH n3];exact xC
   have hs8:upd (upd H7 t3 (HO.tup [V.int r.2.lo,V.int r.2.t])) sp (setO P w sp (xs++[(t3,[r.2.lo,r.2.t])])) sp=some (setO P w sp (xs++[(t3,[r.2.lo,r.2.t])])):=xC
   refine (zr rfl ⟨⟨sp,zr rfl hs8⟩,zr rfl (zr rfl ⟨by show 2<=sizeLine;omega,λt4 ht4=>⟨sp,xs++[(t3,[r.2.lo,r.2.t])],t4,[r.2.hi,r.2.t],rfl,rfl,xE ht4 _ _ hs8,xC,λe he=>xE ht4 _ _ (hk3 e he),by rw [zI,zm];omega,λz=>?_,λ_=>?_⟩⟩)⟩)
   ·exfalso
    rw [zC] at z
    rcases zZ.mp z with z | z
    ·exact fresh _ (.inr rfl) z
    ·have z:=zP.mp z
     injection z with z _
     exact ne z.symm
   have n4:t4≠sp:=λz=>by subst z;exact absurd (hs8.symm.trans ht4) (by intro h;cases h)
   refine ⟨xs++[(t3,[r.2.lo,r.2.t])]++[(t4,[r.2.hi,r.2.t])],⟨_,_,_,_,rfl⟩,Same.put hsp (s3'.trans (xE ht4)),xC,λe he=>?_,by rw [zI,zI,zm,zm];omega,λe he=>?_⟩
   ·rcases zZ.mp he with h | h
    ·have h1:=hk3 e h
     rw [xH (ne_of h1 hs8 (by intro z;cases z))]
     exact xE ht4 _ _ h1
    ·cases zP.mp h
     show upd (upd _ t4 _) sp _ t4=_
     rw [xH n4];exact xC
   ·rcases zZ.mp he with h | h
    ·rcases zZ.mp h with h | h
     ·obtain ⟨j,hj,r',hr',e'⟩:=old e h
      exact ⟨j,by omega,r',hr',e'⟩
     ·cases zP.mp h
      exact ⟨i,by omega,r,hr,.inl rfl⟩
    ·cases zP.mp h
     exact ⟨i,by omega,r,hr,.inr rfl⟩
  ·rintro σ H5 ⟨xs,⟨v2,v3,v4,v5,rfl⟩,sm,_⟩
   exact q _ sm
theorem Cr:FnScope ["meeting", "one", "other", "when", "many"] ["meeting"] (defScope Bi):=⟨rfl,rfl,rfl,by decide +kernel,rfl,by decide +kernel,by decide +kernel⟩
theorem El (T:Tx K mg a t_LAST_TIME t_MOST_WALKERS t_MOST_ROOM t_MOST_MEETINGS t_MOST_MANY t_LONGEST_NAME t_MOST_FIGURES t_MOST_LETTERS) (B:BmAt mg base):OkD T.Bm P w base 1 (spLsrF):=by
 refine T.Bm.F.ok Cr (λvs H Q E h=>?_) (λcdv A outer s H vs Q E hr h=>?_)
 ·obtain ⟨t,r,rfl,_⟩:=h;rfl
 ·have nd:=Cr.nd
  have hu:=hr.units
  obtain ⟨t,r,rfl,ht,q⟩:=h
  refine ⟨_,(@xJ _ _ _ (@xN _ _ _ _ _ _ (ps_asg (pv 0) (xq (n:=4) rfl rfl (xK (xI (i:=1) nd rfl rfl) (xK (xI (i:=2) nd rfl rfl) (xK (xI (i:=3) nd rfl rfl) (xK (xI (i:=4) nd rfl rfl) xi)))))) (@xT _ _ _ (@xR _ _ _ _ (@wF _ _ _ _ _ (@xA _ _ _ (@xB _ _ _ _ _ (xL (call_min2 rfl) (by rfl) T.b_min PyProof.Rows.boot_min (@xA _ _ _ (@xB _ _ _ _ _ (pv 1) (@xB _ _ _ _ _ (pv 2) xG rfl) rfl))) (@xB _ _ _ _ _ (xL (call_max2 rfl) (by rfl) T.b_max PyProof.Rows.boot_max (@xA _ _ _ (@xB _ _ _ _ _ (pv 1) (@xB _ _ _ _ _ (pv 2) xG rfl) rfl))) (@xB _ _ _ _ _ (pv 3) (@xB _ _ _ _ _ (pv 4) xG rfl) rfl) rfl) rfl))))))),?_⟩
  have line:=line9
  have ht':H t=some (.tup [.int r.lo,.int r.hi,.int r.t,.int r.m]):=ht
  simp only [gTup,gCons,gNil,tYes,tBM,rAppend,gSub,tAugS,ipI,rU,rIxL,rIxT,rSetL,tSeq,tAsg,tIfS,tRet,tOp,tUn,rI0,rI,tVar,tC,gName,tCall,tCB,tCons,tNil,tAndV,tOrV,tNotV,tNext,tTest,tB,tNot,tAnd,tOr,tDrop,rEq,rNe,scal,scN,scI,scB,tChain,tTup,tLst,tSl,tNoPart,tPart,cxOf,L2.start,zu,yX,zV,zy,yw,yx,List.replicate,yp,yU,zi,yP,yF,Option.some.injEq,exists_eq_left',exists_eq_left,exists_and_left,and_assoc,V.int.injEq,V.ty.injEq,V.str.injEq,V.bl.injEq,V.ref.injEq,List.cons.injEq,and_true,true_and,yd,ye]
  refine ⟨_,SqT.of ht',rfl,zr1 rfl (zr1 rfl (zr1 rfl (zr2 rfl rfl (zr rfl (zr rfl (zr rfl (zr rfl ⟨by omega,λp hp=>?_⟩)))))))⟩
  have e1:(if r.hi < r.lo then r.hi else r.lo)=min r.lo r.hi:=by split <;> omega
  have e2:(if r.hi > r.lo then r.hi else r.lo)=max r.lo r.hi:=by split <;> omega
  rw [e1,e2]
  exact q p _ (xE hp) xC
theorem DP:FnScope ["rooms", "meetings", "meeting", "told"] ["rooms", "meetings"] (defScope BC):=⟨rfl,rfl,rfl,by decide +kernel,rfl,by decide +kernel,by decide +kernel⟩
theorem EH (T:Tx K mg a t_LAST_TIME t_MOST_WALKERS t_MOST_ROOM t_MOST_MEETINGS t_MOST_MANY t_LONGEST_NAME t_MOST_FIGURES t_MOST_LETTERS) (B:BmAt mg base):OkD T.CI P w base 4 (spMade a.tP lamPos):=by
 have E5:=EK P w base T B
 have EQ:=Ew P w base T B
 have Ct:=B9 P w base T B
 have Ev:=El P w base T B
 refine T.CI.F.okC T.t_cd DP (λvs H Q E h=>?_) (λA outer s H vs Q E hr h=>?_)
 ·obtain ⟨_,_,_,_,rfl,_⟩:=h;rfl
 ·have nd:=DP.nd
  have hu:=hr.units
  obtain ⟨pr,pm,rooms,fs,rfl,hp,h1,h12,hr9,hL,raw,mt,q⟩:=h
  refine ⟨_,(@xJ _ _ _ (@xN _ _ _ _ _ _ (@xY _ _ _ _ _ _ _ _ (@xf _ _ _ _ (xg (pcl E5 hr T.CK (@xA _ _ _ (@xB _ _ _ _ _ (pv 0) xG rfl))))) (@xJ _ _ _ (@xT _ _ _ wE)) xO) (@xN _ _ _ _ _ _ (@xY _ _ _ _ _ _ _ _ (@PW.pt _ _ _ (@wN _ _ _ _ _ _ _ (@xf _ _ _ _ (xg (xL (xa) (by rfl) T.b_isinstance zR (@xA _ _ _ (@xB _ _ _ _ _ (pv 1) (@xB _ _ _ _ _ (xv (v:=V.ty "list") rfl T.b_list yR rfl) xG rfl) rfl))))) (@wD _ _ _ _ (@xS _ _ _ _ _ _ _ _ op_gt (xL (xP rfl) (by rfl) T.b_len PySem.boot_len (@xA _ _ _ (@xB _ _ _ _ _ (pv 1) xG rfl))) (wM (v:=V.int 60) rfl T.c_MOST_MEETINGS ⟨_,rfl⟩) (nomark _))))) (@xJ _ _ _ (@xT _ _ _ wE)) xO) (@xN _ _ _ _ _ _ (wO PassesOwn.never rfl (@xm _ _ _ _ _ rfl (pv 1)) (xI (i:=2) nd rfl rfl) (@xJ _ _ _ (@xT _ _ _ (@xY _ _ _ _ _ _ _ _ (@xf _ _ _ _ (xg (pcl EQ hr T.B5 (@xA _ _ _ (@xB _ _ _ _ _ (xL (xP rfl) (by rfl) T.b_len PySem.boot_len (@xA _ _ _ (@xB _ _ _ _ _ (pv 0) xG rfl))) (@xB _ _ _ _ _ (pv 2) xG rfl) rfl))))) (@xJ _ _ _ (@xT _ _ _ wE)) xO)))) (@xN _ _ _ _ _ _ (@xY _ _ _ _ _ _ _ _ (xg (pcl Ct hr T.Am (@xA _ _ _ (@xB _ _ _ _ _ (pv 1) xG rfl)))) (@xJ _ _ _ (@xT _ _ _ wE)) xO) (@xN _ _ _ _ _ _ (wG (ix:=3) nd rfl rfl (own:=["meeting"]) (caps:=[]) rfl (show CompScope ["meeting"] [] ["rooms", "meetings", "meeting", "told"] (defScope BC) _ from ⟨rfl,by decide +kernel,by decide +kernel,by decide +kernel,by decide +kernel⟩) (@xm _ _ _ _ _ rfl (pv 1)) (λ_ _ _ _=>(xI (i:=0) (show List.Nodup (["meeting"]:List Str) from by decide +kernel) rfl rfl)) (λ_ _ _ _=>xz) (λ_ _ _ _=>(pcl Ev hr T.Bm (@xA _ _ _ (@xB _ _ _ _ _ (pv 0) xG rfl))))) (@xT _ _ _ (@xR _ _ _ _ (@wF _ _ _ _ _ (@xA _ _ _ (@xB _ _ _ _ _ (xh (call_tuple_of) (by rfl) T.b_tuple zq (@xA _ _ _ (@xB _ _ _ _ _ (pv 0) xG rfl))) (@xB _ _ _ _ _ (xh (call_tuple_of) (by rfl) T.b_tuple zq (@xA _ _ _ (@xB _ _ _ _ _ (pe_sortKey (N:=["row"]) (pn := "row") (ok:=(λl=>l.length=4)) (kf:=keyF) rfl T.b_sorted rfl T.t_hd B rfl rfl (hr.mono (by decide)) ⟨rfl,rfl,rfl,by decide +kernel,rfl,by decide +kernel,by decide +kernel⟩ (λ_ _ _ _=>rfl) keyF_ne (λ_ _ _ _ _=>⟨_,(@wF _ _ _ _ _ (@xA _ _ _ (@xB _ _ _ _ _ (@xU _ _ _ _ _ _ _ (xZ rfl) (pv 0) xD (λ_ _=>rfl)) (@xB _ _ _ _ _ (@xU _ _ _ _ _ _ _ (xZ rfl) (pv 0) xD (λ_ _=>rfl)) xG rfl) rfl))),(by intro a r h ho;simp only [gTup,gCons,gNil,tYes,tBM,rAppend,gSub,tAugS,ipI,rU,rIxL,rIxT,rSetL,tSeq,tAsg,tIfS,tRet,tOp,tUn,rI0,rI,tVar,tC,gName,tCall,tCB,tCons,tNil,tAndV,tOrV,tNotV,tNext,tTest,tB,tNot,tAnd,tOr,tDrop,rEq,rNe,scal,scN,scI,scB,tChain,tTup,tLst,tSl,tNoPart,tPart,cxOf,L2.start,zu,yX,zV,zy,yw,yx,List.replicate,yp,yU,zi,yP,yF,Option.some.injEq,exists_eq_left',exists_eq_left,exists_and_left,and_assoc,V.int.injEq,V.ty.injEq,V.str.injEq,V.bl.injEq,V.ref.injEq,List.cons.injEq,and_true,true_and,yd,ye];exact lam_key h ho)⟩) (pv 3) rfl) xG rfl))) xG rfl) rfl))))))))))),?_⟩
  have line:=line9
  have n60:fs.length<=60:=by have:=raw.few;rw [zA] at this;exact this
  refine (zr rfl ⟨pr,rooms,rfl,hp,h1,h12,hr9,λH1 s1=>(zr rfl (iteB0 rfl ?_))⟩)
  refine (zr rfl ⟨_, "list", "list", rfl,tyS_lst (s1 _ _ hL.1),.inr (.inr (.inl rfl)),zr rfl (iteB0 rfl ?_)⟩)
  refine (zr rfl ⟨pm,zr rfl ⟨.inl (SqL.of (s1 _ _ hL.1)),zr2 rfl rfl (zr rfl (iteB0 (decide_eq_false (by rw [zA];omega)) ?_))⟩⟩)
  refine (zr rfl ⟨pm,rfl,⟨_,SqL.of (s1 _ _ hL.1)⟩,?_⟩)
  refine for_list (K:=K) (a:=pm) (xs:=fs.map λa=>V.ref a.1) (λi σ H5=>(∃ v2,σ=[some (.ref pr),some (.ref pm),v2,none])/\H1=H5) ⟨⟨_,rfl⟩,rfl⟩ ?_ ?_ ?_
  ·rintro i σ H5 _ ⟨_,rfl⟩
   exact SqL.of (s1 _ _ hL.1)
  ·rintro i x σ H5 hx ⟨⟨v2,rfl⟩,rfl⟩
   obtain ⟨r,hr,rfl⟩:=xW hx
   have hm:=zB hr
   refine (zr rfl ⟨pr,zr rfl ⟨.inl (SqL.of (s1 _ _ hp)),zr rfl ⟨_,r.1,r.2,rfl,s1 _ _ (hL.2 r hm),?_,zr rfl (iteB0 rfl ⟨⟨_,rfl⟩,rfl⟩)⟩⟩⟩)
   rw [zA]
   exact raw.each r.2 (zO.mpr ⟨r,hm,rfl⟩)
  rintro σ H5 ⟨⟨v2,rfl⟩,rfl⟩
  refine (zr rfl ⟨pm,fs,zr rfl ⟨hL.same s1,raw,λH2 s2=>(zr rfl (iteB0 rfl ?_))⟩⟩)
  have s12:=s1.trans s2
  refine (zr rfl ⟨pm,rfl,⟨_,SqL.of (s12 _ _ hL.1)⟩,?_⟩)
  refine x8 (K:=K) (a:=pm) (xs:=fs.map λa=>V.ref a.1) (λi τ acc H5=>∃ ts:List (Addr×M4),(∃ t0,τ=[t0])/\acc=(ts.map λa=>V.ref a.1)/\ts.map (·.2)=(fs.take i).map (λa=>a.2.norm)/\RowsAt H5 ts/\Same H H5) ⟨[],⟨_,rfl⟩,rfl,rfl,(λ_ z=>nomatch z),s12⟩ (by rw [zA];omega) ?_ ?_ ?_
  ·rintro i τ acc H5 ⟨ts,⟨t0,rfl⟩,rfl,ets,rw5,sm⟩
   have:=congrArg List.length ets
   rw [zA,zA,zY] at this
   exact ⟨by rw [zA];omega,SqL.of (sm _ _ hL.1)⟩
  ·rintro i x τ acc H5 C hx ⟨ts,⟨t0,rfl⟩,rfl,ets,rw5,sm⟩ hC
   obtain ⟨r,hr,rfl⟩:=xW hx
   refine (zr rfl ⟨r.1,r.2,rfl,sm _ _ (hL.2 r (zB hr)),λt' H6 s6 ht'=>hC _ _ _ ⟨ts++[(t',r.2.norm)],⟨_,rfl⟩,by rw [zC];rfl,by rw [zC,xt hr,zC,ets];rfl,λa ha=>?_,sm.trans s6⟩⟩)
   rcases zZ.mp ha with h | h
   ·exact s6 _ _ (rw5 a h)
   ·cases zP.mp h
    exact ht'
  rintro τ acc H5 ⟨ts,⟨t0,rfl⟩,rfl,ets,rw5,sm⟩ lt hlt
  rw [zA,yV] at ets
  have lts:ts.length=fs.length:=by have:=congrArg List.length ets;rwa [zA,zA] at this
  have sn:=xE (o:=HO.lst (ts.map λa=>V.ref a.1)) hlt
  have h6:upd H5 lt (HO.lst (ts.map λa=>V.ref a.1)) lt=some (.lst (ts.map λa=>V.ref a.1)):=xC
  have s6:=sm.trans sn
  have rw6:=rw5.tups (Tups.same sn)
  generalize upd H5 lt (HO.lst (ts.map λa=>V.ref a.1))=H6 at *
  refine (zr rfl ⟨pr,zr rfl (.inl ⟨SqL.of (s6 _ _ hp),λtr htr=>?_⟩)⟩)
  have s7:=xE (o:=HO.tup (rooms.map V.int)) htr
  have h7r:upd H6 tr (HO.tup (rooms.map V.int)) tr=some (.tup (rooms.map V.int)):=xC
  have rw7:=rw6.tups (Tups.same s7)
  have h7:=s7 _ _ h6
  generalize upd H6 tr (HO.tup (rooms.map V.int))=H7 at *
  have m7:=L2.MT.same mt (s6.trans s7)
  refine (zr rfl ⟨lt,ts.map (λa=>(a.1,a.2.ints)),rfl,by rw [zp];exact h7,by rw [zA];omega,m7,λx hx=>?_,λl qs H8 hl8 b8 m8 h8 pm8 so8=>?_⟩)
  ·obtain ⟨y,hy,rfl⟩:=zO.mp hx
   exact ⟨rw7 y hy,rfl⟩
  obtain ⟨ps,pps,sps,rfl⟩:=keyed_back pm8 so8
  have gd:Good rooms.length (ps.map (·.2)):=by
   refine Loose.good2 ?_ pps sps
   have:=raw.loose
   rw [zp] at this
   rw [ets];exact this
  refine ⟨l,zr rfl (.inl ⟨SqL.of h8,λtm htm=>⟨by show 2<=sizeLine;omega,λb hb=>?_⟩⟩)⟩
  have neT:∀ x u,H7 x=some u->(∀ ys,u≠.tbl ys)->x≠a.tP:=λx u e n z=>by
   rcases m7 with m | ⟨_,m,_⟩ <;> (rw [z,m] at e;cases e;exact n _ rfl)
  have s9:=(xE (o:=HO.tup (List.map (λa=>V.ref a.1) (List.map (λa:Addr×M4=>(a.1,a.2.ints)) ps))) htm).trans (xE (o:=HO.tup [V.ref tr,V.ref tm]) hb)
  refine q b tr tm ps _ (λx u n e=>s9 _ _ (b8 x u n (s7 _ _ (s6 _ _ e)))) (L2.MT.same m8 s9) ⟨xC,s9 _ _ (b8 _ _ (neT _ _ h7r (by intro ys z;cases z)) h7r),?_,λx hx=>?_⟩ gd ?_
  ·rw [xH (xF xC hb),xC,zp];rfl
  ·have h0:=rw7 x (pps.mem_iff.mp hx)
   exact s9 _ _ (b8 _ _ (neT _ _ h0 (by intro ys z;cases z)) h0)
  ·have:=pps.map (·.2)
   rw [ets] at this
   exact this
theorem DO:FnScope ["names", "name"] ["names", "name"] (defScope Cv):=⟨rfl,rfl,rfl,by decide +kernel,rfl,by decide +kernel,by decide +kernel⟩
theorem DZ (T:Tx K mg a t_LAST_TIME t_MOST_WALKERS t_MOST_ROOM t_MOST_MEETINGS t_MOST_MANY t_LONGEST_NAME t_MOST_FIGURES t_MOST_LETTERS) (B:BmAt mg base):OkD T.Ax P w base 1 (spNumberIn):=by
 refine T.Ax.F.ok DO (λvs H Q E h=>?_) (λcdv A outer s H vs Q E hr h=>?_)
 ·obtain ⟨_,_,_,rfl,_⟩:=h;rfl
 ·have nd:=DO.nd
  have hu:=hr.units
  obtain ⟨l,ns,k,rfl,hl,nd,l12,k0,k1,q⟩:=h
  refine ⟨_,(@xJ _ _ _ (@xN _ _ _ _ _ _ (@xY _ _ _ _ _ _ _ _ (@xS _ _ _ _ _ _ _ _ op_notIn_seq (pv 1) (pv 0) rfl) (@xJ _ _ _ (@xT _ _ _ wE)) xO) (@xT _ _ _ (@xR _ _ _ _ (wP ze PySem.F.slot_list_index PySem.F.type_list_index (mt_index rfl (by exact hu)) (pv 0) (@xA _ _ _ (@xB _ _ _ _ _ (pv 1) xG rfl))))))),?_⟩
  obtain ⟨e,hm⟩:=nm_at (ns:=ns) k0 k1
  refine ⟨_,rfl,_,rfl,l,_,rfl,.inl (SqL.of hl),rfl,flat_strs ns,?_⟩
  refine ⟨_,rfl,iteB0 (by rw [if_pos rfl,in_strs hm];rfl) ?_⟩
  exact ⟨_,rfl,.inl ⟨rfl,_,SqL.of hl⟩,_,rfl,ix_name hl nd k0 k1 l12 (q _ (Same.refl _))⟩
theorem DM:FnScope ["names", "read", "rooms", "meetings", "sort", "parts", "one", "other", "when", "many"] ["names", "read"] (defScope BA):=⟨rfl,rfl,rfl,by decide +kernel,rfl,by decide +kernel,by decide +kernel⟩
theorem EF (T:Tx K mg a t_LAST_TIME t_MOST_WALKERS t_MOST_ROOM t_MOST_MEETINGS t_MOST_MANY t_LONGEST_NAME t_MOST_FIGURES t_MOST_LETTERS) (B:BmAt mg base):OkD T.CG P w base 5 (spReadBook a.tP lamPos):=by
 have E3:=EH P w base T B
 have A3:=DZ P w base T B
 refine T.CG.F.ok DM (λvs H Q E h=>?_) (λcdv A outer s H vs Q E hr h=>?_)
 ·obtain ⟨_,_,_,_,_,_,_,rfl,_⟩:=h;rfl
 ·have nd:=DM.nd
  have hu:=hr.units
  obtain ⟨nl,rl,ns,rooms,ms,ls,xs,rfl,hn,ro,hrd,ex,mt,q⟩:=h
  refine ⟨_,(@xJ _ _ _ (@xN _ _ _ _ _ _ (wG (ix:=2) nd rfl rfl (own:=["sort", "parts"]) (caps:=[]) rfl (show CompScope ["sort", "parts"] [] ["names", "read", "rooms", "meetings", "sort", "parts", "one", "other", "when", "many"] (defScope BA) _ from ⟨rfl,by decide +kernel,by decide +kernel,by decide +kernel,by decide +kernel⟩) (@xm _ _ _ _ _ rfl (pv 1)) (λ_ _ _ _=>(xq (n:=2) rfl rfl (xK (xI (i:=0) (show List.Nodup (["sort", "parts"]:List Str) from by decide +kernel) rfl rfl) (xK (xI (i:=1) (show List.Nodup (["sort", "parts"]:List Str) from by decide +kernel) rfl rfl) xi)))) (λ_ _ _ _=>pts_one (@xS _ _ _ _ _ _ _ _ op_eq (pv 0) xX (nomark _))) (λ_ _ _ _=>(@xU _ _ _ _ _ _ _ (xV rfl) (pv 1) xD (λ_ _=>rfl)))) (@xN _ _ _ _ _ _ (xM (i:=3) nd rfl rfl (@xl _ _ _ _ pa_nil)) (@xN _ _ _ _ _ _ (wO PassesOwn.never rfl (@xm _ _ _ _ _ rfl (pv 1)) (xq (n:=2) rfl rfl (xK (xI (i:=4) nd rfl rfl) (xK (xI (i:=5) nd rfl rfl) xi))) (@xJ _ _ _ (@xT _ _ _ (@xY _ _ _ _ _ _ _ _ (@xS _ _ _ _ _ _ _ _ op_eq (pv 4) xX (nomark _)) (@xJ _ _ _ (@xN _ _ _ _ _ _ (ps_asg (pv 5) (pg_tupL (n:=4) rfl (xK (xI (i:=6) nd rfl rfl) (xK (xI (i:=7) nd rfl rfl) (xK (xI (i:=8) nd rfl rfl) (xK (xI (i:=9) nd rfl rfl) xi)))))) (@xT _ _ _ (xx (wP ze zg zh xr (pv 3) (@xA _ _ _ (@xB _ _ _ _ _ (@wF _ _ _ _ _ (@xA _ _ _ (@xB _ _ _ _ _ (pcl A3 hr T.Ax (@xA _ _ _ (@xB _ _ _ _ _ (pv 0) (@xB _ _ _ _ _ (pv 6) xG rfl) rfl))) (@xB _ _ _ _ _ (pcl A3 hr T.Ax (@xA _ _ _ (@xB _ _ _ _ _ (pv 0) (@xB _ _ _ _ _ (pv 7) xG rfl) rfl))) (@xB _ _ _ _ _ (pv 8) (@xB _ _ _ _ _ (pv 9) xG rfl) rfl) rfl) rfl))) xG rfl))))))) xO)))) (@xT _ _ _ (ps_try1 rfl (psx_nox (@xJ _ _ _ (@xT _ _ _ (@xR _ _ _ _ (pcl E3 hr T.CI (@xA _ _ _ (@xB _ _ _ _ _ (pv 2) (@xB _ _ _ _ _ (pv 3) xG rfl) rfl))))))) rfl rfl rfl T.Fl (λ_=>pss_never))))))),?_⟩
  have line:=line9
  have d112:=ro.short
  obtain ⟨f1,f2,f3,f4⟩:=allD_names (ms:=ms) (ls:=ls) ro.len
  have lx:xs.length=(allD ns rooms ms ls).length:=by rw [<-ex,zA]
  refine ⟨_,rfl,rl,rfl,⟨_,SqL.of hrd.1⟩,?_⟩
  refine x8 (K:=K) (a:=rl) (xs:=xs.map λx=>V.ref x.1) (λi τ acc H5=>(∃ t0 t1,τ=[t0,t1])/\acc=(((allD ns rooms ms ls).take i).filterMap Row7.roomO).map V.int/\Same H H5) ⟨⟨_,_,rfl⟩,rfl,Same.refl _⟩ (by rw [zA];omega) ?_ ?_ ?_
  ·rintro i τ acc H5 ⟨_,rfl,s5⟩
   refine ⟨?_,SqL.of (s5 _ _ hrd.1)⟩
   rw [zA]
   exact zj (List.length_filterMap_le _ _) (by rw [zY];omega)
  ·rintro i v τ acc H5 C hv ⟨⟨t0,t1,rfl⟩,rfl,s5⟩ hC
   obtain ⟨x,hx,rfl⟩:=xW hv
   have hd:=read_at (ns:=ns) ex hx
   have r:=(hrd.2 x (zB hx)).same s5
   obtain ⟨px,lx',d⟩:=x
   refine ⟨px,_,rfl,SqT.of r.tup,rfl,_,_,rfl,_,_,rfl,rfl,_,rfl,rfl,_,rfl,?_⟩
   cases d with
   | W x n=>exact iteB1 (decide_eq_true rfl) ⟨_,rfl,lx',_,_,V.int n,rfl,rfl,SqL.of r.parts,rfl,hC _ _ _ ⟨⟨_,_,rfl⟩,by rw [fm_yes (f:=Row7.roomO) hd rfl,zC];rfl,s5⟩⟩
   | M m=>exact iteB0 (decide_eq_false λz=>sorts_ne.1 (V.str.inj z).symm) (hC _ _ _ ⟨⟨_,_,rfl⟩,by rw [fm_no hd rfl],s5⟩)
   | L l=>exact iteB0 (decide_eq_false λz=>sorts_ne.2.1 (V.str.inj z).symm) (hC _ _ _ ⟨⟨_,_,rfl⟩,by rw [fm_no hd rfl],s5⟩)
  rintro τ acc H1 ⟨_,rfl,s1⟩
  rw [zA,za (by omega),f2]
  intro rr hrr
  have s2:=s1.trans (xE (o:=HO.lst (rooms.map V.int)) hrr)
  have k2:upd H1 rr (HO.lst (rooms.map V.int)) rr=some (.lst (rooms.map V.int)):=xC
  generalize upd H1 rr (HO.lst (rooms.map V.int))=H2 at s2 k2 ⊢
  clear s1
  refine ⟨by show 0<=sizeLine;omega,λml hml=>?_⟩
  have s3:=xE (o:=HO.lst []) hml
  have k3:upd H2 ml (HO.lst []) ml=some (.lst ([]:List V)):=xC
  generalize upd H2 ml (HO.lst [])=H3 at s3 k3 ⊢
  refine ⟨_,rfl,rl,rfl,⟨_,SqL.of (s3 _ _ (s2 _ _ hrd.1))⟩,?_⟩
  refine for_list (K:=K) (a:=rl) (xs:=xs.map λx=>V.ref x.1) (λi σ H5=>∃ fs:List (Addr×M4),(∃ v4 v5 v6 v7 v8 v9,σ=[some (.ref nl),some (.ref rl),some (.ref rr),some (.ref ml),v4,v5,v6,v7,v8,v9])/\Same H2 H5/\ListAt H5 ml fs/\fs.map (·.2)=((allD ns rooms ms ls).take i).filterMap Row7.meetO) ⟨[],⟨_,_,_,_,_,_,rfl⟩,s3,⟨k3,λ_ z=>nomatch z⟩,rfl⟩ ?_ ?_ ?_
  ·rintro i σ H5 _ ⟨fs,_,s5,_⟩
   exact SqL.of (s5 _ _ (s2 _ _ hrd.1))
  ·clear s3 k3
   rintro i v σ H5 hv ⟨fs,⟨v4,v5,v6,v7,v8,v9,rfl⟩,s5,hL,ef⟩
   obtain ⟨x,hx,rfl⟩:=xW hv
   have hd:=read_at (ns:=ns) ex hx
   have r:=(hrd.2 x (zB hx)).same (s2.trans s5)
   obtain ⟨px,lx',d⟩:=x
   refine ⟨px,_,rfl,SqT.of r.tup,rfl,_,_,rfl,_,_,rfl,rfl,_,rfl,rfl,_,rfl,?_⟩
   cases d with
   | W x n=>exact iteB0 (decide_eq_false λz=>sorts_ne.1 (V.str.inj z)) ⟨fs,⟨_,_,_,_,_,_,rfl⟩,s5,hL,by rw [fm_no hd rfl];exact ef⟩
   | L l=>exact iteB0 (decide_eq_false λz=>sorts_ne.2.2 (V.str.inj z).symm) ⟨fs,⟨_,_,_,_,_,_,rfl⟩,s5,hL,by rw [fm_no hd rfl];exact ef⟩
   | M m=>
    have hm:m∈ms:=by rw [<-f3];exact yO.mpr ⟨_,zB hd,rfl⟩
    obtain ⟨m1,m2,m3,m4,_⟩:=ro.raw.each m hm
    have hn5:=s5 _ _ (s2 _ _ hn)
    have lfs:fs.length<=112:=by
     have:=congrArg List.length ef
     rw [zA] at this
     rw [this]
     exact zj (List.length_filterMap_le _ _) (by rw [zY];omega)
    have l12:ns.length<=12:=by have:=ro.len;have:=ro.few;omega
    refine iteB1 (decide_eq_true rfl) ⟨_,rfl,lx',_,rfl,SqL.of r.parts,rfl,_,_,rfl,_,_,rfl,_,_,rfl,_,_,rfl,rfl,?_⟩
    refine ⟨_,rfl,.inl ⟨rfl,_,SqL.of hL.1⟩,_,rfl,_,rfl,nl,ns,m.lo,rfl,hn5,ro.nodup,l12,m1,by have:=ro.len;omega,λH6 s6=>?_⟩
    refine ⟨_,rfl,_,rfl,nl,ns,m.hi,rfl,s6 _ _ hn5,ro.nodup,l12,m3,by have:=ro.len;omega,λH7 s7=>?_⟩
    have s57:=s6.trans s7
    refine ⟨_,rfl,_,rfl,by show 4<=sizeLine;omega,λt ht=>?_⟩
    have hL7:=hL.same s57
    have s8:=xE (o:=HO.tup [V.int m.lo,V.int m.hi,V.int m.t,V.int m.m]) ht
    have k8:upd H7 t (HO.tup [V.int m.lo,V.int m.hi,V.int m.t,V.int m.m]) t=some (.tup [V.int m.lo,V.int m.hi,V.int m.t,V.int m.m]):=xC
    have hL8:=hL7.same s8
    have s58:=s5.trans (s57.trans s8)
    generalize upd H7 t (HO.tup [V.int m.lo,V.int m.hi,V.int m.t,V.int m.m])=H8 at s8 k8 hL8 s58 ⊢
    have tA:=Tups.set (o:=HO.lst ((fs.map λa=>V.ref a.1)++[V.ref t])) hL8.1
    refine ⟨ml,_,_,rfl,rfl,hL8.1,by rw [zA];omega,fs++[(t,m)],⟨_,_,_,_,_,_,rfl⟩,But.same hml s58 But.set,⟨by rw [xC,zC];rfl,λa ha=>?_⟩,by rw [fm_yes (f:=Row7.meetO) hd rfl,zC,ef];rfl⟩
    rcases zZ.mp ha with h | h
    ·exact tA _ _ (hL8.2 a h)
    ·cases zP.mp h
     exact tA _ _ k8
  rintro σ H5 ⟨fs,⟨v4,v5,v6,v7,v8,v9,rfl⟩,s5,hL,ef⟩
  rw [zA,za (by omega),f3] at ef
  have s25:=s2.trans s5
  refine ⟨_,rfl,_,rfl,rr,ml,rooms,fs,rfl,s5 _ _ k2,ro.one,ro.few,ro.room,hL,by rw [ef];exact ro.raw,L2.MT.same mt s25,λb' tr' tm' ps' H7 b7 mt7 hb' gd' pm'=>?_⟩
  exact q b' tr' tm' ps' H7 (λc o n e=>b7 c o n (s25 c o e)) mt7 hb' gd' (by rw [<-ef,zp];exact pm')
theorem Ep:FnScope ["thing"] ["thing"] (defScope D3):=⟨rfl,rfl,rfl,by decide +kernel,rfl,by decide +kernel,by decide +kernel⟩
theorem E9 (T:Tx K mg a t_LAST_TIME t_MOST_WALKERS t_MOST_ROOM t_MOST_MEETINGS t_MOST_MANY t_LONGEST_NAME t_MOST_FIGURES t_MOST_LETTERS) (B:BmAt mg base):OkD T.Di P w base 3 (spTime):=by
 have Ae:=Bb P w base T B
 refine T.Di.F.ok Ep (λvs H Q E h=>?_) (λcdv A outer s H vs Q E hr h=>?_)
 ·obtain ⟨x,t,rfl,_⟩:=h;rfl
 ·have nd:=Ep.nd
  have hu:=hr.units
  obtain ⟨x,t,rfl,ht,k⟩:=h
  refine ⟨_,(@xJ _ _ _ (@xT _ _ _ (@xR _ _ _ _ (pcl Ae hr T.Ag (@xA _ _ _ (@xB _ _ _ _ _ (pv 0) (@xB _ _ _ _ _ xD (@xB _ _ _ _ _ (wM (v:=V.int 1000000000) rfl T.c_LAST_TIME ⟨_,rfl⟩) xG rfl) rfl) rfl)))))),?_⟩
  exact ⟨_,rfl,x,t,_,_,rfl,ht,k⟩
theorem DR:FnScope ["book", "thing"] ["book", "thing"] (defScope Cy):=⟨rfl,rfl,rfl,by decide +kernel,rfl,by decide +kernel,by decide +kernel⟩
theorem EI (T:Tx K mg a t_LAST_TIME t_MOST_WALKERS t_MOST_ROOM t_MOST_MEETINGS t_MOST_MANY t_LONGEST_NAME t_MOST_FIGURES t_MOST_LETTERS) (B:BmAt mg base):OkD T.BE P w base 3 (spIsWalker):=by
 have Ae:=Bb P w base T B
 refine T.BE.F.ok DR (λvs H Q E h=>?_) (λcdv A outer s H vs Q E hr h=>?_)
 ·obtain ⟨b,x,t,_,_,_,_,rfl,_⟩:=h;rfl
 ·have nd:=DR.nd
  have hu:=hr.units
  obtain ⟨b,x,t,rooms,tr,tm,ps,rfl,hb,ht,q⟩:=h
  refine ⟨_,(@xJ _ _ _ (@xT _ _ _ (@xR _ _ _ _ (pcl Ae hr T.Ag (@xA _ _ _ (@xB _ _ _ _ _ (pv 1) (@xB _ _ _ _ _ xD (@xB _ _ _ _ _ (@xQ _ _ _ _ _ _ _ _ op_sub (xL (xP rfl) (by rfl) T.b_len PySem.boot_len (@xA _ _ _ (@xB _ _ _ _ _ (@xU _ _ _ _ _ _ _ (xZ rfl) (pv 0) xD (λ_ _=>rfl)) xG rfl))) xD) xG rfl) rfl) rfl)))))),?_⟩
  refine ⟨_,rfl,_,rfl,b,_,_,_,rfl,rfl,SqT.of hb.book,rfl,tr,_,rfl,.inr (SqT.of hb.rooms),_,_,rfl,rfl,x,t,_,_,rfl,ht,?_⟩
  rw [zA]
  exact q
theorem DS:FnScope ["book", "thing", "sender", "since", "wish", "last"] ["book", "thing"] (defScope Cz):=⟨rfl,rfl,rfl,by decide +kernel,rfl,by decide +kernel,by decide +kernel⟩
theorem EJ (T:Tx K mg a t_LAST_TIME t_MOST_WALKERS t_MOST_ROOM t_MOST_MEETINGS t_MOST_MANY t_LONGEST_NAME t_MOST_FIGURES t_MOST_LETTERS) (B:BmAt mg base):OkD T.CJ P w base 4 (spIsLetter):=by
 have EE:=E9 P w base T B
 have Ei:=EI P w base T B
 refine T.CJ.F.ok DS (λvs H Q E h=>?_) (λcdv A outer s H vs Q E hr h=>?_)
 ·obtain ⟨b,x,r,_,_,_,_,rfl,_⟩:=h;rfl
 ·have nd:=DS.nd
  have hu:=hr.units
  obtain ⟨b,x,r,rooms,tr,tm,ps,rfl,hb,th,q⟩:=h
  refine ⟨_,(@xJ _ _ _ (@xN _ _ _ _ _ _ (@xY _ _ _ _ _ _ _ _ (@PW.pt _ _ _ (@wN _ _ _ _ _ _ _ (@xf _ _ _ _ (xg (xL (xa) (by rfl) T.b_isinstance zR (@xA _ _ _ (@xB _ _ _ _ _ (pv 1) (@xB _ _ _ _ _ (xv (v:=V.ty "tuple") rfl T.b_tuple zq rfl) xG rfl) rfl))))) (@wD _ _ _ _ (@xS _ _ _ _ _ _ _ _ op_ne (xL (xP rfl) (by rfl) T.b_len PySem.boot_len (@xA _ _ _ (@xB _ _ _ _ _ (pv 1) xG rfl))) xD (nomark _))))) (@xJ _ _ _ (@xT _ _ _ (@xR _ _ _ _ pe_bl))) xO) (@xN _ _ _ _ _ _ (ps_asg (pv 1) (xq (n:=4) rfl rfl (xK (xI (i:=2) nd rfl rfl) (xK (xI (i:=3) nd rfl rfl) (xK (xI (i:=4) nd rfl rfl) (xK (xI (i:=5) nd rfl rfl) xi)))))) (@xT _ _ _ (@xR _ _ _ _ (@pe_and _ _ _ _ _ _ _ (pcl Ei hr T.BE (@xA _ _ _ (@xB _ _ _ _ _ (pv 0) (@xB _ _ _ _ _ (pv 2) xG rfl) rfl))) (@pe_and _ _ _ _ _ _ _ (pcl EE hr T.Di (@xA _ _ _ (@xB _ _ _ _ _ (pv 3) xG rfl))) (@pe_and _ _ _ _ _ _ _ (pcl Ei hr T.BE (@xA _ _ _ (@xB _ _ _ _ _ (pv 0) (@xB _ _ _ _ _ (pv 4) xG rfl) rfl))) (@pe_one _ _ _ _ _ (pcl EE hr T.Di (@xA _ _ _ (@xB _ _ _ _ _ (pv 5) xG rfl)))))))))))),?_⟩
  rcases th with ⟨t,ht,nt,rfl⟩ | ⟨l,xs,rfl,hl,hx,rfl⟩
  ·refine ⟨_,rfl,x,t, "tuple", rfl,ht,.inr (.inr (.inr rfl)),_,rfl,?_⟩
   refine iteB1 ?_ (iteB1 rfl q)
   rcases tyS_six ht with rfl | rfl | rfl | rfl | rfl | rfl | rfl <;> first | rfl | exact absurd rfl nt
  ·refine ⟨_,rfl,_, "tuple", "tuple", rfl,tyS_tup hl,.inr (.inr (.inr rfl)),_,rfl,iteB0 rfl ?_⟩
   refine ⟨_,rfl,l,_,rfl,.inr (SqT.of hl),rfl,_,rfl,?_⟩
   by_cases h4:xs.length=4
   ·obtain ⟨x0,x1,x2,x3,rfl⟩:=four_of h4
    obtain ⟨t0,h0⟩:=hx x0 (by simp)
    obtain ⟨t1,h1⟩:=hx x1 (by simp)
    obtain ⟨t2,h2⟩:=hx x2 (by simp)
    obtain ⟨t3,h3⟩:=hx x3 (by simp)
    refine iteB0 (by simp) ?_
    refine ⟨_,rfl,l,_,rfl,SqT.of hl,rfl,_,_,rfl,_,_,rfl,_,_,rfl,_,_,rfl,rfl,?_⟩
    have q:Q (.bl (inB 0 ((rooms.length:Int) - 1) x0 && (inB 0 1000000000 x1 && (inB 0 ((rooms.length:Int) - 1) x2 && inB 0 1000000000 x3)))) H:=q
    refine ⟨_,rfl,_,rfl,b,x0,t0,rooms,tr,tm,ps,rfl,hb,h0,_,rfl,iteB (λc0=>?_) (λc0=>by rw [c0] at q;exact q)⟩
    refine ⟨_,rfl,x1,t1,rfl,h1,_,rfl,iteB (λc1=>?_) (λc1=>by rw [c0,c1] at q;exact q)⟩
    refine ⟨_,rfl,_,rfl,b,x2,t2,rooms,tr,tm,ps,rfl,hb,h2,_,rfl,iteB (λc2=>?_) (λc2=>by rw [c0,c1,c2] at q;exact q)⟩
    refine ⟨_,rfl,x3,t3,rfl,h3,?_⟩
    rw [c0,c1,c2] at q
    exact q
   ·refine iteB1 ?_ ?_
    ·have:¬ V.int (xs.length:Int)=V.int 4:=λz=>h4 (by have:=V.int.inj z;omega)
     simp [this]
    ·have:isLet (rooms.length:Int) (some xs)=false:=by
      unfold isLet
      split
      ·rename_i e;cases e;simp at h4
      ·rfl
     rw [this] at q
     exact q
theorem Cq:FnScope ["names", "book", "read", "letters", "sort", "parts", "sender", "since", "wish", "last"] ["names", "book", "read"] (defScope wQ):=⟨rfl,rfl,rfl,by decide +kernel,rfl,by decide +kernel,by decide +kernel⟩
theorem Ek (T:Tx K mg a t_LAST_TIME t_MOST_WALKERS t_MOST_ROOM t_MOST_MEETINGS t_MOST_MANY t_LONGEST_NAME t_MOST_FIGURES t_MOST_LETTERS) (B:BmAt mg base):OkD T.Bk P w base 5 (spReadLets):=by
 have A3:=DZ P w base T B
 have E4:=EJ P w base T B
 refine T.Bk.F.ok Cq (λvs H Q E h=>?_) (λcdv A outer s H vs Q E hr h=>?_)
 ·obtain ⟨_,_,_,_,_,_,_,_,_,_,_,rfl,_⟩:=h;rfl
 ·have nd:=Cq.nd
  have hu:=hr.units
  obtain ⟨nl,b,rl,ns,rooms,ms,ls,xs,tr,tm,ps,rfl,hn,ro,hrd,ex,hb,p60,q⟩:=h
  refine ⟨_,(@xJ _ _ _ (@xN _ _ _ _ _ _ (xM (i:=3) nd rfl rfl (@xl _ _ _ _ pa_nil)) (@xN _ _ _ _ _ _ (wO PassesOwn.never rfl (@xm _ _ _ _ _ rfl (pv 2)) (xq (n:=2) rfl rfl (xK (xI (i:=4) nd rfl rfl) (xK (xI (i:=5) nd rfl rfl) xi))) (@xJ _ _ _ (@xT _ _ _ (@xY _ _ _ _ _ _ _ _ (@xS _ _ _ _ _ _ _ _ op_eq (pv 4) xX (nomark _)) (@xJ _ _ _ (@xN _ _ _ _ _ _ (ps_asg (pv 5) (pg_tupL (n:=4) rfl (xK (xI (i:=6) nd rfl rfl) (xK (xI (i:=7) nd rfl rfl) (xK (xI (i:=8) nd rfl rfl) (xK (xI (i:=9) nd rfl rfl) xi)))))) (@xT _ _ _ (xx (wP ze zg zh xr (pv 3) (@xA _ _ _ (@xB _ _ _ _ _ (@wF _ _ _ _ _ (@xA _ _ _ (@xB _ _ _ _ _ (pcl A3 hr T.Ax (@xA _ _ _ (@xB _ _ _ _ _ (pv 0) (@xB _ _ _ _ _ (pv 6) xG rfl) rfl))) (@xB _ _ _ _ _ (pv 7) (@xB _ _ _ _ _ (pcl A3 hr T.Ax (@xA _ _ _ (@xB _ _ _ _ _ (pv 0) (@xB _ _ _ _ _ (pv 8) xG rfl) rfl))) (@xB _ _ _ _ _ (pv 9) xG rfl) rfl) rfl) rfl))) xG rfl))))))) xO)))) (@xN _ _ _ _ _ _ (@xY _ _ _ _ _ _ _ _ (@PW.pt _ _ _ (@wN _ _ _ _ _ _ _ (@xS _ _ _ _ _ _ _ _ op_gt (xL (xP rfl) (by rfl) T.b_len PySem.boot_len (@xA _ _ _ (@xB _ _ _ _ _ (pv 3) xG rfl))) (wM (v:=V.int 40) rfl T.c_MOST_LETTERS ⟨_,rfl⟩) (nomark _)) (@wD _ _ _ _ (@xf _ _ _ _ (xg (xL (call_all rfl rfl) (by rfl) T.b_all yg (@xA _ _ _ (@xB _ _ _ _ _ (pe_comp (own:=["letter"]) (caps:=[1]) rfl (show CompScope ["letter"] [1] ["names", "book", "read", "letters", "sort", "parts", "sender", "since", "wish", "last"] (defScope wQ) _ from ⟨rfl,by decide +kernel,by decide +kernel,by decide +kernel,by decide +kernel⟩) (@xm _ _ _ _ _ rfl (pv 3)) (λ_ _ _ _=>(xI (i:=0) (show List.Nodup (["letter", "book"]:List Str) from by decide +kernel) rfl rfl)) (λ_ _ _ _=>xz) (λ_ _ _ _=>(pcl E4 hr T.CJ (@xA _ _ _ (@xB _ _ _ _ _ (pv 1) (@xB _ _ _ _ _ (pv 0) xG rfl) rfl))))) xG rfl)))))))) (@xJ _ _ _ (@xT _ _ _ wE)) xO) (@xT _ _ _ (@xR _ _ _ _ (pv 3))))))),?_⟩
  have line:=line9
  have d112:=ro.short
  obtain ⟨f1,f2,f3,f4⟩:=allD_names (ms:=ms) (ls:=ls) ro.len
  have lx:xs.length=(allD ns rooms ms ls).length:=by rw [<-ex,zA]
  have lnn:=ro.len
  have r12:=ro.few
  have l40:=ro.lets
  refine ⟨by show 0<=sizeLine;omega,λml hml=>?_⟩
  have s3:=xE (o:=HO.lst []) hml
  have k3:upd H ml (HO.lst []) ml=some (.lst ([]:List V)):=xC
  generalize upd H ml (HO.lst [])=H3 at s3 k3 ⊢
  refine ⟨_,rfl,rl,rfl,⟨_,SqL.of (s3 _ _ hrd.1)⟩,?_⟩
  refine for_list (K:=K) (a:=rl) (xs:=xs.map λx=>V.ref x.1) (λi σ H5=>∃ fs:List (Addr×L4),(∃ v4 v5 v6 v7 v8 v9,σ=[some (.ref nl),some (.ref b),some (.ref rl),some (.ref ml),v4,v5,v6,v7,v8,v9])/\Same H H5/\LetsL H5 ml fs/\fs.map (·.2)=((allD ns rooms ms ls).take i).filterMap Row7.letO) ⟨[],⟨_,_,_,_,_,_,rfl⟩,s3,⟨k3,λ_ z=>nomatch z⟩,rfl⟩ ?_ ?_ ?_
  ·rintro i σ H5 _ ⟨fs,_,s5,_⟩
   exact SqL.of (s5 _ _ hrd.1)
  ·clear s3 k3
   rintro i v σ H5 hv ⟨fs,⟨v4,v5,v6,v7,v8,v9,rfl⟩,s5,hL,ef⟩
   obtain ⟨x,hx,rfl⟩:=xW hv
   have hd:=read_at (ns:=ns) ex hx
   have r:=(hrd.2 x (zB hx)).same s5
   obtain ⟨px,lx',d⟩:=x
   refine ⟨px,_,rfl,SqT.of r.tup,rfl,_,_,rfl,_,_,rfl,rfl,_,rfl,rfl,_,rfl,?_⟩
   cases d with
   | W x n=>exact iteB0 (decide_eq_false λz=>sorts_ne.2.1 (V.str.inj z)) ⟨fs,⟨_,_,_,_,_,_,rfl⟩,s5,hL,by rw [fm_no hd rfl];exact ef⟩
   | M m=>exact iteB0 (decide_eq_false λz=>sorts_ne.2.2 (V.str.inj z)) ⟨fs,⟨_,_,_,_,_,_,rfl⟩,s5,hL,by rw [fm_no hd rfl];exact ef⟩
   | L m=>
    have hm:m∈ls:=by rw [<-f4];exact yO.mpr ⟨_,zB hd,rfl⟩
    obtain ⟨m1,m2,m3,m4,_⟩:=ro.each m hm
    have hn5:=s5 _ _ hn
    have lfs:fs.length<=112:=by
     have:=congrArg List.length ef
     rw [zA] at this
     rw [this]
     exact zj (List.length_filterMap_le _ _) (by rw [zY];omega)
    refine iteB1 (decide_eq_true rfl) ⟨_,rfl,lx',_,rfl,SqL.of r.parts,rfl,_,_,rfl,_,_,rfl,_,_,rfl,_,_,rfl,rfl,?_⟩
    refine ⟨_,rfl,.inl ⟨rfl,_,SqL.of hL.1⟩,_,rfl,_,rfl,nl,ns,(m.s:Int),rfl,hn5,ro.nodup,by omega,by omega,by omega,λH6 s6=>?_⟩
    refine ⟨_,rfl,_,rfl,_,rfl,nl,ns,(m.w:Int),rfl,s6 _ _ hn5,ro.nodup,by omega,by omega,by omega,λH7 s7=>?_⟩
    have s57:=s6.trans s7
    refine ⟨_,rfl,by show 4<=sizeLine;omega,λt ht=>?_⟩
    have hL7:=hL.same s57
    have s8:=xE (o:=HO.tup [V.int (m.s:Int),V.int m.a,V.int (m.w:Int),V.int m.z]) ht
    have k8:upd H7 t (HO.tup [V.int (m.s:Int),V.int m.a,V.int (m.w:Int),V.int m.z]) t=some (.tup (letRow m)):=xC
    have hL8:=hL7.same s8
    have s58:=s5.trans (s57.trans s8)
    generalize upd H7 t (HO.tup [V.int (m.s:Int),V.int m.a,V.int (m.w:Int),V.int m.z])=H8 at s8 k8 hL8 s58 ⊢
    have tA:=Tups.set (o:=HO.lst ((fs.map λa=>V.ref a.1)++[V.ref t])) hL8.1
    refine ⟨ml,_,_,rfl,rfl,hL8.1,by rw [zA];omega,fs++[(t,m)],⟨_,_,_,_,_,_,rfl⟩,But.same hml s58 But.set,⟨by rw [xC,zC];rfl,λa ha=>?_⟩,by rw [fm_yes (f:=Row7.letO) hd rfl,zC,ef];rfl⟩
    rcases zZ.mp ha with h | h
    ·exact tA _ _ (hL8.2 a h)
    ·cases zP.mp h
     exact tA _ _ k8
  rintro σ H5 ⟨fs,⟨v4,v5,v6,v7,v8,v9,rfl⟩,s5,hL,ef⟩
  rw [zA,za (by omega),f4] at ef
  have lf:fs.length=ls.length:=by rw [<-ef,zA]
  have hb5:=hb.same s5
  refine ⟨_,rfl,ml,_,rfl,.inl (SqL.of hL.1),_,_,rfl,rfl,_,rfl,iteB0 (decide_eq_false (by rw [zA];omega)) ?_⟩
  refine ⟨_,rfl,ml,rfl,⟨_,SqL.of hL.1⟩,?_⟩
  refine x8 (K:=K) (a:=ml) (xs:=fs.map λx=>V.ref x.1) (λi τ acc H6=>(∃ t0,τ=[t0,some (.ref b)])/\acc=(List.replicate i true).map V.bl/\Same H5 H6) ⟨⟨_,rfl⟩,rfl,Same.refl _⟩ (by rw [zA];omega) ?_ ?_ ?_
  ·rintro i τ acc H6 ⟨_,rfl,s6⟩
   exact ⟨by rw [zA,yf];exact zD _,SqL.of (s6 _ _ hL.1)⟩
  ·rintro i v τ acc H6 C hv ⟨⟨t0,rfl⟩,rfl,s6⟩ hC
   obtain ⟨x,hx,rfl⟩:=xW hv
   have hm:x.2∈ls:=by rw [<-ef];exact zO.mpr ⟨x,zB hx,rfl⟩
   have hrow:=s6 _ _ (hL.2 x (zB hx))
   refine ⟨_,rfl,_,rfl,b,_,some (letRow x.2),rooms,tr,tm,ps,rfl,hb5.same s6,.inr ⟨x.1,_,rfl,hrow,λe he=>?_,rfl⟩,?_⟩
   ·unfold letRow at he
    simp only [zH,zK,or_false] at he
    rcases he with rfl | rfl | rfl | rfl <;> exact ⟨_,rfl⟩
   ·rw [let_ok (ro.each x.2 hm)]
    exact hC _ _ _ ⟨⟨_,rfl⟩,by rw [List.replicate_succ',zC];rfl,s6⟩
  rintro τ acc H6 ⟨_,rfl,s6⟩ lc hlc
  rw [zA]
  have s7:=s6.trans (xE (o:=HO.lst ((List.replicate fs.length true).map V.bl)) hlc)
  have k7:upd H6 lc (HO.lst ((List.replicate fs.length true).map V.bl)) lc=some (.lst ((List.replicate fs.length true).map V.bl)):=xC
  generalize upd H6 lc (HO.lst ((List.replicate fs.length true).map V.bl))=H7 at s7 k7 ⊢
  refine ⟨lc,_,rfl,SqL.of k7,_,rfl,iteB0 (by rw [all_rep];rfl) ?_⟩
  exact ⟨_,rfl,q ml fs H7 (s5.trans s7) hml (hL.same s7) ef⟩
theorem Ed:FnScope ["rows", "read", "places", "names", "book"] ["rows"] (defScope wL):=⟨rfl,rfl,rfl,by decide +kernel,rfl,by decide +kernel,by decide +kernel⟩
theorem EW (T:Tx K mg a t_LAST_TIME t_MOST_WALKERS t_MOST_ROOM t_MOST_MEETINGS t_MOST_MANY t_LONGEST_NAME t_MOST_FIGURES t_MOST_LETTERS) (B:BmAt mg base):OkD T.Bl P w base 6 (spReadAll a.tP lamPos):=by
 have Fi:=Fa P w base T B
 have Fc:=EV P w base T B
 have E1:=EF P w base T B
 have Eu:=Ek P w base T B
 refine T.Bl.F.ok Ed (λvs H Q E h=>?_) (λcdv A outer s H vs Q E hr h=>?_)
 ·obtain ⟨_,_,_,_,_,rfl,_⟩:=h;rfl
 ·have nd:=Ed.nd
  have hu:=hr.units
  obtain ⟨lr,ns,rooms,ms,ls,rfl,hl,ro,mt,q⟩:=h
  refine ⟨_,(@xJ _ _ _ (@xN _ _ _ _ _ _ (@xY _ _ _ _ _ _ _ _ (@xf _ _ _ _ (xg (xL (xa) (by rfl) T.b_isinstance zR (@xA _ _ _ (@xB _ _ _ _ _ (pv 0) (@xB _ _ _ _ _ (xv (v:=V.ty "list") rfl T.b_list yR rfl) xG rfl) rfl))))) (@xJ _ _ _ (@xT _ _ _ wE)) xO) (@xN _ _ _ _ _ _ (wG (ix:=1) nd rfl rfl (own:=["row"]) (caps:=[]) rfl (show CompScope ["row"] [] ["rows", "read", "places", "names", "book"] (defScope wL) _ from ⟨rfl,by decide +kernel,by decide +kernel,by decide +kernel,by decide +kernel⟩) (@xm _ _ _ _ _ rfl (pv 0)) (λ_ _ _ _=>(xI (i:=0) (show List.Nodup (["row"]:List Str) from by decide +kernel) rfl rfl)) (λ_ _ _ _=>xz) (λ_ _ _ _=>(pcl Fc hr T.Dv (@xA _ _ _ (@xB _ _ _ _ _ (pv 0) xG rfl))))) (@xN _ _ _ _ _ _ (wG (ix:=2) nd rfl rfl (own:=["sort", "parts"]) (caps:=[]) rfl (show CompScope ["sort", "parts"] [] ["rows", "read", "places", "names", "book"] (defScope wL) _ from ⟨rfl,by decide +kernel,by decide +kernel,by decide +kernel,by decide +kernel⟩) (@xm _ _ _ _ _ rfl (pv 1)) (λ_ _ _ _=>(xq (n:=2) rfl rfl (xK (xI (i:=0) (show List.Nodup (["sort", "parts"]:List Str) from by decide +kernel) rfl rfl) (xK (xI (i:=1) (show List.Nodup (["sort", "parts"]:List Str) from by decide +kernel) rfl rfl) xi)))) (λ_ _ _ _=>xz) (λ_ _ _ _=>(pe_bmK rfl PySem.F.plainAttrs_tuple PySem.F.slot_tuple_index PySem.F.type_tuple_index (mt_indexT rfl (by exact hu)) (wM (v:=V.ref a.c_SORTS) (by rfl) T.m_SORTS rfl) (@xA _ _ _ (@xB _ _ _ _ _ (pv 0) xG rfl))))) (@xN _ _ _ _ _ _ (@xY _ _ _ _ _ _ _ _ (@xS _ _ _ _ _ _ _ _ (op_neE hu) (pv 2) (xL (call_sortV) (by rfl) T.b_sorted PyProof.Rows.boot_sorted (@xA _ _ _ (@xB _ _ _ _ _ (pv 2) xG rfl))) (nomark _)) (@xJ _ _ _ (@xT _ _ _ wE)) xO) (@xN _ _ _ _ _ _ (wG (ix:=3) nd rfl rfl (own:=["sort", "parts"]) (caps:=[]) rfl (show CompScope ["sort", "parts"] [] ["rows", "read", "places", "names", "book"] (defScope wL) _ from ⟨rfl,by decide +kernel,by decide +kernel,by decide +kernel,by decide +kernel⟩) (@xm _ _ _ _ _ rfl (pv 1)) (λ_ _ _ _=>(xq (n:=2) rfl rfl (xK (xI (i:=0) (show List.Nodup (["sort", "parts"]:List Str) from by decide +kernel) rfl rfl) (xK (xI (i:=1) (show List.Nodup (["sort", "parts"]:List Str) from by decide +kernel) rfl rfl) xi)))) (λ_ _ _ _=>pts_one (@xS _ _ _ _ _ _ _ _ op_eq (pv 0) xX (nomark _))) (λ_ _ _ _=>(@xU _ _ _ _ _ _ _ (xV rfl) (pv 1) xD (λ_ _=>rfl)))) (@xN _ _ _ _ _ _ (@xY _ _ _ _ _ _ _ _ (@PW.pt _ _ _ (@wN _ _ _ _ _ _ _ (@xf _ _ _ _ (xg (xL (call_all rfl rfl) (by rfl) T.b_all yg (@xA _ _ _ (@xB _ _ _ _ _ (pe_comp (own:=["name"]) (caps:=[]) rfl (show CompScope ["name"] [] ["rows", "read", "places", "names", "book"] (defScope wL) _ from ⟨rfl,by decide +kernel,by decide +kernel,by decide +kernel,by decide +kernel⟩) (@xm _ _ _ _ _ rfl (pv 3)) (λ_ _ _ _=>(xI (i:=0) (show List.Nodup (["name"]:List Str) from by decide +kernel) rfl rfl)) (λ_ _ _ _=>xz) (λ_ _ _ _=>(pcl Fi hr T.D4 (@xA _ _ _ (@xB _ _ _ _ _ (pv 0) xG rfl))))) xG rfl))))) (@wD _ _ _ _ (@xS _ _ _ _ _ _ _ _ op_ne (xL (call_lenT) (by rfl) T.b_len PySem.boot_len (@xA _ _ _ (@xB _ _ _ _ _ (xh (call_setT rfl) (by rfl) T.b_set PyProof.Rows.boot_set (@xA _ _ _ (@xB _ _ _ _ _ (pv 3) xG rfl))) xG rfl))) (xL (xP rfl) (by rfl) T.b_len PySem.boot_len (@xA _ _ _ (@xB _ _ _ _ _ (pv 3) xG rfl))) (nomark _))))) (@xJ _ _ _ (@xT _ _ _ wE)) xO) (@xN _ _ _ _ _ _ (xM (i:=4) nd rfl rfl (pcl E1 hr T.CG (@xA _ _ _ (@xB _ _ _ _ _ (pv 3) (@xB _ _ _ _ _ (pv 1) xG rfl) rfl)))) (@xT _ _ _ (@xR _ _ _ _ (@wF _ _ _ _ _ (@xA _ _ _ (@xB _ _ _ _ _ (pv 3) (@xB _ _ _ _ _ (pv 4) (@xB _ _ _ _ _ (pcl Eu hr T.Bk (@xA _ _ _ (@xB _ _ _ _ _ (pv 3) (@xB _ _ _ _ _ (pv 4) (@xB _ _ _ _ _ (pv 1) xG rfl) rfl) rfl))) xG rfl) rfl) rfl))))))))))))),?_⟩
  have line:=line9
  have d112:=ro.short
  obtain ⟨f1,f2,f3,f4⟩:=allD_names (ms:=ms) (ls:=ls) ro.len
  have okd:=ro.ok
  have up:=allD_rising ns rooms ms ls
  have hl':H lr=some (.lst ((allD ns rooms ms ls).map λd=>V.str (d.text ns))):=by rw [hl,<- allD_text,zp];rfl
  generalize hds:allD ns rooms ms ls=ds at *
  have l12:ns.length<=12:=by have:=ro.len;have:=ro.few;omega
  refine ⟨_,rfl,_, "list", "list", rfl,tyS_lst hl,by simp,_,rfl,iteB0 rfl ?_⟩
  refine ⟨_,rfl,lr,rfl,⟨_,SqL.of hl'⟩,?_⟩
  refine x8 (K:=K) (a:=lr) (xs:=ds.map λd=>V.str (d.text ns)) (λi τ acc H5=>∃ xs:List (Addr×Addr×Row7),(∃ t0,τ=[t0])/\acc=(xs.map λx=>V.ref x.1)/\xs.map (·.2.2)=ds.take i/\(∀ x∈xs,RAt H5 ns x)/\Same H H5) ⟨[],⟨_,rfl⟩,rfl,rfl,(λ_ z=>nomatch z),Same.refl _⟩ (by rw [zA];omega) ?_ ?_ ?_
  ·rintro i τ acc H5 ⟨xs,_,rfl,e,_,s5⟩
   refine ⟨?_,SqL.of (s5 _ _ hl')⟩
   have:=congrArg List.length e
   rw [zA,zY] at this
   rw [zA];omega
  ·rintro i v τ acc H5 C hv ⟨xs,⟨t0,rfl⟩,rfl,e,hx5,s5⟩ hC
   obtain ⟨d,hd,rfl⟩:=xW hv
   refine ⟨_,rfl,ns,d,rfl,okd d (zB hd),λp l H6 s6 hp hl ra=>hC _ _ _ ⟨xs++[(p,l,d)],⟨_,rfl⟩,by rw [zC];rfl,by rw [zC,e,xt hd];rfl,λx hx=>?_,s5.trans s6⟩⟩
   rcases zZ.mp hx with h | h
   ·exact (hx5 x h).same s6
   ·rw [zP.mp h];exact ra
  rintro τ acc H1 ⟨xs,_,rfl,ex,hx1,s1⟩ rl hrl
  rw [zA,za (zD _)] at ex
  have s2:=s1.trans (xE (o:=HO.lst (xs.map λx=>V.ref x.1)) hrl)
  have hrd:ReadL (upd H1 rl (HO.lst (xs.map λx=>V.ref x.1))) rl ns xs:=⟨xC,λx hx=>(hx1 x hx).same (xE hrl)⟩
  generalize upd H1 rl (HO.lst (xs.map λx=>V.ref x.1))=H2 at s2 hrd ⊢
  clear hrl s1 hx1
  have lx:xs.length=ds.length:=by rw [<-ex,zA]
  refine ⟨_,rfl,rl,rfl,⟨_,SqL.of hrd.1⟩,?_⟩
  refine x8 (K:=K) (a:=rl) (xs:=xs.map λx=>V.ref x.1) (λi τ acc H5=>(∃ t0 t1,τ=[t0,t1])/\acc=((ds.take i).map λd=>(d.place:Int)).map V.int/\Same H2 H5) ⟨⟨_,_,rfl⟩,rfl,Same.refl _⟩ (by rw [zA];omega) ?_ ?_ ?_
  ·rintro i τ acc H5 ⟨_,rfl,s5⟩
   exact ⟨by rw [zA,zA,zY];omega,SqL.of (s5 _ _ hrd.1)⟩
  ·rintro i v τ acc H5 C hv ⟨⟨t0,t1,rfl⟩,rfl,s5⟩ hC
   obtain ⟨x,hx,rfl⟩:=xW hv
   have hd:=read_at (ns:=ns) ex hx
   have r:=(hrd.2 x (zB hx)).same s5
   refine ⟨x.1,_,rfl,SqT.of r.tup,rfl,_,_,rfl,_,_,rfl,rfl,(tups_sq T.fS).2,_,rfl,?_⟩
   delta tNil
   show rIndexT K _ [_] _ _
   refine ix_sort T.fS (hC _ _ _ ⟨⟨_,_,rfl⟩,?_,s5⟩)
   rw [xt hd,zC,zC];rfl
  rintro τ acc H3 ⟨_,rfl,s3⟩ pl hpl
  rw [zA,za (by omega)]
  have s4:=s3.trans (xE (o:=HO.lst ((ds.map λd=>(d.place:Int)).map V.int)) hpl)
  have k4:upd H3 pl (HO.lst ((ds.map λd=>(d.place:Int)).map V.int)) pl=some (.lst ((ds.map λd=>(d.place:Int)).map V.int)):=xC
  generalize upd H3 pl (HO.lst ((ds.map λd=>(d.place:Int)).map V.int))=H4 at s4 k4 ⊢
  clear s3 hpl
  refine ⟨_,rfl,_,rfl,pl,_,rfl,k4,up,λsl hsl=>?_⟩
  have s5:=xE (o:=HO.lst ((ds.map λd=>(d.place:Int)).map V.int)) hsl
  have k5:upd H4 sl (HO.lst ((ds.map λd=>(d.place:Int)).map V.int)) sl=some (.lst ((ds.map λd=>(d.place:Int)).map V.int)):=xC
  have k45:=s5 _ _ k4
  have s25:=s4.trans s5
  generalize upd H4 sl (HO.lst ((ds.map λd=>(d.place:Int)).map V.int))=H5 at s5 k5 k45 s25 ⊢
  clear s4 s5 k4 hsl
  refine ne_intsV k45 k5 ⟨_,rfl,iteB0 rfl ?_⟩
  have hrd5:=hrd.same s25
  refine ⟨_,rfl,rl,rfl,⟨_,SqL.of hrd5.1⟩,?_⟩
  refine x8 (K:=K) (a:=rl) (xs:=xs.map λx=>V.ref x.1) (λi τ acc H6=>(∃ t0 t1,τ=[t0,t1])/\acc=((ds.take i).filterMap Row7.nameO).map V.str/\Same H5 H6) ⟨⟨_,_,rfl⟩,rfl,Same.refl _⟩ (by rw [zA];omega) ?_ ?_ ?_
  ·rintro i τ acc H6 ⟨_,rfl,s6⟩
   refine ⟨?_,SqL.of (s6 _ _ hrd5.1)⟩
   rw [zA]
   exact zj (List.length_filterMap_le _ _) (by rw [zY];omega)
  ·rintro i v τ acc H6 C hv ⟨⟨t0,t1,rfl⟩,rfl,s6⟩ hC
   obtain ⟨x,hx,rfl⟩:=xW hv
   have hd:=read_at (ns:=ns) ex hx
   have r:=(hrd5.2 x (zB hx)).same s6
   obtain ⟨px,lx',d⟩:=x
   refine ⟨px,_,rfl,SqT.of r.tup,rfl,_,_,rfl,_,_,rfl,rfl,_,rfl,rfl,_,rfl,?_⟩
   cases d with
   | W y n=>exact iteB1 (decide_eq_true rfl) ⟨_,rfl,lx',_,_,V.str y,rfl,rfl,SqL.of r.parts,rfl,hC _ _ _ ⟨⟨_,_,rfl⟩,by rw [fm_yes (f:=Row7.nameO) hd rfl,zC];rfl,s6⟩⟩
   | M m=>exact iteB0 (decide_eq_false λz=>sorts_ne.1 (V.str.inj z).symm) (hC _ _ _ ⟨⟨_,_,rfl⟩,by rw [fm_no hd rfl],s6⟩)
   | L l=>exact iteB0 (decide_eq_false λz=>sorts_ne.2.1 (V.str.inj z).symm) (hC _ _ _ ⟨⟨_,_,rfl⟩,by rw [fm_no hd rfl],s6⟩)
  rintro τ acc H6 ⟨_,rfl,s6⟩ nl hnl
  rw [zA,za (by omega),f1]
  have fnl:H nl=none:=s2.free (s25.free (s6.free hnl))
  have s7:=s25.trans (s6.trans (xE (o:=HO.lst (ns.map V.str)) hnl))
  have k7:upd H6 nl (HO.lst (ns.map V.str)) nl=some (.lst (ns.map V.str)):=xC
  generalize upd H6 nl (HO.lst (ns.map V.str))=H7 at s7 k7 ⊢
  clear s6 hnl hrd5 k5 k45 s25
  refine ⟨_,rfl,nl,rfl,⟨_,SqL.of k7⟩,?_⟩
  refine x8 (K:=K) (a:=nl) (xs:=ns.map V.str) (λi τ acc H6=>(∃ t0,τ=[t0])/\acc=(List.replicate i true).map V.bl/\Same H7 H6) ⟨⟨_,rfl⟩,rfl,Same.refl _⟩ (by rw [zA];omega) ?_ ?_ ?_
  ·rintro i τ acc H6 ⟨_,rfl,s6⟩
   exact ⟨by rw [zA,yf];exact zD _,SqL.of (s6 _ _ k7)⟩
  ·rintro i v τ acc H6 C hv ⟨⟨t0,rfl⟩,rfl,s6⟩ hC
   obtain ⟨y,hy,rfl⟩:=xW hv
   have wd:=ro.word y (zB hy)
   refine ⟨_,rfl,.str y, "str", rfl,rfl,λz e=>by cases e;have:=wd.2.1;omega,λH' s'=>?_⟩
   rw [wd.name]
   exact hC _ _ _ ⟨⟨_,rfl⟩,by rw [List.replicate_succ',zC];rfl,s6.trans s'⟩
  rintro τ acc H8 ⟨_,rfl,s8⟩ lc hlc
  rw [zA]
  have s9:=s8.trans (xE (o:=HO.lst ((List.replicate ns.length true).map V.bl)) hlc)
  have k9:upd H8 lc (HO.lst ((List.replicate ns.length true).map V.bl)) lc=some (.lst ((List.replicate ns.length true).map V.bl)):=xC
  generalize upd H8 lc (HO.lst ((List.replicate ns.length true).map V.bl))=H9 at s9 k9 ⊢
  clear s8 hlc
  refine ⟨lc,_,rfl,SqL.of k9,_,rfl,iteB0 (by rw [all_rep];rfl) ?_⟩
  refine ⟨_,rfl,nl,ns,rfl,s9 _ _ k7,by omega,λst hst=>?_⟩
  have s10:=s9.trans (xE (o:=setN st (dst ns).length) hst)
  have k10:upd H9 st (setN st (dst ns).length) st=some (setN st (dst ns).length):=xC
  generalize upd H9 st (setN st (dst ns).length)=H10 at s10 k10 ⊢
  clear s9 k9 hst
  have kn:=s10 _ _ k7
  have s2a:=s7.trans s10
  refine ⟨st,_,rfl,k10,_,rfl,nl,_,rfl,.inl (SqL.of kn),rfl,_,rfl,iteB0 (by rw [dst_same ro.nodup,zA];simp) ?_⟩
  have sHa:Same H H10:=s2.trans s2a
  refine ⟨_,rfl,_,rfl,nl,rl,ns,rooms,ms,ls,xs,rfl,kn,ro,hrd.same s2a,ex.trans hds.symm,L2.MT.same mt sHa,λb tr tm ps Hb bb mtb hb gd pm=>?_⟩
  have mta:=L2.MT.same mt sHa
  have knb:=MT.keep mta bb kn (by intro ys z;cases z)
  refine ⟨_,rfl,_,rfl,_,rfl,_,rfl,_,rfl,nl,b,rl,ns,rooms,ms,ls,xs,tr,tm,ps,rfl,knb,ro,Sm.MT.read mta bb (hrd.same s2a),ex.trans hds.symm,hb,gd.len,λll ys Hc sc hll hL ey=>?_⟩
  refine ⟨by show 3<=sizeLine;omega,λp hp=>?_⟩
  have sd:=sc.trans (xE (o:=HO.tup [V.ref nl,V.ref b,V.ref ll]) hp)
  have fll:H ll=none:=by
   cases e:H ll with
   | none=>rfl
   | some o=>
    have e1:=sHa _ _ e
    have nT:ll≠a.tP:=λz=>by rcases mtb with m | ⟨_,m,_⟩ <;> (rw [z,m] at hll;cases hll)
    rw [bb _ _ nT e1] at hll;cases hll
  exact q p nl b ll tr tm ps ys _ (λc o n e=>sd _ _ (bb c o n (sHa _ _ e))) (L2.MT.same mtb sd) ⟨xC,sd _ _ knb,hb.same sd,hL.same (xE hp)⟩ fnl fll (λz=>by rw [<-z,knb] at hll;cases hll) gd pm ey
theorem Dp:FnScope ["_law_script", "_law_k", "_law_cell", "_law_left"] ["_law_script", "_law_k"] (defScope B4):=⟨rfl,rfl,rfl,by decide +kernel,rfl,by decide +kernel,by decide +kernel⟩
theorem EA (T:Tx K mg a t_LAST_TIME t_MOST_WALKERS t_MOST_ROOM t_MOST_MEETINGS t_MOST_MANY t_LONGEST_NAME t_MOST_FIGURES t_MOST_LETTERS) (B:BmAt mg base):OkD T.As P w base 1 (spPurse K):=by
 refine T.As.F.ok Dp (λvs H Q E h=>?_) (λcdv A outer s H vs Q E hr h=>?_)
 ·obtain ⟨a,ns,k,rfl,_⟩:=h;rfl
 ·have nd:=Dp.nd
  have hu:=hr.units
  obtain ⟨sa,ns,k,rfl,hS,hk,q⟩:=h
  refine ⟨_,(@xJ _ _ _ (@xN _ _ _ _ _ _ (xM (i:=2) nd rfl rfl xD) (@xN _ _ _ _ _ _ (@xY _ _ _ _ _ _ _ _ (@xS _ _ _ _ _ _ _ _ op_lt (pv 1) (xL (xP rfl) (by rfl) T.b_len PySem.boot_len (@xA _ _ _ (@xB _ _ _ _ _ (pv 0) xG rfl))) (nomark _)) (@xJ _ _ _ (@xT _ _ _ (xM (i:=2) nd rfl rfl (@xU _ _ _ _ _ _ _ (xV rfl) (pv 0) (pv 1) (λ_ _=>rfl))))) xO) (@xN _ _ _ _ _ _ (xM (i:=3) nd rfl rfl xD) (@xN _ _ _ _ _ _ (@xY _ _ _ _ _ _ _ _ (@xS _ _ _ _ _ _ _ _ op_lt (pv 2) xD (nomark _)) (@xJ _ _ _ (@xT _ _ _ (xM (i:=3) nd rfl rfl (@xQ _ _ _ _ _ _ _ _ op_sub (@pe_un _ _ _ _ _ _ un_neg xD) (pv 2))))) xO) (@xN _ _ _ _ _ _ (@xY _ _ _ _ _ _ _ _ (@xS _ _ _ _ _ _ _ _ op_ge (pv 2) (@xQ _ _ _ _ _ _ _ _ op_pow xD xD) (nomark _)) (@xJ _ _ _ (@xT _ _ _ (xM (i:=3) nd rfl rfl (pv 2)))) xO) (@xT _ _ _ (@xR _ _ _ _ (@xl _ _ _ _ (@xA _ _ _ (@xB _ _ _ _ _ (pv 3) (@xB _ _ _ _ _ (@xQ _ _ _ _ _ _ _ _ op_mod (@xQ _ _ _ _ _ _ _ _ xj (@xQ _ _ _ _ _ _ _ _ xj (@xQ _ _ _ _ _ _ _ _ op_mul (pv 2) xD) (@xQ _ _ _ _ _ _ _ _ op_mul (pv 1) xD)) xD) xD) (@xB _ _ _ _ _ xD xG rfl) rfl) rfl))))))))))),?_⟩
  have c18:CPow 10 18:=⟨by decide,by decide,by decide⟩
  have s3:3<=sizeLine:=by rw [sizeLine_eq];decide
  have fin:∀ (x y:Int) p,H p=none->Q (.ref p) (upd H p (.lst [.int x,.int y,.int 0])):=λx y p hp=>q p _ hp ⟨x,y,0,xC⟩ (xE hp)
  have c69:∀ x:Int,CMul x 69:=λx=>.inr ⟨by decide,by decide⟩
  have c405:∀ x:Int,CMul x 40503:=λx=>.inr ⟨by decide,by decide⟩
  refine (zr rfl (zr rfl ⟨sa,zr rfl ⟨.inl hS,zr2 rfl rfl (zr rfl (iteN (fun σ H1=>∃ c:Int,σ=[some (.ref sa),some (.int k),some (.int c),none]/\H=H1) ?_ (λc k0=>?_) (λc=>⟨0,rfl,rfl⟩)))⟩⟩))
  ·rintro σ H1 ⟨c,rfl,rfl⟩
   refine (zr rfl (zr2 rfl rfl (zr rfl (iteN (fun σ H1=>∃ d:Int,σ=[some (.ref sa),some (.int k),some (.int c),some (.int d)]/\H=H1) ?_ (λz k0=>?_) (λz=>⟨0,rfl,rfl⟩)))))
   ·rintro σ H1 ⟨d,rfl,rfl⟩
    refine (zr rfl (zr2 rfl rfl ⟨c18,zr2 rfl rfl (zr rfl (iteN (fun σ H1=>∃ d:Int,σ=[some (.ref sa),some (.int k),some (.int c),some (.int d)]/\H=H1) ?_ (λz k0=>(zr rfl (k0 _ _ ⟨c,rfl,rfl⟩))) (λz=>⟨d,rfl,rfl⟩)))⟩))
    rintro σ H1 ⟨d,rfl,rfl⟩
    exact (zr rfl (zr rfl (zr2 rfl rfl ⟨c69 _,zr rfl (zr2 rfl rfl ⟨c405 _,zr2 rfl rfl (zr2 rfl rfl (zr2 rfl rfl ⟨(by show (0:Int) < 2147483647;decide),s3,fin _ _⟩))⟩)⟩)))
   ·exact (zr rfl (zr rfl (zr2 rfl rfl (k0 _ _ (zr rfl rfl)))))
  ·have hk2:k < ns.length:=by
    have:=of_decide_eq_true c
    rw [zA] at this;omega
   exact (zr rfl (zr rfl ⟨sa,_,zr2 rfl rfl ⟨hS,wB (v:=V.int ns[k]) (by simp [hk2]),k0 _ _ (zr rfl rfl)⟩⟩))
theorem DV:FnScope ["_law_purse_here", "_law_many", "_law_digit", "_law_mixed"] ["_law_purse_here", "_law_many"] (defScope CB):=⟨rfl,rfl,rfl,by decide +kernel,rfl,by decide +kernel,by decide +kernel⟩
theorem xo (T:Tx K mg a t_LAST_TIME t_MOST_WALKERS t_MOST_ROOM t_MOST_MEETINGS t_MOST_MANY t_LONGEST_NAME t_MOST_FIGURES t_MOST_LETTERS) (B:BmAt mg base):OkD T.Ab P w base 1 (spTake):=by
 refine T.Ab.F.ok DV (λvs H Q E h=>?_) (λcdv A outer s H vs Q E hr h=>?_)
 ·obtain ⟨p,n,rfl,_⟩:=h;rfl
 ·have nd:=DV.nd
  have hu:=hr.units
  obtain ⟨p,n,rfl,n0,n1,⟨x,y,z,hp⟩,q⟩:=h
  refine ⟨_,(@xJ _ _ _ (@xN _ _ _ _ _ _ (@xY _ _ _ _ _ _ _ _ (@xS _ _ _ _ _ _ _ _ op_gt (@xU _ _ _ _ _ _ _ (xV rfl) (pv 0) xD (λ_ _=>rfl)) xD (nomark _)) (@xJ _ _ _ (@xN _ _ _ _ _ _ (xM (i:=2) nd rfl rfl (@xQ _ _ _ _ _ _ _ _ op_mod (@xU _ _ _ _ _ _ _ (xV rfl) (pv 0) xD (λ_ _=>rfl)) (pv 1))) (@xN _ _ _ _ _ _ (ps_asg (@xQ _ _ _ _ _ _ _ _ op_fdivB (@xU _ _ _ _ _ _ _ (xV rfl) (pv 0) xD (λ_ _=>rfl)) (pv 1)) (pg_sub (pv 0) xD set_list)) (@xT _ _ _ (@xR _ _ _ _ (pv 2)))))) xO) (@xN _ _ _ _ _ _ (ps_augS (pv 0) xD (get_list rfl) xD ip_add set_list) (@xN _ _ _ _ _ _ (xM (i:=3) nd rfl rfl (@xQ _ _ _ _ _ _ _ _ op_mod (@xQ _ _ _ _ _ _ _ _ op_mul (@xQ _ _ _ _ _ _ _ _ xj (@xU _ _ _ _ _ _ _ (xV rfl) (pv 0) xD (λ_ _=>rfl)) (@xQ _ _ _ _ _ _ _ _ op_mul (@xU _ _ _ _ _ _ _ (xV rfl) (pv 0) xD (λ_ _=>rfl)) xD)) xD) xD)) (@xN _ _ _ _ _ _ (xM (i:=3) nd rfl rfl (@xQ _ _ _ _ _ _ _ _ op_mod (@xQ _ _ _ _ _ _ _ _ xj (@xQ _ _ _ _ _ _ _ _ xj (@xQ _ _ _ _ _ _ _ _ op_mul (pv 3) (pv 3)) (@xQ _ _ _ _ _ _ _ _ op_mul (@xU _ _ _ _ _ _ _ (xV rfl) (pv 0) xD (λ_ _=>rfl)) xD)) (@xU _ _ _ _ _ _ _ (xV rfl) (pv 0) xD (λ_ _=>rfl))) xD)) (@xT _ _ _ (@xR _ _ _ _ (@xQ _ _ _ _ _ _ _ _ op_mod (@xQ _ _ _ _ _ _ _ _ op_fdivB (@xQ _ _ _ _ _ _ _ _ op_mod (@xQ _ _ _ _ _ _ _ _ op_mul (pv 3) xD) xD) xD) (pv 1))))))))),?_⟩
  have hS:SqL K H p _:=SqL.of hp
  have cm:∀ x c:Int,-(2 ^ 64) < c->c < 2 ^ 64->CMul x c:=λx c h h'=>.inr ⟨h,h'⟩
  refine (zr rfl ⟨p,_,zr2 rfl rfl ⟨hS,rfl,zr2 rfl rfl (zr rfl (iteD (λh1=>?_) λh1=>?_))⟩⟩)
  ·refine (zr rfl ⟨p,_,zr2 rfl rfl ⟨hS,rfl,zr rfl (zr2 rfl rfl ⟨n0,?_⟩)⟩⟩)
   refine (zr rfl ⟨p,_,zr2 rfl rfl ⟨hS,rfl,zr rfl (zr2 rfl rfl ⟨⟨n0,n1⟩,zr rfl ⟨p,_,_,0,rfl,rfl,hp,rfl,?_⟩⟩)⟩⟩)
   exact (zr rfl (q _ _ (yN _ (by omega)) (yB _ n0) ⟨But.set,_,_,_,xC⟩))
  ·refine (zr rfl ⟨p,_,zr2 rfl rfl ⟨hS,rfl,zr2 rfl rfl ⟨p,_,_,2,rfl,rfl,hp,rfl,?_⟩⟩⟩)
   have h2:(upd H p (HO.lst ([V.int x,V.int y,V.int z].set 2 (.int (z + 1))))) p=some (.lst [V.int x,V.int y,V.int (z + 1)]):=xC
   have b2:But p H (upd H p (HO.lst ([V.int x,V.int y,V.int z].set 2 (.int (z + 1))))):=But.set
   generalize upd H p (HO.lst ([V.int x,V.int y,V.int z].set 2 (.int (z + 1))))=H2 at h2 b2 ⊢
   have hS2:SqL K H2 p _:=SqL.of h2
   have big:(2147483647:Int) < 2 ^ 64:=by decide
   have low:-(2:Int) ^ 64 < 0:=by decide
   have pos:(0:Int) < 2147483647:=by decide
   refine (zr rfl ⟨p,_,zr2 rfl rfl ⟨hS2,rfl,zr rfl ⟨p,_,zr2 rfl rfl ⟨hS2,rfl,zr2 rfl rfl ⟨cm _ _ (by decide) (by decide),zr2 rfl rfl (zr2 rfl rfl ⟨cm _ _ (by decide) (by decide),zr2 rfl rfl ⟨(by show (0:Int) < 2147483647;decide),?_⟩⟩)⟩⟩⟩⟩⟩)
   have m0:=yN ((y + (z + 1) * 362437) * 48271) (show (2147483647:Int)≠0 by decide)
   have m1:=yB ((y + (z + 1) * 362437) * 48271) pos
   refine (zr rfl (zr rfl (zr2 rfl rfl ⟨.inl ⟨Int.lt_of_lt_of_le low m0,Int.lt_trans m1 big⟩,zr rfl ⟨p,_,zr2 rfl rfl ⟨hS2,rfl,zr2 rfl rfl ⟨cm _ _ (by decide) (by decide),zr2 rfl rfl (zr rfl ⟨p,_,zr2 rfl rfl ⟨hS2,rfl,zr2 rfl rfl (zr2 rfl rfl ⟨(by show (0:Int) < 2147483629;decide),?_⟩)⟩⟩)⟩⟩⟩⟩)))
   refine (zr rfl (zr2 rfl rfl ⟨cm _ _ (by decide) (by decide),zr2 rfl rfl ⟨(by show (0:Int) < 2147483563;decide),zr2 rfl rfl ⟨⟨by decide,by decide⟩,zr rfl (zr2 rfl rfl ⟨n0,?_⟩)⟩⟩⟩))
   exact q _ _ (yN _ (by omega)) (yB _ n0) ⟨b2,_,_,_,h2⟩
theorem Do:FnScope ["_law_purse_here", "_law_walkers", "_law_rooms_here", "_law_walker", "_law_room"] ["_law_purse_here", "_law_walkers"] (defScope B3):=⟨rfl,rfl,rfl,by decide +kernel,rfl,by decide +kernel,by decide +kernel⟩
theorem Ez (T:Tx K mg a t_LAST_TIME t_MOST_WALKERS t_MOST_ROOM t_MOST_MEETINGS t_MOST_MANY t_LONGEST_NAME t_MOST_FIGURES t_MOST_LETTERS) (B:BmAt mg base):OkD T.B7 P w base 2 (spRooms):=by
 have Aa:=xo P w base T B
 refine T.B7.F.ok Do (λvs H Q E h=>?_) (λcdv A outer s H vs Q E hr h=>?_)
 ·obtain ⟨p,n,rfl,_⟩:=h;rfl
 ·have nd:=Do.nd
  have hu:=hr.units
  obtain ⟨p,n,rfl,hn,hp,q⟩:=h
  refine ⟨_,(@xJ _ _ _ (@xN _ _ _ _ _ _ (xM (i:=2) nd rfl rfl (@xl _ _ _ _ pa_nil)) (@xN _ _ _ _ _ _ (wO PassesOwn.never rfl (pi_range1 rfl T.b_range (@xA _ _ _ (@xB _ _ _ _ _ (pv 1) xG rfl))) (xI (i:=3) nd rfl rfl) (@xJ _ _ _ (@xN _ _ _ _ _ _ (xM (i:=4) nd rfl rfl (@xQ _ _ _ _ _ _ _ _ op_fdivB (pcl Aa hr T.Ab (@xA _ _ _ (@xB _ _ _ _ _ (pv 0) (@xB _ _ _ _ _ xD xG rfl) rfl))) xD)) (@xN _ _ _ _ _ _ (@xY _ _ _ _ _ _ _ _ (@xS _ _ _ _ _ _ _ _ op_eq (pv 4) xD (nomark _)) (@xJ _ _ _ (@xT _ _ _ (xM (i:=4) nd rfl rfl (pcl Aa hr T.Ab (@xA _ _ _ (@xB _ _ _ _ _ (pv 0) (@xB _ _ _ _ _ xD xG rfl) rfl)))))) xO) (@xT _ _ _ (xx (wP ze zg zh xr (pv 2) (@xA _ _ _ (@xB _ _ _ _ _ (pv 4) xG rfl))))))))) (@xT _ _ _ (@xR _ _ _ _ (xh (call_tuple_of) (by rfl) T.b_tuple zq (@xA _ _ _ (@xB _ _ _ _ _ (pv 2) xG rfl)))))))),?_⟩
  have line:1001<=sizeLine:=by rw [sizeLine_eq];decide
  refine ⟨zf _,λl hl=>?_⟩
  have npl:=hp.ne hl
  refine (zr rfl (zr rfl ⟨by omega,by omega,?_⟩))
  refine for_range (lo:=0) (n:=n) (λi σ H2=>∃ v3 v4 rs,σ=[some (.ref p),some (.int n),some (.ref l),v3,v4]/\H2 l=some (.lst (List.map V.int rs))/\rs.length=i/\(∀ r∈rs,(0:Int)<=r/\r<=99)/\Go p H H2)
   ⟨_,_,[],rfl,xC,rfl,(λ_ z=>nomatch z),(Go.refl hp).new hl⟩ ?_ ?_
  ·rintro i σ H2 hi ⟨v3,v4,rs,rfl,h2,hlen,hr,go⟩
   refine (zr rfl ⟨p,zr rfl ⟨by decide,by decide,go.2,λd H3 d0 d1 g3=>(zr2 rfl rfl ⟨⟨by decide,by decide⟩,?_⟩)⟩⟩)
   refine (zr rfl ⟨rfl,zr rfl (iteN (fun σ H4=>∃ x:Int,σ=[some (.ref p),some (.int n),some (.ref l),some (.int (0 + (i:Int))),some (.int x)]/\0<=x/\x<=99/\Go p H2 H4) ?_ (λc k0=>(zr rfl ⟨p,zr rfl ⟨by decide,by decide,g3.2,λe H4 e0 e1 g4=>k0 _ _ ⟨e,rfl,e0,by omega,g3.trans g4⟩⟩⟩)) (λc=>(zr rfl ⟨by omega,by omega,g3⟩)))⟩)
   rintro σ H4 ⟨x,rfl,x0,x1,g4⟩
   have h4:=g4.1 l _ npl h2
   refine (zr rfl ⟨.inl ⟨rfl,_,SqL.of h4⟩,zr rfl ⟨l,zr2 rfl rfl ⟨h4,by rw [zA];omega,_,_,rs++[x],rfl,by rw [xC,zC];rfl,by simp [hlen],λr hr'=>?_,?_⟩⟩⟩)
   ·rcases zZ.mp hr' with h | h
    ·exact hr r h
    ·cases zP.mp h;exact ⟨x0,x1⟩
   ·have g2:=go.trans g4
    refine ⟨λb u nb e=>?_,?_⟩
    ·rw [xH (xF e hl)];exact g2.1 b u nb e
    ·obtain ⟨a,b,c,e⟩:=g2.2
     exact ⟨a,b,c,by rw [xH npl.symm];exact e⟩
  ·rintro σ H2 ⟨v3,v4,rs,rfl,h2,hlen,hr,go⟩
   exact (zr rfl ⟨l,zr rfl (.inl ⟨SqL.of h2,λt ht=>q t rs _ (go.new ht) xC hlen hr⟩)⟩)
theorem DW:FnScope ["_law_purse_here", "_law_way"] ["_law_purse_here"] (defScope CC):=⟨rfl,rfl,rfl,by decide +kernel,rfl,by decide +kernel,by decide +kernel⟩
theorem EM (T:Tx K mg a t_LAST_TIME t_MOST_WALKERS t_MOST_ROOM t_MOST_MEETINGS t_MOST_MANY t_LONGEST_NAME t_MOST_FIGURES t_MOST_LETTERS) (B:BmAt mg base):OkD T.CL P w base 2 (spStep):=by
 have Aa:=xo P w base T B
 refine T.CL.F.ok DW (λvs H Q E h=>?_) (λcdv A outer s H vs Q E hr h=>?_)
 ·obtain ⟨p,rfl,_⟩:=h;rfl
 ·have nd:=DW.nd
  have hu:=hr.units
  obtain ⟨p,rfl,hp,q⟩:=h
  refine ⟨_,(@xJ _ _ _ (@xN _ _ _ _ _ _ (xM (i:=1) nd rfl rfl (pcl Aa hr T.Ab (@xA _ _ _ (@xB _ _ _ _ _ (pv 0) (@xB _ _ _ _ _ xD xG rfl) rfl)))) (@xN _ _ _ _ _ _ (@xY _ _ _ _ _ _ _ _ (@xS _ _ _ _ _ _ _ _ op_lt (pv 1) xD (nomark _)) (@xJ _ _ _ (@xT _ _ _ (@xR _ _ _ _ (@xU _ _ _ _ _ _ _ (xV rfl) (@xl _ _ _ _ (@xA _ _ _ (@xB _ _ _ _ _ xD (@xB _ _ _ _ _ xD (@xB _ _ _ _ _ xD xG rfl) rfl) rfl))) (pv 1) (λ_ _=>rfl))))) xO) (@xN _ _ _ _ _ _ (@xY _ _ _ _ _ _ _ _ (@xS _ _ _ _ _ _ _ _ op_eq (pv 1) xD (nomark _)) (@xJ _ _ _ (@xT _ _ _ (@xR _ _ _ _ (@xQ _ _ _ _ _ _ _ _ xj xD (pcl Aa hr T.Ab (@xA _ _ _ (@xB _ _ _ _ _ (pv 0) (@xB _ _ _ _ _ xD xG rfl) rfl))))))) xO) (@xT _ _ _ (@xR _ _ _ _ (@xQ _ _ _ _ _ _ _ _ xj xD (pcl Aa hr T.Ab (@xA _ _ _ (@xB _ _ _ _ _ (pv 0) (@xB _ _ _ _ _ (@xQ _ _ _ _ _ _ _ _ op_mul xD (@xQ _ _ _ _ _ _ _ _ op_pow xD xD)) xG rfl) rfl)))))))))),?_⟩
  have s3:3<=sizeLine:=by rw [sizeLine_eq];decide
  refine (zr rfl ⟨p,zr rfl ⟨by decide,by decide,hp,λd H1 d0 d1 g1=>(zr rfl (zr2 rfl rfl (zr rfl (iteD (λh1=>?_) λh1=>?_))))⟩⟩)
  ·obtain ⟨v,hv,v0,v1⟩:∃ v:Int,atI [V.int 0,V.int 1,V.int 1] d=some (V.int v)/\0<=v/\v<=1:=by
    obtain rfl | rfl | rfl:d=0\/d=1\/d=2:=by omega
    ·exact ⟨0,rfl,by decide,by decide⟩
    ·exact ⟨1,rfl,by decide,by decide⟩
    ·exact ⟨1,rfl,by decide,by decide⟩
   exact ⟨s3,λl hl=>(zr rfl (ixl xC hv (q _ _ v0 (by omega) (g1.new hl))))⟩
  ·refine (zr rfl ⟨rfl,zr rfl (iteD (λh2=>?_) λh2=>?_)⟩)
   ·exact (zr rfl ⟨p,zr rfl ⟨by decide,by decide,g1.2,λe H2 e0 e1 g2=>(zr2 rfl rfl (q _ _ (by omega) (by omega) (g1.trans g2)))⟩⟩)
   ·have e16:(16:Int) * 10 ^ Int.toNat 6=16000000:=by decide
    refine (zr rfl (zr2 rfl rfl ⟨⟨by decide,by decide,by decide⟩,zr2 rfl rfl ⟨.inl ⟨by decide,by decide⟩,p,zr rfl ⟨by decide,by decide,g1.2,λe H2 e0 e1 g2=>(zr2 rfl rfl (q _ _ (by omega) (by rw [e16] at e1;omega) (g1.trans g2)))⟩⟩⟩))
theorem BX:FnScope ["_law_purse_here", "_law_walkers", "_law_most", "_law_found", "_law_when", "_law_busy", "_law_k", "_law_one", "_law_other", "_law_gap", "_law_passed", "_law_late"] ["_law_purse_here", "_law_walkers", "_law_most"] (defScope wJ):=⟨rfl,rfl,rfl,by decide +kernel,rfl,by decide +kernel,by decide +kernel⟩
theorem D6 (T:Tx K mg a t_LAST_TIME t_MOST_WALKERS t_MOST_ROOM t_MOST_MEETINGS t_MOST_MANY t_LONGEST_NAME t_MOST_FIGURES t_MOST_LETTERS) (B:BmAt mg base):OkD T.A6 P w base 3 (spMeetings):=by
 have Aa:=xo P w base T B
 have E6:=EM P w base T B
 refine T.A6.F.ok BX (λvs H Q E h=>?_) (λcdv A outer s H vs Q E hr h=>?_)
 ·obtain ⟨p,w,n,rfl,_⟩:=h;rfl
 ·have nd:=BX.nd
  have hu:=hr.units
  obtain ⟨p,w,n,rfl,hn,w9,hw,hp,q⟩:=h
  refine ⟨_,(@xJ _ _ _ (@xN _ _ _ _ _ _ (xM (i:=3) nd rfl rfl (@xl _ _ _ _ pa_nil)) (@xN _ _ _ _ _ _ (xM (i:=4) nd rfl rfl (@xQ _ _ _ _ _ _ _ _ xj xD (@xQ _ _ _ _ _ _ _ _ op_mul (@xQ _ _ _ _ _ _ _ _ op_fdivB (pcl Aa hr T.Ab (@xA _ _ _ (@xB _ _ _ _ _ (pv 0) (@xB _ _ _ _ _ xD xG rfl) rfl))) xD) (pcl Aa hr T.Ab (@xA _ _ _ (@xB _ _ _ _ _ (pv 0) (@xB _ _ _ _ _ (@xQ _ _ _ _ _ _ _ _ op_pow xD xD) xG rfl) rfl)))))) (@xN _ _ _ _ _ _ (xM (i:=5) nd rfl rfl (@xl _ _ _ _ pa_nil)) (@xN _ _ _ _ _ _ (wO PassesOwn.never rfl (pi_range1 rfl T.b_range (@xA _ _ _ (@xB _ _ _ _ _ (pv 2) xG rfl))) (xI (i:=6) nd rfl rfl) (@xJ _ _ _ (@xN _ _ _ _ _ _ (xM (i:=7) nd rfl rfl (pcl Aa hr T.Ab (@xA _ _ _ (@xB _ _ _ _ _ (pv 0) (@xB _ _ _ _ _ (pv 1) xG rfl) rfl)))) (@xN _ _ _ _ _ _ (xM (i:=8) nd rfl rfl (@xQ _ _ _ _ _ _ _ _ op_mod (@xQ _ _ _ _ _ _ _ _ xj (@xQ _ _ _ _ _ _ _ _ xj (pv 7) xD) (pcl Aa hr T.Ab (@xA _ _ _ (@xB _ _ _ _ _ (pv 0) (@xB _ _ _ _ _ (@xQ _ _ _ _ _ _ _ _ op_sub (pv 1) xD) xG rfl) rfl)))) (pv 1))) (@xN _ _ _ _ _ _ (xM (i:=9) nd rfl rfl (pcl E6 hr T.CL (@xA _ _ _ (@xB _ _ _ _ _ (pv 0) xG rfl)))) (@xN _ _ _ _ _ _ (@xY _ _ _ _ _ _ _ _ (@PW.pt _ _ _ (@wN _ _ _ _ _ _ _ (@xS _ _ _ _ _ _ _ _ (op_in_seq' rfl) (pv 7) (pv 5) rfl) (@wD _ _ _ _ (@xS _ _ _ _ _ _ _ _ (op_in_seq' rfl) (pv 8) (pv 5) rfl)))) (@xJ _ _ _ (@xT _ _ _ (xM (i:=9) nd rfl rfl (xL (call_max2 rfl) (by rfl) T.b_max PyProof.Rows.boot_max (@xA _ _ _ (@xB _ _ _ _ _ xD (@xB _ _ _ _ _ (pv 9) xG rfl) rfl)))))) xO) (@xN _ _ _ _ _ _ (@xY _ _ _ _ _ _ _ _ (@xS _ _ _ _ _ _ _ _ op_gt (pv 9) xD (nomark _)) (@xJ _ _ _ (@xT _ _ _ (xM (i:=5) nd rfl rfl (@xl _ _ _ _ pa_nil)))) xO) (@xN _ _ _ _ _ _ (xM (i:=4) nd rfl rfl (@xQ _ _ _ _ _ _ _ _ xj (pv 4) (pv 9))) (@xN _ _ _ _ _ _ (xM (i:=5) nd rfl rfl (@xQ _ _ _ _ _ _ _ _ op_cat (pv 5) (@xl _ _ _ _ (@xA _ _ _ (@xB _ _ _ _ _ (pv 7) (@xB _ _ _ _ _ (pv 8) xG rfl) rfl))))) (@xN _ _ _ _ _ _ (xM (i:=10) nd rfl rfl (@xQ _ _ _ _ _ _ _ _ xj xD (@xQ _ _ _ _ _ _ _ _ op_fdivB (pcl Aa hr T.Ab (@xA _ _ _ (@xB _ _ _ _ _ (pv 0) (@xB _ _ _ _ _ xD xG rfl) rfl))) xD))) (@xN _ _ _ _ _ _ (@xY _ _ _ _ _ _ _ _ (@xS _ _ _ _ _ _ _ _ op_eq (pcl Aa hr T.Ab (@xA _ _ _ (@xB _ _ _ _ _ (pv 0) (@xB _ _ _ _ _ xD xG rfl) rfl))) xD (nomark _)) (@xJ _ _ _ (@xT _ _ _ (xM (i:=10) nd rfl rfl (@xQ _ _ _ _ _ _ _ _ xj xD (pcl Aa hr T.Ab (@xA _ _ _ (@xB _ _ _ _ _ (pv 0) (@xB _ _ _ _ _ xD xG rfl) rfl))))))) xO) (@xT _ _ _ (xx (wP ze zg zh xr (pv 3) (@xA _ _ _ (@xB _ _ _ _ _ (@wF _ _ _ _ _ (@xA _ _ _ (@xB _ _ _ _ _ (pv 4) (@xB _ _ _ _ _ (xL (call_min2 rfl) (by rfl) T.b_min PyProof.Rows.boot_min (@xA _ _ _ (@xB _ _ _ _ _ (pv 7) (@xB _ _ _ _ _ (pv 8) xG rfl) rfl))) (@xB _ _ _ _ _ (xL (call_max2 rfl) (by rfl) T.b_max PyProof.Rows.boot_max (@xA _ _ _ (@xB _ _ _ _ _ (pv 7) (@xB _ _ _ _ _ (pv 8) xG rfl) rfl))) (@xB _ _ _ _ _ (pv 10) xG rfl) rfl) rfl) rfl))) xG rfl)))))))))))))))) (@xN _ _ _ _ _ _ (xM (i:=11) nd rfl rfl xD) (@xN _ _ _ _ _ _ (@xY _ _ _ _ _ _ _ _ (@PW.pt _ _ _ (@pw_and _ _ _ _ _ _ _ (@xS _ _ _ _ _ _ _ _ op_eq (pcl Aa hr T.Ab (@xA _ _ _ (@xB _ _ _ _ _ (pv 0) (@xB _ _ _ _ _ xD xG rfl) rfl))) xD (nomark _)) (@pw_and1 _ _ _ _ (@xS _ _ _ _ _ _ _ _ (op_neNil hu) (pv 3) (@xl _ _ _ _ pa_nil) (nomark _))))) (@xJ _ _ _ (@xT _ _ _ (xM (i:=11) nd rfl rfl (@xQ _ _ _ _ _ _ _ _ op_sub (@xQ _ _ _ _ _ _ _ _ op_pow xD xD) (pv 4))))) xO) (@xT _ _ _ (@xR _ _ _ _ (xh (call_tuple_of) (by rfl) T.b_tuple zq (@xA _ _ _ (@xB _ _ _ _ _ (pe_comp (own:=["_law_then", "_law_low", "_law_high", "_law_room"]) (caps:=[11]) rfl (show CompScope ["_law_then", "_law_low", "_law_high", "_law_room"] [11] ["_law_purse_here", "_law_walkers", "_law_most", "_law_found", "_law_when", "_law_busy", "_law_k", "_law_one", "_law_other", "_law_gap", "_law_passed", "_law_late"] (defScope wJ) _ from ⟨rfl,by decide +kernel,by decide +kernel,by decide +kernel,by decide +kernel⟩) (@xm _ _ _ _ _ rfl (xL (call_sortT) (by rfl) T.b_sorted PyProof.Rows.boot_sorted (@xA _ _ _ (@xB _ _ _ _ _ (pv 3) xG rfl)))) (λ_ _ _ _=>(xq (n:=4) rfl rfl (xK (xI (i:=0) (show List.Nodup (["_law_then", "_law_low", "_law_high", "_law_room", "_law_late"]:List Str) from by decide +kernel) rfl rfl) (xK (xI (i:=1) (show List.Nodup (["_law_then", "_law_low", "_law_high", "_law_room", "_law_late"]:List Str) from by decide +kernel) rfl rfl) (xK (xI (i:=2) (show List.Nodup (["_law_then", "_law_low", "_law_high", "_law_room", "_law_late"]:List Str) from by decide +kernel) rfl rfl) (xK (xI (i:=3) (show List.Nodup (["_law_then", "_law_low", "_law_high", "_law_room", "_law_late"]:List Str) from by decide +kernel) rfl rfl) xi)))))) (λ_ _ _ _=>xz) (λ_ _ _ _=>(@wF _ _ _ _ _ (@xA _ _ _ (@xB _ _ _ _ _ (pv 1) (@xB _ _ _ _ _ (pv 2) (@xB _ _ _ _ _ (@xQ _ _ _ _ _ _ _ _ xj (pv 0) (pv 4)) (@xB _ _ _ _ _ (pv 3) xG rfl) rfl) rfl) rfl))))) xG rfl)))))))))))),?_⟩
  have line:1001<=sizeLine:=by rw [sizeLine_eq];decide
  have c7:CPow 10 7:=⟨by decide,by decide,by decide⟩
  have e7:(10:Int) ^ Int.toNat 7=10000000:=by decide
  have e64:(2:Int) ^ 64 > 1000:=by decide
  have e200:(2:Int) ^ 200 > 1000:=by decide
  refine ⟨zf _,λlf hlf=>?_⟩
  have npf:=hp.ne hlf
  have hp1:Purse (upd H lf (.lst [])) p:=hp.new hlf
  refine (zr rfl ⟨p,zr rfl ⟨by decide,by decide,hp1,λd H1 d0 d1 g1=>(zr2 rfl rfl ⟨⟨by decide,by decide⟩,zr rfl (zr2 rfl rfl ⟨c7,?_⟩)⟩)⟩⟩)
  refine ⟨p,zr rfl ⟨by decide,by decide,g1.2,λd2 H2 d20 d21 g2=>(zr2 rfl rfl ⟨.inl ⟨by omega,by omega⟩,zr2 rfl rfl ?_⟩)⟩⟩
  rw [e7] at d21
  refine ⟨zf _,λlb hlb=>?_⟩
  have fr2:=g1.trans g2
  have hlf2:H2 lf=some (.lst []):=fr2.1 lf _ npf xC
  have go0:Go p H H2:=((Go.refl hp).new hlf).trans fr2
  refine (zr rfl (zr rfl ⟨by omega,by omega,?_⟩))
  have wh0:1<=1 + d / 2 * d2/\1 + d / 2 * d2<=10000000:=by
   obtain h | h:d / 2=0\/d / 2=1:=by omega
   ·rw [h];omega
   ·rw [h];omega
  refine for_range (lo:=0) (n:=n) (PvM p lf w n H)
   ⟨_,_,_,_,_,_,lb,[],[],rfl,by rw [xH (xF hlf2 hlb)];exact hlf2,xC,(xF hlf2 hlb).symm,go0.2.ne hlb,(λ_ z=>nomatch z),⟨(λ_ z=>nomatch z),.nil,(λ_ z=>nomatch z)⟩,rfl,by simp,wh0.1,(by have:=wh0.2;simpa using this),go0.new hlb⟩ ?_ ?_
  ·rintro i σ H3 hi ⟨v6,v7,v8,v9,v10,wh,lb,bs,fs,rfl,h3f,h3b,nbf,nbp,h3r,F,lenf,lenb,wh1,wh2,go⟩
   have w2:2<=w:=by omega
   refine (zr rfl (zr rfl ⟨p,w,rfl,by omega,by omega,go.2,λone H4 o0 o1 g4=>?_⟩))
   refine (zr rfl (zr2 rfl rfl (zr rfl (zr rfl (zr2 rfl rfl ⟨p,zr rfl ⟨by omega,by omega,g4.2,λx H5 x0 x1 g5=>(zr2 rfl rfl (zr rfl (zr2 rfl rfl ⟨by omega,?_⟩)))⟩⟩)))))
   have ot:=oth_ok o0 o1 x0 x1
   refine (zr rfl ⟨p,rfl,g5.2,λgap H6 gap0 gap1 g6=>?_⟩)
   have g46:=g4.trans (g5.trans g6)
   have hb6:=g46.1 lb _ nbp h3b
   have hf6:=g46.1 lf _ npf h3f
   refine (zr rfl (zr rfl ⟨lb,zr rfl ⟨.inl (SqL.of hb6),rfl,flat_ints bs,zr rfl (iteO (fun σ H7=>∃ gp:Int,σ=[some (.ref p),some (.int w),some (.int n),some (.ref lf),some (.int wh),some (.ref lb),some (.int (0 + (i:Int))),some (.int one),some (.int ((one + 1 + x) % w)),some (.int gp),v10,none]/\H6=H7/\0<=gp/\gp<=16000000/\(gp=0->one ∉ bs/\(one + 1 + x) % w ∉ bs)) ?_ (λc1 k0=>?_) (λc1 k0=>(zr rfl (zr rfl ⟨lb,zr rfl ⟨.inl (SqL.of hb6),rfl,flat_ints bs,zr rfl (iteB (λc2=>?_) (λc2=>?_))⟩⟩))))⟩⟩))
   rotate_left
   ·exact (zr rfl (zr1 rfl (k0 _ _ (zr rfl ⟨rfl,by split <;> omega,by split <;> omega,λz=>by split at z <;> omega⟩))))
   ·exact (zr rfl (zr1 rfl (k0 _ _ (zr rfl ⟨rfl,by split <;> omega,by split <;> omega,λz=>by split at z <;> omega⟩))))
   ·have c1':one ∉ bs:=of_decide_eq_false (inV_ints.symm.trans c1)
    have c2':(one + 1 + x) % w ∉ bs:=of_decide_eq_false (inV_ints.symm.trans c2)
    exact k0 _ _ ⟨gap,rfl,rfl,by omega,by omega,λ_=>⟨c1',c2'⟩⟩
   rintro σ H7 ⟨gp,rfl,rfl,gp0,gp1,hg⟩
   refine (zr rfl (zr2 rfl rfl (zr rfl (iteN (fun σ H7=>∃ ly bz,σ=[some (.ref p),some (.int w),some (.int n),some (.ref lf),some (.int wh),some (.ref ly),some (.int (0 + (i:Int))),some (.int one),some (.int ((one + 1 + x) % w)),some (.int gp),v10,none]/\Go p H3 H7/\H7 ly=some (.lst (List.map V.int bz))/\ly≠p/\bz.length<=2 * i/\∀ z∈bs,gp=0->z∈bz) ?_ (λc3 k0=>⟨zf _,λln hln=>k0 _ _ ⟨ln,[],rfl,g46.new hln,xC,g46.2.ne hln,zf _,λ_ _ z=>by have:=of_decide_eq_true c3;omega⟩⟩) (λc3=>⟨lb,bs,rfl,g46,hb6,nbp,lenb,λ_ z _=>z⟩)))))
   rintro σ H7 ⟨ly,bz,rfl,gy,hyb,nyp,leny,hb0⟩
   have h3f':=gy.1 lf _ npf h3f
   refine (zr rfl (zr rfl (zr2 rfl rfl ?_)))
   refine (zr rfl (zr rfl (zr rfl ⟨by show 2<=sizeLine;omega,λl2 hl2=>?_⟩)))
   have g2':=gy.new (o:=HO.lst [V.int one,V.int ((one + 1 + x) % w)]) hl2
   have hyb2:=xE (o:=HO.lst [V.int one,V.int ((one + 1 + x) % w)]) hl2 _ _ hyb
   have h22:(upd H7 l2 (HO.lst [V.int one,V.int ((one + 1 + x) % w)])) l2=some (.lst [V.int one,V.int ((one + 1 + x) % w)]):=xC
   generalize upd H7 l2 (HO.lst [V.int one,V.int ((one + 1 + x) % w)])=H8 at g2' hyb2 h22 ⊢
   refine ⟨ly,l2,zr2 rfl rfl ⟨hyb2,h22,(by simp only [zA,zV,zy];omega),λl3 hl3=>?_⟩⟩
   have n3p:l3≠p:=g2'.2.ne hl3
   have n3f:l3≠lf:=(xF (g2'.1 lf _ npf h3f) hl3).symm
   have g3':=g2'.new (o:=HO.lst (List.map V.int bz++[V.int one,V.int ((one + 1 + x) % w)])) hl3
   have h3b':(upd H8 l3 (HO.lst (List.map V.int bz++[V.int one,V.int ((one + 1 + x) % w)]))) l3=some (.lst (List.map V.int (bz++[one,(one + 1 + x) % w]))):=by rw [xC,zC];rfl
   generalize upd H8 l3 (HO.lst (List.map V.int bz++[V.int one,V.int ((one + 1 + x) % w)]))=H9 at g3' h3b' ⊢
   refine (zr rfl ⟨p,zr rfl ⟨by decide,by decide,g3'.2,λd4 H10 d40 d41 g10=>(zr2 rfl rfl ⟨⟨by decide,by decide⟩,zr2 rfl rfl ?_⟩)⟩⟩)
   refine (zr rfl ⟨p,zr rfl ⟨by decide,by decide,g10.2,λd5 H11 d50 d51 g11=>⟨rfl,zr rfl (iteN (fun σ H12=>∃ mm:Int,σ=[some (.ref p),some (.int w),some (.int n),some (.ref lf),some (.int (wh + gp)),some (.ref l3),some (.int (0 + (i:Int))),some (.int one),some (.int ((one + 1 + x) % w)),some (.int gp),some (.int mm),none]/\1<=mm/\mm<=99/\Go p H9 H12) ?_ (λc5 k0=>(zr rfl ⟨p,zr rfl ⟨by decide,by decide,g11.2,λd6 H12 d60 d61 g12=>(zr2 rfl rfl (k0 _ _ (zr rfl ⟨by omega,by omega,(g10.trans g11).trans g12⟩)))⟩⟩)) (λc5=>(zr rfl ⟨by omega,by omega,g10.trans g11⟩)))⟩⟩⟩)
   rintro σ H12 ⟨mm,rfl,mm0,mm1,g12⟩
   have gall:=g3'.trans g12
   have hz:=gall.1 lf _ npf h3f
   refine (zr rfl ⟨.inl ⟨rfl,_,SqL.of hz⟩,zr rfl (zr rfl (zr rfl (zr1 rfl (zr rfl (zr rfl (zr1 rfl (zr rfl ⟨by show 4<=sizeLine;omega,λt ht=>⟨lf,zr2 rfl rfl ⟨(by rw [xH (xF hz ht)];exact hz),(by rw [zA];omega),?_⟩⟩⟩)))))))⟩)
   exact PvM.step npf hlf F lenf (bs':=bz++[one,(one + 1 + x) % w]) (by simp only [zI,zV,zy];omega) wh1 wh2 hz (g12.1 l3 _ n3p h3b') n3f n3p (λa ha=>gall.tups go.2 _ _ (h3r a ha)) (go.trans gall) ht gp0 gp1 o0 o1 ot.1 ot.2.1 ot.2.2 mm0 mm1 hg (λz hz1 hz2=>yi _ (hb0 z hz1 hz2)) (by simp) (by simp)
  ·rintro σ H3 ⟨v6,v7,v8,v9,v10,wh,lb,bs,fs,rfl,h3f,h3b,nbf,nbp,h3r,F,lenf,lenb,wh1,wh2,go⟩
   have c9:CPow 10 9:=⟨by decide,by decide,by decide⟩
   have e9:(10:Int) ^ Int.toNat 9=1000000000:=by decide
   refine (zr rfl ⟨p,zr rfl ⟨by decide,by decide,go.2,λd8 H4 _ _ g4=>⟨rfl,zr rfl (iteA (fun σ H5=>∃ late:Int,(∃ v6 v7 v8 v9 v10,σ=[some (.ref p),some (.int w),some (.int n),some (.ref lf),some (.int wh),some (.ref lb),v6,v7,v8,v9,v10,some (.int late)])/\Go p H3 H5/\0<=late/\(fs≠[]->wh + late<=1000000000)) ?_ (λc k0=>?_) (λc=>⟨0,⟨_,_,_,_,_,rfl⟩,g4,Int.le_refl _,λ_=>by omega⟩))⟩⟩⟩)
   rotate_left
   ·have h4f:=g4.1 lf _ npf h3f
    refine (zr rfl ⟨zf _,λl4 hl4=>⟨lf,l4,zr rfl ⟨rfl,SqL.of (by rw [xH (xF h4f hl4)];exact h4f),SqL.of xC,zr rfl (iteB (λc2=>?_) (λc2=>?_))⟩⟩⟩)
    ·exact (zr2 rfl rfl ⟨c9,zr rfl (zr2 rfl rfl (k0 _ _ ⟨_,⟨_,_,_,_,_,rfl⟩,g4.new hl4,by rw [e9];omega,λ_=>by rw [e9];omega⟩))⟩)
    ·exact k0 _ _ ⟨0,⟨_,_,_,_,_,rfl⟩,g4.new hl4,Int.le_refl _,λ_=>by omega⟩
   rintro σ Hz ⟨late,⟨v6',v7',v8',v9',v10',rfl⟩,gz,L0,L1⟩
   have hz:=gz.1 lf _ npf h3f
   refine (zr rfl ⟨lf,fs.map (λa=>(a.1,a.2.row)),rfl,?_,(by rw [zA];omega),(λa ha=>?_),λD qs hD pq sq=>?_⟩)
   ·rw [zp];exact SqL.of hz
   ·obtain ⟨b,hb,rfl⟩:=zO.mp ha
    exact ⟨gz.tups go.2 _ _ (h3r b hb),by intro z;cases z⟩
   obtain ⟨rs,prs,srs,rfl⟩:=rows_back pq sq
   refine ⟨D,rfl,⟨_,SqL.of xC⟩,?_⟩
   have lrs:rs.length=n:=by rw [prs.length_eq,lenf]
   have hDl:(upd Hz D (HO.lst (List.map (λa=>V.ref a.1) (List.map (λa:Addr×M4=>(a.1,a.2.row)) rs)))) D=some (.lst (rs.map λa=>V.ref a.1)):=by rw [xC,zp];rfl
   have rD:=λa (ha:a∈rs)=>(Tups.new (o:=HO.lst (List.map (λa=>V.ref a.1) (List.map (λa:Addr×M4=>(a.1,a.2.row)) rs))) hD) _ _ (gz.tups go.2 _ _ (h3r a (prs.mem_iff.mp ha)))
   have gD:=(go.trans gz).new (o:=HO.lst (List.map (λa=>V.ref a.1) (List.map (λa:Addr×M4=>(a.1,a.2.row)) rs))) hD
   refine x8 (K:=K) (a:=D) (xs:=rs.map λa=>V.ref a.1) (λi τ acc H5=>∃ ps:List (Addr×M4),(∃ t0 t1 t2 t3,τ=[t0,t1,t2,t3,some (.int late)])/\acc=(ps.map λa=>V.ref a.1)/\(ps.map (·.2))=((rs.take i).map λa=>a.2.late late)/\RowsAt H5 ps/\Same (upd Hz D (HO.lst (List.map (λa=>V.ref a.1) (List.map (λa:Addr×M4=>(a.1,a.2.row)) rs)))) H5)
    ?_ (by rw [zA];omega) ?_ ?_ ?_
   ·exact ⟨[],⟨_,_,_,_,rfl⟩,rfl,rfl,(λ_ z=>nomatch z),Same.refl _⟩
   ·rintro i τ acc H6 ⟨ps,⟨t0,t1,t2,t3,rfl⟩,rfl,eps,rws,sm⟩
    have:=congrArg List.length eps
    rw [zA,zA,zY] at this
    exact ⟨by rw [zA];omega,sm.seq (SqL.of hDl)⟩
   ·rintro i x τ acc H5 C hx ⟨ps,⟨t0,t1,t2,t3,rfl⟩,rfl,eps,rws,sm⟩ hC
    obtain ⟨r,hr,rfl⟩:=xW hx
    have hrow:=sm _ _ (rD r (zB hr))
    refine (un4 hrow (zr rfl (zr rfl (zr rfl (zr rfl (zr2 rfl rfl (zr rfl ⟨by show 4<=sizeLine;omega,λt ht=>hC _ _ _ ?_⟩)))))))
    refine ⟨ps++[(t,r.2.late late)],⟨_,_,_,_,rfl⟩,by rw [zC];rfl,by rw [zC,xt hr,zC,eps];rfl,λa ha=>?_,sm.trans (xE ht)⟩
    rcases zZ.mp ha with h | h
    ·exact xE ht _ _ (rws a h)
    ·cases zP.mp h
     exact xC
   ·rintro τ acc H6 ⟨ps,⟨t0,t1,t2,t3,rfl⟩,rfl,eps,rws,sm⟩ lt hlt
    refine ⟨lt,zr rfl (.inl ⟨SqL.of xC,λt ht=>q t ps _ (((gD.same sm).new hlt).new ht) xC ((rws.tups (Tups.new hlt)).tups (Tups.new ht)) ?_ ?_⟩)⟩
    ·rw [eps,zA,yV]
     exact F.good (by omega) L0 L1 prs srs
    ·have:=congrArg List.length eps
     rw [zA,zA,zA,yV] at this
     omega
theorem DY:FnScope ["_law_purse_here", "_law_most_walkers", "_law_most_meetings", "_law_walkers", "_law_most"] ["_law_purse_here", "_law_most_walkers", "_law_most_meetings"] (defScope CF):=⟨rfl,rfl,rfl,by decide +kernel,rfl,by decide +kernel,by decide +kernel⟩
theorem EO (T:Tx K mg a t_LAST_TIME t_MOST_WALKERS t_MOST_ROOM t_MOST_MEETINGS t_MOST_MANY t_LONGEST_NAME t_MOST_FIGURES t_MOST_LETTERS) (B:BmAt mg base):OkD T.CN P w base 4 (spBook):=by
 have Aa:=xo P w base T B
 have ES:=Ez P w base T B
 have Eo:=D6 P w base T B
 refine T.CN.F.ok DY (λvs H Q E h=>?_) (λcdv A outer s H vs Q E hr h=>?_)
 ·obtain ⟨p,a,n,rfl,_⟩:=h;rfl
 ·have nd:=DY.nd
  have hu:=hr.units
  obtain ⟨p,aw,n,rfl,a1,a2,hn,hp,q⟩:=h
  refine ⟨_,(@xJ _ _ _ (@xN _ _ _ _ _ _ (xM (i:=3) nd rfl rfl (@xQ _ _ _ _ _ _ _ _ xj xD (pcl Aa hr T.Ab (@xA _ _ _ (@xB _ _ _ _ _ (pv 0) (@xB _ _ _ _ _ (pv 1) xG rfl) rfl))))) (@xN _ _ _ _ _ _ (xM (i:=4) nd rfl rfl (xL (call_min2 rfl) (by rfl) T.b_min PyProof.Rows.boot_min (@xA _ _ _ (@xB _ _ _ _ _ (pv 2) (@xB _ _ _ _ _ (pcl Aa hr T.Ab (@xA _ _ _ (@xB _ _ _ _ _ (pv 0) (@xB _ _ _ _ _ (@xQ _ _ _ _ _ _ _ _ xj (pv 2) xD) xG rfl) rfl))) xG rfl) rfl)))) (@xN _ _ _ _ _ _ (@xY _ _ _ _ _ _ _ _ (@xS _ _ _ _ _ _ _ _ op_eq (pv 3) xD (nomark _)) (@xJ _ _ _ (@xT _ _ _ (xM (i:=4) nd rfl rfl xD))) xO) (@xT _ _ _ (@xR _ _ _ _ (@wF _ _ _ _ _ (@xA _ _ _ (@xB _ _ _ _ _ (pcl ES hr T.B7 (@xA _ _ _ (@xB _ _ _ _ _ (pv 0) (@xB _ _ _ _ _ (pv 3) xG rfl) rfl))) (@xB _ _ _ _ _ (pcl Eo hr T.A6 (@xA _ _ _ (@xB _ _ _ _ _ (pv 0) (@xB _ _ _ _ _ (pv 3) (@xB _ _ _ _ _ (pv 4) xG rfl) rfl) rfl))) xG rfl) rfl))))))))),?_⟩
  have line:1001<=sizeLine:=by rw [sizeLine_eq];decide
  have e200:(2:Int) ^ 200 > 1000:=by decide
  refine (zr rfl (zr rfl ⟨p,aw,rfl,by omega,by omega,hp,λd H1 d0 d1 g1=>(zr2 rfl rfl ?_)⟩))
  obtain ⟨k,rfl⟩:=zU d0
  refine (zr rfl (zr rfl (zr rfl (zr2 rfl rfl ⟨p,zr rfl ⟨by omega,by omega,g1.2,λe H2 e0 e1 g2=>(zr1 rfl ?_)⟩⟩))))
  obtain ⟨m,em,hm⟩:∃ m:Nat,(if e < (n:Int) then e else (n:Int))=m/\m<=n:=by
   refine ⟨(if e < (n:Int) then e else (n:Int)).toNat,?_,?_⟩ <;> split <;> omega
  refine (zr rfl ⟨rfl,zr rfl (iteN (fun σ H3=>∃ m:Nat,σ=[some (.ref p),some (.int aw),some (.int n),some (.int (1 + (k:Int))),some (.int m)]/\m<=n/\(m=0\/1<=k)/\Go p H H3) ?_ (λc k0=>k0 _ _ ⟨0,rfl,zf _,.inl rfl,g1.trans g2⟩) (λc=>⟨m,by rw [<-em];rfl,hm,.inr (by
    by_cases hk:k=0
    ·subst hk;exact absurd c (by simp)
    ·omega),g1.trans g2⟩))⟩)
  rintro σ H2 ⟨m,rfl,hm,hk,g2⟩
  refine (zr rfl (zr rfl ⟨p,1 + k,by simp,by omega,g2.2,λtr rooms H3 g3 h3 l3 r3=>(zr rfl (zr rfl (zr rfl ⟨p,_,m,rfl,by omega,by omega,by omega,g3.2,λtm ps H4 g4 h4 r4 gd l4=>⟨by show 2<=sizeLine;omega,λb hb=>?_⟩⟩)))⟩))
  have h3':=g4.tups g3.2 _ _ h3
  have tn:=Tups.new (o:=HO.tup [V.ref tr,V.ref tm]) hb
  refine q b rooms tr tm ps _ ((g2.trans (g3.trans g4)).new hb) ⟨xC,tn _ _ h3',tn _ _ h4,r4.tups tn⟩ (by omega) (by omega) r3 ?_ (by omega)
  rw [l3]
  simpa using gd
theorem Eg:FnScope ["_law_purse_here", "_law_high"] ["_law_purse_here"] (defScope Dt):=⟨rfl,rfl,rfl,by decide +kernel,rfl,by decide +kernel,by decide +kernel⟩
theorem EZ (T:Tx K mg a t_LAST_TIME t_MOST_WALKERS t_MOST_ROOM t_MOST_MEETINGS t_MOST_MANY t_LONGEST_NAME t_MOST_FIGURES t_MOST_LETTERS) (B:BmAt mg base):OkD T.Dy P w base 2 (spFar):=by
 have Aa:=xo P w base T B
 refine T.Dy.F.ok Eg (λvs H Q E h=>?_) (λcdv A outer s H vs Q E hr h=>?_)
 ·obtain ⟨p,rfl,_⟩:=h;rfl
 ·have nd:=Eg.nd
  have hu:=hr.units
  obtain ⟨p,rfl,hp,q⟩:=h
  refine ⟨_,(@xJ _ _ _ (@xN _ _ _ _ _ _ (xM (i:=1) nd rfl rfl (pcl Aa hr T.Ab (@xA _ _ _ (@xB _ _ _ _ _ (pv 0) (@xB _ _ _ _ _ xD xG rfl) rfl)))) (@xT _ _ _ (@xR _ _ _ _ (@xQ _ _ _ _ _ _ _ _ op_mod (@xQ _ _ _ _ _ _ _ _ xj (@xQ _ _ _ _ _ _ _ _ op_mul (pv 1) xD) (pcl Aa hr T.Ab (@xA _ _ _ (@xB _ _ _ _ _ (pv 0) (@xB _ _ _ _ _ xD xG rfl) rfl)))) (@xQ _ _ _ _ _ _ _ _ xj (@xQ _ _ _ _ _ _ _ _ op_pow xD xD) xD)))))),?_⟩
  refine (zr rfl ⟨p,zr rfl ⟨by decide,by decide,hp,λd H1 d0 d1 g1=>(zr rfl (zr2 rfl rfl ⟨.inr ⟨by decide,by decide⟩,zr rfl ⟨p,zr rfl ⟨by decide,by decide,g1.2,λe H2 e0 e1 g2=>(zr2 rfl rfl (zr2 rfl rfl ⟨⟨by decide,by decide,by decide⟩,zr2 rfl rfl (zr2 rfl rfl ⟨(by show (0:Int) < 10 ^ Int.toNat 9 + 1;decide),?_⟩)⟩))⟩⟩⟩))⟩⟩)
  have e9:(10:Int) ^ Int.toNat 9 + 1=1000000001:=by decide
  rw [e9]
  exact q _ _ (yN _ (by decide)) (Int.lt_add_one_iff.mp (yB _ (by decide))) (g1.trans g2)
theorem DU:FnScope ["_law_purse_here", "_law_book_here", "_law_later", "_law_way", "_law_at"] ["_law_purse_here", "_law_book_here", "_law_later"] (defScope CA):=⟨rfl,rfl,rfl,by decide +kernel,rfl,by decide +kernel,by decide +kernel⟩
theorem EL (T:Tx K mg a t_LAST_TIME t_MOST_WALKERS t_MOST_ROOM t_MOST_MEETINGS t_MOST_MANY t_LONGEST_NAME t_MOST_FIGURES t_MOST_LETTERS) (B:BmAt mg base):OkD T.BF P w base 3 (spTimeOf):=by
 have Aa:=xo P w base T B
 have Ff:=EZ P w base T B
 refine T.BF.F.ok DU (λvs H Q E h=>?_) (λcdv A outer s H vs Q E hr h=>?_)
 ·obtain ⟨p,b,j,_,_,_,_,rfl,_⟩:=h;rfl
 ·have nd:=DU.nd
  have hu:=hr.units
  obtain ⟨p,b,j,rooms,tr,tm,ps,rfl,hj,hb,gd,hp,q⟩:=h
  refine ⟨_,(@xJ _ _ _ (@xN _ _ _ _ _ _ (xM (i:=3) nd rfl rfl (pcl Aa hr T.Ab (@xA _ _ _ (@xB _ _ _ _ _ (pv 0) (@xB _ _ _ _ _ xD xG rfl) rfl)))) (@xN _ _ _ _ _ _ (@xY _ _ _ _ _ _ _ _ (@xS _ _ _ _ _ _ _ _ op_eq (pv 3) xD (nomark _)) (@xJ _ _ _ (@xT _ _ _ (@xR _ _ _ _ (@xU _ _ _ _ _ _ _ (xV rfl) (@xl _ _ _ _ (@xA _ _ _ (@xB _ _ _ _ _ xD (@xB _ _ _ _ _ (@xQ _ _ _ _ _ _ _ _ op_pow xD xD) xG rfl) rfl))) (pv 2) (λ_ _=>rfl))))) xO) (@xN _ _ _ _ _ _ (@xY _ _ _ _ _ _ _ _ (@xS _ _ _ _ _ _ _ _ op_eq (pv 3) xD (nomark _)) (@xJ _ _ _ (@xT _ _ _ (@xR _ _ _ _ (pcl Ff hr T.Dy (@xA _ _ _ (@xB _ _ _ _ _ (pv 0) xG rfl)))))) xO) (@xN _ _ _ _ _ _ (@xY _ _ _ _ _ _ _ _ (@xS _ _ _ _ _ _ _ _ (op_eqUnit hu) (@xU _ _ _ _ _ _ _ (xZ rfl) (pv 1) xD (λ_ _=>rfl)) (@wF _ _ _ _ _ pa_nil) (nomark _)) (@xJ _ _ _ (@xT _ _ _ (@xR _ _ _ _ (pcl Aa hr T.Ab (@xA _ _ _ (@xB _ _ _ _ _ (pv 0) (@xB _ _ _ _ _ xD xG rfl) rfl)))))) xO) (@xN _ _ _ _ _ _ (xM (i:=4) nd rfl rfl (pcl Aa hr T.Ab (@xA _ _ _ (@xB _ _ _ _ _ (pv 0) (@xB _ _ _ _ _ (xL (xP rfl) (by rfl) T.b_len PySem.boot_len (@xA _ _ _ (@xB _ _ _ _ _ (@xU _ _ _ _ _ _ _ (xZ rfl) (pv 1) xD (λ_ _=>rfl)) xG rfl))) xG rfl) rfl)))) (@xN _ _ _ _ _ _ (@xY _ _ _ _ _ _ _ _ (@xS _ _ _ _ _ _ _ _ op_gt (pv 3) xD (nomark _)) (@xJ _ _ _ (@xT _ _ _ (xM (i:=4) nd rfl rfl (@xU _ _ _ _ _ _ _ (xV rfl) (@xl _ _ _ _ (@xA _ _ _ (@xB _ _ _ _ _ (@xQ _ _ _ _ _ _ _ _ op_fdivB (pv 4) xD) (@xB _ _ _ _ _ (@xQ _ _ _ _ _ _ _ _ op_fdivB (@xQ _ _ _ _ _ _ _ _ xj (pv 4) (xL (xP rfl) (by rfl) T.b_len PySem.boot_len (@xA _ _ _ (@xB _ _ _ _ _ (@xU _ _ _ _ _ _ _ (xZ rfl) (pv 1) xD (λ_ _=>rfl)) xG rfl)))) xD) xG rfl) rfl))) (pv 2) (λ_ _=>rfl))))) xO) (@xT _ _ _ (@xR _ _ _ _ (@xQ _ _ _ _ _ _ _ _ op_sub (@xU _ _ _ _ _ _ _ (xZ rfl) (@xU _ _ _ _ _ _ _ (xZ rfl) (@xU _ _ _ _ _ _ _ (xZ rfl) (pv 1) xD (λ_ _=>rfl)) (pv 4) (λ_ _=>rfl)) xD (λ_ _=>rfl)) (@xU _ _ _ _ _ _ _ (xV rfl) (@xl _ _ _ _ (@xA _ _ _ (@xB _ _ _ _ _ xD (@xB _ _ _ _ _ xD xG rfl) rfl))) (@xQ _ _ _ _ _ _ _ _ op_xor (@xQ _ _ _ _ _ _ _ _ op_fdivB (pcl Aa hr T.Ab (@xA _ _ _ (@xB _ _ _ _ _ (pv 0) (@xB _ _ _ _ _ xD xG rfl) rfl))) xD) (pv 2)) (λ_ _=>rfl)))))))))))),?_⟩
  have line:=line9
  have e200:(2:Int) ^ 200 > 10000:=by decide
  have c9:CPow 10 9:=⟨by decide,by decide,by decide⟩
  have e9:(10:Int) ^ Int.toNat 9=1000000000:=by decide
  have l60:=gd.len
  refine (zr rfl ⟨p,zr rfl ⟨by decide,by decide,hp,λway H1 w0 w1 g1=>?_⟩⟩)
  refine (zr rfl ⟨rfl,zr rfl (iteD (λc=>?_) (λc=>(zr rfl ⟨rfl,zr rfl (iteD (λc=>?_) (λc=>?_))⟩)))⟩)
  ·refine (zr2 rfl rfl ⟨c9,by show 2<=sizeLine;omega,λl hl=>(zr rfl ?_)⟩)
   rcases hj with rfl | rfl
   ·exact (ixl xC rfl (q _ _ (by omega) (by omega) (g1.new hl)))
   ·exact (ixl xC rfl (q _ _ (by rw [e9];decide) (by rw [e9];decide) (g1.new hl)))
  ·exact (zr rfl ⟨p,rfl,g1.2,λd H2 d0 d1 g2=>q _ _ d0 d1 (g1.trans g2)⟩)
  have hb1:=hb.tups (g1.tups hp)
  refine (zr rfl (ixt hb1.book rfl ⟨zf _,λu hu2=>?_⟩))
  have hb2:=hb1.tups (Tups.new (o:=HO.tup []) hu2)
  have g2:=g1.new (o:=HO.tup []) hu2
  refine ⟨tm,u,zr rfl ⟨rfl,SqT.of hb2.meets,SqT.of xC,zr rfl (iteB (λc2=>?_) (λc2=>?_))⟩⟩
  ·exact (zr rfl ⟨p,zr rfl ⟨by decide,by decide,g2.2,λd H3 d0 d1 g3=>q _ _ d0 (by omega) (g2.trans g3)⟩⟩)
  have lps:1<=ps.length:=by
   cases ps with
   | nil=>cases c2
   | cons _ _=>simp
  refine (zr rfl (zr rfl (ixt hb2.book rfl ⟨tm,zr rfl ⟨.inr (SqT.of hb2.meets),p,zr rfl ⟨by rw [zA];omega,by rw [zA];omega,g2.2,λd H3 d0 d1 g3=>?_⟩⟩⟩)))
  rw [zA] at d1
  have hb3:=hb2.tups (g3.tups g2.2)
  have gg3:=g2.trans g3
  refine (zr rfl (zr2 rfl rfl (zr rfl (iteD (λc3=>?_) (λc3=>?_)))))
  ·refine (zr rfl (zr2 rfl rfl ⟨⟨by decide,by decide⟩,zr rfl (zr rfl (ixt hb3.book rfl ⟨tm,zr rfl ⟨.inr (SqT.of hb3.meets),zr2 rfl rfl (zr2 rfl rfl ⟨⟨by decide,by decide⟩,by show 2<=sizeLine;omega,λl hl=>(zr rfl ?_)⟩)⟩⟩))⟩))
   have gx:=gg3.new (o:=HO.lst [V.int (d / 2),V.int ((d + ((ps.map λa=>V.ref a.1).length:Int)) / 2)]) hl
   have hx:=hb3.tups (Tups.new (o:=HO.lst [V.int (d / 2),V.int ((d + ((ps.map λa=>V.ref a.1).length:Int)) / 2)]) hl)
   obtain ⟨k,ek,hk⟩:∃ k:Nat,atI [V.int (d / 2),V.int ((d + ((ps.map λa=>V.ref a.1).length:Int)) / 2)] j=some (V.int (k:Int))/\k < ps.length:=by
    rcases hj with rfl | rfl
    ·obtain ⟨k,hk⟩:=zU (show 0<=d / 2 by omega)
     exact ⟨k,by rw [<-hk];rfl,by omega⟩
    ·obtain ⟨k,hk⟩:=zU (show 0<=(d + ((ps.map λa=>V.ref a.1).length:Int)) / 2 by omega)
     refine ⟨k,by rw [<-hk];rfl,?_⟩
     rw [zA] at hk
     omega
   refine (ixl xC ek ?_)
   refine (zr rfl (ixt hx.book rfl (zr rfl (ixt hx.meets (wB (v:=V.ref ps[k].1) (by simp [hk])) (ixt (hx.rows _ (zn hk)) rfl ⟨by show 2<=sizeLine;omega,λl9 hl9=>?_⟩)))))
   have g9:=gx.new (o:=HO.lst [V.int 1,V.int 0]) hl9
   refine (zr rfl ⟨p,zr rfl ⟨by decide,by decide,g9.2,λe H9 e0 e1 g10=>(zr2 rfl rfl ⟨⟨by decide,by decide⟩,zr rfl (zr2 rfl rfl ?_)⟩)⟩⟩)
   have h9:=g10.1 l9 _ (gx.2.ne hl9) xC
   have tb:=gd.at (zn hk)
   have bx:(e / 3=0\/e / 3=1):=by omega
   rcases hj with rfl | rfl <;> rcases bx with bx | bx <;> rw [bx]
   ·exact (ixl h9 (by decide:atI [V.int 1,V.int 0] (Builtin.bitXor 0 0)=some (V.int 1)) (zr2 rfl rfl (q _ _ (by omega) (by omega) (g9.trans g10))))
   ·exact (ixl h9 (by decide:atI [V.int 1,V.int 0] (Builtin.bitXor 1 0)=some (V.int 0)) (zr2 rfl rfl (q _ _ (by omega) (by omega) (g9.trans g10))))
   ·exact (ixl h9 (by decide:atI [V.int 1,V.int 0] (Builtin.bitXor 0 1)=some (V.int 0)) (zr2 rfl rfl (q _ _ (by omega) (by omega) (g9.trans g10))))
   ·exact (ixl h9 (by decide:atI [V.int 1,V.int 0] (Builtin.bitXor 1 1)=some (V.int 1)) (zr2 rfl rfl (q _ _ (by omega) (by omega) (g9.trans g10))))
  ·have gx:=gg3
   have hx:=hb3
   obtain ⟨k,rfl⟩:=zU d0
   have hk:k < ps.length:=by omega
   refine (zr rfl (ixt hx.book rfl (zr rfl (ixt hx.meets (wB (v:=V.ref ps[k].1) (by simp [hk])) (ixt (hx.rows _ (zn hk)) rfl ⟨by show 2<=sizeLine;omega,λl9 hl9=>?_⟩)))))
   have g9:=gx.new (o:=HO.lst [V.int 1,V.int 0]) hl9
   refine (zr rfl ⟨p,zr rfl ⟨by decide,by decide,g9.2,λe H9 e0 e1 g10=>(zr2 rfl rfl ⟨⟨by decide,by decide⟩,zr rfl (zr2 rfl rfl ?_)⟩)⟩⟩)
   have h9:=g10.1 l9 _ (gx.2.ne hl9) xC
   have tb:=gd.at (zn hk)
   have bx:(e / 3=0\/e / 3=1):=by omega
   rcases hj with rfl | rfl <;> rcases bx with bx | bx <;> rw [bx]
   ·exact (ixl h9 (by decide:atI [V.int 1,V.int 0] (Builtin.bitXor 0 0)=some (V.int 1)) (zr2 rfl rfl (q _ _ (by omega) (by omega) (g9.trans g10))))
   ·exact (ixl h9 (by decide:atI [V.int 1,V.int 0] (Builtin.bitXor 1 0)=some (V.int 0)) (zr2 rfl rfl (q _ _ (by omega) (by omega) (g9.trans g10))))
   ·exact (ixl h9 (by decide:atI [V.int 1,V.int 0] (Builtin.bitXor 0 1)=some (V.int 0)) (zr2 rfl rfl (q _ _ (by omega) (by omega) (g9.trans g10))))
   ·exact (ixl h9 (by decide:atI [V.int 1,V.int 0] (Builtin.bitXor 1 1)=some (V.int 1)) (zr2 rfl rfl (q _ _ (by omega) (by omega) (g9.trans g10))))
theorem Cu:FnScope ["_law_purse_here", "_law_book_here", "_law_walkers", "_law_sender", "_law_wish", "_law_since"] ["_law_purse_here", "_law_book_here"] (defScope BS):=⟨rfl,rfl,rfl,by decide +kernel,rfl,by decide +kernel,by decide +kernel⟩
theorem Es (T:Tx K mg a t_LAST_TIME t_MOST_WALKERS t_MOST_ROOM t_MOST_MEETINGS t_MOST_MANY t_LONGEST_NAME t_MOST_FIGURES t_MOST_LETTERS) (B:BmAt mg base):OkD T.BT P w base 4 (spLetter):=by
 have Aa:=xo P w base T B
 have Ej:=EL P w base T B
 refine T.BT.F.ok Cu (λvs H Q E h=>?_) (λcdv A outer s H vs Q E hr h=>?_)
 ·obtain ⟨p,b,_,_,_,_,rfl,_⟩:=h;rfl
 ·have nd:=Cu.nd
  have hu:=hr.units
  obtain ⟨p,b,rooms,tr,tm,ps,rfl,hb,r1,r2,gd,hp,q⟩:=h
  refine ⟨_,(@xJ _ _ _ (@xN _ _ _ _ _ _ (xM (i:=2) nd rfl rfl (xL (xP rfl) (by rfl) T.b_len PySem.boot_len (@xA _ _ _ (@xB _ _ _ _ _ (@xU _ _ _ _ _ _ _ (xZ rfl) (pv 1) xD (λ_ _=>rfl)) xG rfl)))) (@xN _ _ _ _ _ _ (xM (i:=3) nd rfl rfl (pcl Aa hr T.Ab (@xA _ _ _ (@xB _ _ _ _ _ (pv 0) (@xB _ _ _ _ _ (pv 2) xG rfl) rfl)))) (@xN _ _ _ _ _ _ (xM (i:=4) nd rfl rfl (pcl Aa hr T.Ab (@xA _ _ _ (@xB _ _ _ _ _ (pv 0) (@xB _ _ _ _ _ (pv 2) xG rfl) rfl)))) (@xN _ _ _ _ _ _ (@xY _ _ _ _ _ _ _ _ (@PW.pt _ _ _ (@pw_and _ _ _ _ _ _ _ (@xS _ _ _ _ _ _ _ _ op_eq (pv 3) (pv 4) (nomark _)) (@pw_and1 _ _ _ _ (@xS _ _ _ _ _ _ _ _ op_gt (pcl Aa hr T.Ab (@xA _ _ _ (@xB _ _ _ _ _ (pv 0) (@xB _ _ _ _ _ xD xG rfl) rfl))) xD (nomark _))))) (@xJ _ _ _ (@xT _ _ _ (xM (i:=4) nd rfl rfl (@xQ _ _ _ _ _ _ _ _ op_mod (@xQ _ _ _ _ _ _ _ _ xj (pv 4) xD) (pv 2))))) xO) (@xN _ _ _ _ _ _ (xM (i:=5) nd rfl rfl (pcl Ej hr T.BF (@xA _ _ _ (@xB _ _ _ _ _ (pv 0) (@xB _ _ _ _ _ (pv 1) (@xB _ _ _ _ _ xD xG rfl) rfl) rfl)))) (@xT _ _ _ (@xR _ _ _ _ (@wF _ _ _ _ _ (@xA _ _ _ (@xB _ _ _ _ _ (pv 3) (@xB _ _ _ _ _ (pv 5) (@xB _ _ _ _ _ (pv 4) (@xB _ _ _ _ _ (pcl Ej hr T.BF (@xA _ _ _ (@xB _ _ _ _ _ (pv 0) (@xB _ _ _ _ _ (pv 1) (@xB _ _ _ _ _ xD xG rfl) rfl) rfl))) xG rfl) rfl) rfl) rfl))))))))))),?_⟩
  have line:=line9
  have e200:(2:Int) ^ 200 > 10000:=by decide
  have rl:(rooms.map V.int).length=rooms.length:=zA _
  have fin:∀ s w:Int,0<=s->s < rooms.length->0<=w->w < rooms.length->∀ H3,Go p H H3->spTimeOf [.ref p,.ref b,.int 0] H3 (λx H4=>spTimeOf [.ref p,.ref b,.int 1] H4 (λy H5=>4<=sizeLine/\∀ t,H5 t=none->Q (.ref t) (upd H5 t (.tup [.int s,x,.int w,y]))) E0) E0:=by
   intro s w s0 s1 w0 w1 H3 g3
   have hb3:=hb.tups (g3.tups hp)
   refine (ex7 p b 0 rooms tr tm ps ⟨rfl,.inl rfl,hb3,gd,g3.2,λx H4 x0 x1 g4=>?_⟩)
   exact (ex7 p b 1 rooms tr tm ps ⟨rfl,.inr rfl,hb3.tups (g4.tups g3.2),gd,g4.2,λy H5 y0 y1 g5=>⟨by omega,λt ht=>q t s x w y _ ((g3.trans (g4.trans g5)).new ht) xC s0 s1 w0 w1 x0 x1 y0 y1⟩⟩)
  refine (zr rfl (ixt hb.book rfl ⟨tr,zr rfl ⟨.inr (SqT.of hb.rooms),?_⟩⟩))
  refine (zr rfl (zr rfl ⟨p,zr rfl ⟨by omega,by omega,hp,λs H1 s0 s1 g1=>(zr rfl (zr rfl ⟨p,zr rfl ⟨by omega,by omega,g1.2,λw H2 w0 w1 g2=>?_⟩⟩))⟩⟩))
  refine (zr rfl (zr rfl ⟨rfl,zr rfl (iteD (λc=>?_) (λc=>iteB0 rfl ?_))⟩))
  ·refine (zr rfl ⟨p,zr rfl ⟨by decide,by decide,g2.2,λe H3 e0 e1 g3=>(zr2 rfl rfl (zr rfl (iteD (λc2=>?_) (λc2=>?_))))⟩⟩)
   ·refine (zr rfl (zr2 rfl rfl (zr rfl (zr2 rfl rfl ⟨by omega,?_⟩))))
    have:=fin s ((w + 1) % (((rooms.map V.int).length:Nat):Int)) s0 (by omega) (yN _ (by omega)) (by have:=yB (w + 1) (show (0:Int) < ((rooms.map V.int).length:Nat) by omega);omega) H3 (g1.trans (g2.trans g3))
    simp only [gTup,gCons,gNil,tYes,tBM,rAppend,gSub,tAugS,ipI,rU,rIxL,rIxT,rSetL,tSeq,tAsg,tIfS,tRet,tOp,tUn,rI0,rI,tVar,tC,gName,tCall,tCB,tCons,tNil,tAndV,tOrV,tNotV,tNext,tTest,tB,tNot,tAnd,tOr,tDrop,rEq,rNe,scal,scN,scI,scB,tChain,tTup,tLst,tSl,tNoPart,tPart,cxOf,L2.start,zu,yX,zV,zy,yw,yx,List.replicate,yp,yU,zi,yP,yF,Option.some.injEq,exists_eq_left',exists_eq_left,exists_and_left,and_assoc,V.int.injEq,V.ty.injEq,V.str.injEq,V.bl.injEq,V.ref.injEq,List.cons.injEq,and_true,true_and,yd,ye]
    exact this
   ·have:=fin s w s0 (by omega) w0 (by omega) H3 (g1.trans (g2.trans g3))
    simp only [gTup,gCons,gNil,tYes,tBM,rAppend,gSub,tAugS,ipI,rU,rIxL,rIxT,rSetL,tSeq,tAsg,tIfS,tRet,tOp,tUn,rI0,rI,tVar,tC,gName,tCall,tCB,tCons,tNil,tAndV,tOrV,tNotV,tNext,tTest,tB,tNot,tAnd,tOr,tDrop,rEq,rNe,scal,scN,scI,scB,tChain,tTup,tLst,tSl,tNoPart,tPart,cxOf,L2.start,zu,yX,zV,zy,yw,yx,List.replicate,yp,yU,zi,yP,yF,Option.some.injEq,exists_eq_left',exists_eq_left,exists_and_left,and_assoc,V.int.injEq,V.ty.injEq,V.str.injEq,V.bl.injEq,V.ref.injEq,List.cons.injEq,and_true,true_and,yd,ye]
    exact this
  ·have:=fin s w s0 (by omega) w0 (by omega) H2 (g1.trans g2)
   simp only [gTup,gCons,gNil,tYes,tBM,rAppend,gSub,tAugS,ipI,rU,rIxL,rIxT,rSetL,tSeq,tAsg,tIfS,tRet,tOp,tUn,rI0,rI,tVar,tC,gName,tCall,tCB,tCons,tNil,tAndV,tOrV,tNotV,tNext,tTest,tB,tNot,tAnd,tOr,tDrop,rEq,rNe,scal,scN,scI,scB,tChain,tTup,tLst,tSl,tNoPart,tPart,cxOf,L2.start,zu,yX,zV,zy,yw,yx,List.replicate,yp,yU,zi,yP,yF,Option.some.injEq,exists_eq_left',exists_eq_left,exists_and_left,and_assoc,V.int.injEq,V.ty.injEq,V.str.injEq,V.bl.injEq,V.ref.injEq,List.cons.injEq,and_true,true_and,yd,ye]
   exact this
theorem Dq:FnScope ["_law_purse_here", "_law_many", "_law_letters", "_law_size", "_law_place", "_law_base", "_law_stride", "_law_far_on", "_law_found", "_law_k", "_law_signs", "_law_word", "_law_at"] ["_law_purse_here", "_law_many"] (defScope wR):=⟨rfl,rfl,rfl,by decide +kernel,rfl,by decide +kernel,by decide +kernel⟩
theorem EB (T:Tx K mg a t_LAST_TIME t_MOST_WALKERS t_MOST_ROOM t_MOST_MEETINGS t_MOST_MANY t_LONGEST_NAME t_MOST_FIGURES t_MOST_LETTERS) (B:BmAt mg base):OkD T.B8 P w base 2 (spNamesW):=by
 have Aa:=xo P w base T B
 refine T.B8.F.ok Dq (λvs H Q E h=>?_) (λcdv A outer s H vs Q E hr h=>?_)
 ·obtain ⟨_,_,rfl,_⟩:=h;rfl
 ·have nd:=Dq.nd
  have hu:=hr.units
  obtain ⟨p,n,rfl,n1,n12,pu,q⟩:=h
  refine ⟨_,(@xJ _ _ _ (@xN _ _ _ _ _ _ (xM (i:=2) nd rfl rfl xX) (@xN _ _ _ _ _ _ (xM (i:=3) nd rfl rfl (@xQ _ _ _ _ _ _ _ _ xj xD (pcl Aa hr T.Ab (@xA _ _ _ (@xB _ _ _ _ _ (pv 0) (@xB _ _ _ _ _ xD xG rfl) rfl))))) (@xN _ _ _ _ _ _ (xM (i:=4) nd rfl rfl (pcl Aa hr T.Ab (@xA _ _ _ (@xB _ _ _ _ _ (pv 0) (@xB _ _ _ _ _ (pv 3) xG rfl) rfl)))) (@xN _ _ _ _ _ _ (xM (i:=5) nd rfl rfl (pe_comp (own:=["_law_j"]) (caps:=[0]) rfl (show CompScope ["_law_j"] [0] ["_law_purse_here", "_law_many", "_law_letters", "_law_size", "_law_place", "_law_base", "_law_stride", "_law_far_on", "_law_found", "_law_k", "_law_signs", "_law_word", "_law_at"] (defScope wR) _ from ⟨rfl,by decide +kernel,by decide +kernel,by decide +kernel,by decide +kernel⟩) (pi_range1 rfl T.b_range (@xA _ _ _ (@xB _ _ _ _ _ (pv 3) xG rfl))) (λ_ _ _ _=>(xI (i:=0) (show List.Nodup (["_law_j", "_law_purse_here"]:List Str) from by decide +kernel) rfl rfl)) (λ_ _ _ _=>xz) (λ_ _ _ _=>(pcl Aa hr T.Ab (@xA _ _ _ (@xB _ _ _ _ _ (pv 1) (@xB _ _ _ _ _ xD xG rfl) rfl)))))) (@xN _ _ _ _ _ _ (xM (i:=6) nd rfl rfl (@xU _ _ _ _ _ _ _ (xV rfl) (@xl _ _ _ _ (@xA _ _ _ (@xB _ _ _ _ _ xD (@xB _ _ _ _ _ xD (@xB _ _ _ _ _ xD (@xB _ _ _ _ _ xD (@xB _ _ _ _ _ xD (@xB _ _ _ _ _ xD xG rfl) rfl) rfl) rfl) rfl) rfl))) (pcl Aa hr T.Ab (@xA _ _ _ (@xB _ _ _ _ _ (pv 0) (@xB _ _ _ _ _ xD xG rfl) rfl))) (λ_ _=>rfl))) (@xN _ _ _ _ _ _ (xM (i:=7) nd rfl rfl (pcl Aa hr T.Ab (@xA _ _ _ (@xB _ _ _ _ _ (pv 0) (@xB _ _ _ _ _ xD xG rfl) rfl)))) (@xN _ _ _ _ _ _ (xM (i:=8) nd rfl rfl (@xl _ _ _ _ pa_nil)) (@xN _ _ _ _ _ _ (wO PassesOwn.never rfl (pi_range1 rfl T.b_range (@xA _ _ _ (@xB _ _ _ _ _ (pv 1) xG rfl))) (xI (i:=9) nd rfl rfl) (@xJ _ _ _ (@xN _ _ _ _ _ _ (wG (ix:=10) nd rfl rfl (own:=["_law_j"]) (caps:=[2,5]) rfl (show CompScope ["_law_j"] [2,5] ["_law_purse_here", "_law_many", "_law_letters", "_law_size", "_law_place", "_law_base", "_law_stride", "_law_far_on", "_law_found", "_law_k", "_law_signs", "_law_word", "_law_at"] (defScope wR) _ from ⟨rfl,by decide +kernel,by decide +kernel,by decide +kernel,by decide +kernel⟩) (pi_range1 rfl T.b_range (@xA _ _ _ (@xB _ _ _ _ _ (pv 3) xG rfl))) (λ_ _ _ _=>(xI (i:=0) (show List.Nodup (["_law_j", "_law_letters", "_law_base"]:List Str) from by decide +kernel) rfl rfl)) (λ_ _ _ _=>xz) (λ_ _ _ _=>(@xU _ _ _ _ _ _ _ ix_str (pv 1) (@xU _ _ _ _ _ _ _ (xV rfl) (pv 2) (pv 0) (λ_ _=>rfl)) (λ_ _=>rfl)))) (@xN _ _ _ _ _ _ (ps_asg (@xU _ _ _ _ _ _ _ ix_str (pv 2) (@xQ _ _ _ _ _ _ _ _ op_mod (@xQ _ _ _ _ _ _ _ _ xj (@xU _ _ _ _ _ _ _ (xV rfl) (pv 5) (pv 4) (λ_ _=>rfl)) (@xQ _ _ _ _ _ _ _ _ op_mul (pv 9) (pv 6))) xD) (λ_ _=>rfl)) (pg_sub (pv 10) (pv 4) set_list)) (@xT _ _ _ (xx (wP ze zg zh xr (pv 8) (@xA _ _ _ (@xB _ _ _ _ _ (@xQ _ _ _ _ _ _ _ _ op_add_str (wP yY PySem.F.slot_str_join PySem.F.type_str_join mt_join xX (@xA _ _ _ (@xB _ _ _ _ _ (pv 10) xG rfl))) (@pe_slice _ _ _ _ _ _ _ _ _ _ sl_str xX po_none (@po_some _ _ _ (@xQ _ _ _ _ _ _ _ _ op_mul (@xQ _ _ _ _ _ _ _ _ op_mod (@xQ _ _ _ _ _ _ _ _ op_mul (pv 9) (pv 7)) xD) (xh (call_int1) (by rfl) T.b_int PyProof.Rows.boot_int (@xA _ _ _ (@xB _ _ _ _ _ (@pe_cmpR _ _ _ _ _ _ _ _ op_lt (pv 3) xD (nomark _)) xG rfl))))))) xG rfl))))))))) (@xN _ _ _ _ _ _ (xM (i:=11) nd rfl rfl (@xU _ _ _ _ _ _ _ (xV rfl) (@xl _ _ _ _ (@xA _ _ _ (@xB _ _ _ _ _ xX (@xB _ _ _ _ _ xX (@xB _ _ _ _ _ xX (@xB _ _ _ _ _ xX (@xB _ _ _ _ _ xX (@xB _ _ _ _ _ xX xG rfl) rfl) rfl) rfl) rfl) rfl))) (pcl Aa hr T.Ab (@xA _ _ _ (@xB _ _ _ _ _ (pv 0) (@xB _ _ _ _ _ xD xG rfl) rfl))) (λ_ _=>rfl))) (@xN _ _ _ _ _ _ (xM (i:=12) nd rfl rfl (pcl Aa hr T.Ab (@xA _ _ _ (@xB _ _ _ _ _ (pv 0) (@xB _ _ _ _ _ (pv 1) xG rfl) rfl)))) (@xN _ _ _ _ _ _ (@xY _ _ _ _ _ _ _ _ (@PW.pt _ _ _ (@pw_and _ _ _ _ _ _ _ (@xS _ _ _ _ _ _ _ _ op_notIn_seq (pv 11) (pv 8) rfl) (@pw_and1 _ _ _ _ (@xS _ _ _ _ _ _ _ _ op_eq (pcl Aa hr T.Ab (@xA _ _ _ (@xB _ _ _ _ _ (pv 0) (@xB _ _ _ _ _ xD xG rfl) rfl))) xD (nomark _))))) (@xJ _ _ _ (@xT _ _ _ (ps_asg (pv 11) (pg_sub (pv 8) (pv 12) set_list)))) xO) (@xT _ _ _ (@xR _ _ _ _ (pv 8))))))))))))))),?_⟩
  have line:100002<=sizeLine:=by rw [sizeLine_eq];decide
  refine ⟨_,rfl,p,8,rfl,by decide,by decide,pu,λe1 H1 e10 e18 g1=>⟨_,_,rfl,rfl,?_⟩⟩
  obtain ⟨m,hm⟩:∃ m:Nat,1 + e1=(m:Int):=⟨(1 + e1).toNat,by omega⟩
  show gName 3 (V.int (1 + e1)) _ _ _
  rw [hm]
  have m1:1<=m:=by omega
  have m8:m<=8:=by omega
  refine ⟨_,rfl,_,rfl,p,(m:Int),rfl,by omega,by omega,g1.2,λpl H2 pl0 pl1 g2=>?_⟩
  have g02:=g1.trans g2
  refine ⟨_,rfl,_,rfl,by omega,by omega,?_⟩
  refine comp_range (lo:=0) (m:=m) (λi τ acc H5=>∃ bs:List Int,(∃ t0,τ=[t0,some (.ref p)])/\acc=bs.map V.int/\bs.length=i/\(∀ x∈bs,0<=x/\x < 26)/\Go p H H5) ⟨[],⟨_,rfl⟩,rfl,rfl,(λ_ z=>nomatch z),g02⟩ (by omega) ?_ ?_ ?_
  ·rintro i τ acc H5 ⟨bs,_,rfl,l,_⟩
   rw [zA,l];exact zD _
  ·rintro i τ acc H5 C hi ⟨bs,⟨t0,rfl⟩,rfl,l,hbs,g5⟩ hC
   refine ⟨_,rfl,p,26,rfl,by decide,by decide,g5.2,λe H6 e0 e26 g6=>hC _ _ _ ⟨bs++[e],⟨_,rfl⟩,by rw [zC];rfl,by rw [zI,l];rfl,λx hx=>?_,g5.trans g6⟩⟩
   rcases zZ.mp hx with z | z
   ·exact hbs x z
   ·rw [zP.mp z];exact ⟨e0,e26⟩
  rintro τ acc H3 ⟨bs,_,rfl,lbs,hbs,g3⟩ bl hbl
  have g4:=g3.new (o:=HO.lst (bs.map V.int)) hbl
  have kbl:upd H3 bl (HO.lst (bs.map V.int)) bl=some (.lst (bs.map V.int)):=xC
  generalize upd H3 bl (HO.lst (bs.map V.int))=H4 at g4 kbl ⊢
  have nbp:bl≠p:=g3.2.ne hbl
  clear g3 hbl g02 g2 g1
  refine ⟨by show 6<=sizeLine;omega,λl1 hl1=>⟨_,rfl,p,6,rfl,by decide,by decide,g4.2.new hl1,λd H5 d0 d1 g5=>?_⟩⟩
  have g45:=(g4.new (o:=HO.lst [V.int 1,V.int 3,V.int 5,V.int 7,V.int 9,V.int 11]) hl1).trans g5
  have k1:H5 l1=some (.lst [V.int 1,V.int 3,V.int 5,V.int 7,V.int 9,V.int 11]):=g5.1 _ _ (g4.2.ne hl1) xC
  obtain ⟨st,ast,st1,st11,hst⟩:∃ st:Int,atI [V.int 1,V.int 3,V.int 5,V.int 7,V.int 9,V.int 11] d=some (V.int st)/\1<=st/\st<=11/\(st=1\/st=3\/st=5\/st=7\/st=9\/st=11):=by
   rcases (by omega:d=0\/d=1\/d=2\/d=3\/d=4\/d=5) with rfl | rfl | rfl | rfl | rfl | rfl <;> exact ⟨_,rfl,by decide,by decide,by decide⟩
  refine ⟨l1,_,_,_,rfl,rfl,SqL.of k1,ast,?_⟩
  refine ⟨_,rfl,p,3,rfl,by decide,by decide,g45.2,λfo H6 fo0 fo3 g6=>?_⟩
  have g06:=g45.trans g6
  have kb6:H6 bl=some (.lst (bs.map V.int)):=g6.1 _ _ nbp (g5.1 _ _ nbp (xE hl1 _ _ kbl))
  refine ⟨by show 0<=sizeLine;omega,λfl hfl=>?_⟩
  have g07:=g06.new (o:=HO.lst []) hfl
  have kb7:=xE (o:=HO.lst []) hfl _ _ kb6
  have k0:upd H6 fl (HO.lst []) fl=some (.lst (([]:List Str).map V.str)):=xC
  have nfp:fl≠p:=g06.2.ne hfl
  have nfb:fl≠bl:=λz=>by rw [z,kb6] at hfl;cases hfl
  have ffl:H fl=none:=g06.free hfl nfp
  generalize upd H6 fl (HO.lst [])=H7 at g07 kb7 k0 ⊢
  clear g06 kb6 hfl g45 g5 g6 k1 g4 kbl hl1 ast d0 d1
  obtain ⟨pn,rfl⟩:=zU pl0
  obtain ⟨bpl,hbpl⟩:∃ x,bs[pn]?=some x:=⟨_,zJ (by omega)⟩
  have atpl:atI (bs.map V.int) (pn:Int)=some (V.int bpl):=wB (by rw [zX,hbpl];rfl)
  refine ⟨_,rfl,_,rfl,by omega,by omega,?_⟩
  refine for_range (lo:=0) (λi σ H8=>∃ ss:List Str,(∃ v9 v10 v11 v12,σ=[some (.ref p),some (.int (n:Int)),some (.str A26),some (.int (m:Int)),some (.int (pn:Int)),some (.ref bl),some (.int st),some (.int fo),some (.ref fl),v9,v10,v11,v12])/\Go p H H8/\H8 bl=some (.lst (bs.map V.int))/\H8 fl=some (.lst (ss.map V.str))/\ss.length=i/\∀ (j:Nat) s,ss[j]?=some s->NmI pn bpl st j s) ⟨[],⟨_,_,_,_,rfl⟩,g07,kb7,k0,rfl,λ_ _ z=>nomatch z⟩ ?_ ?_
  ·clear g07 kb7 k0
   rintro i σ H8 hi ⟨ss,⟨v9,v10,v11,v12,rfl⟩,g8,kb8,kf8,lss,hss⟩
   rw [Int.zero_add]
   have hi':i < n:=by simpa using hi
   refine ⟨_,rfl,_,rfl,by omega,by omega,?_⟩
   refine comp_range (lo:=0) (m:=m) (λj τ acc H9=>∃ us:List Nat,(∃ t0,τ=[t0,some (.str A26),some (.ref bl)])/\acc=(ones us).map V.str/\us.length=j/\(∀ c∈us,low c=true)/\Same H8 H9) ⟨[],⟨_,rfl⟩,rfl,rfl,(λ_ z=>nomatch z),Same.refl _⟩ (by omega) ?_ ?_ ?_
   ·rintro j τ acc H9 ⟨us,_,rfl,l,_⟩
    rw [zA,ones_len,l];exact zD _
   ·rintro j τ acc H9 C hj ⟨us,⟨t0,rfl⟩,rfl,l,hcs,s9⟩ hC
    rw [Int.zero_add]
    obtain ⟨x,hx⟩:∃ x,bs[j]?=some x:=⟨_,zJ (by omega)⟩
    obtain ⟨x0,x26⟩:=hbs x (zB hx)
    obtain ⟨c,hc⟩:=at26 x0 x26
    refine ⟨_,rfl,_,rfl,_,rfl,bl,_,_,V.int x,rfl,rfl,SqL.of (s9 _ _ kb8),wB (by rw [zX,hx];rfl),A26,x,c,rfl,rfl,by rw [a26_len];omega,hc,hC _ _ _ ⟨us++[c],⟨_,rfl⟩,by unfold ones;rw [zC,zC];rfl,by rw [zI,l];rfl,λs hs=>?_,s9⟩⟩
    rcases zZ.mp hs with z | z
    ·exact hcs s z
    ·rw [zP.mp z];exact a26_low _ (atI_mem hc)
   rintro τ acc H9 ⟨us,_,rfl,lcs,hcs,s9⟩ sl hsl
   have s10:=xE (o:=HO.lst ((ones us).map V.str)) hsl
   have ksl:upd H9 sl (HO.lst ((ones us).map V.str)) sl=some (.lst ((ones us).map V.str)):=xC
   have s810:=s9.trans s10
   have nsb:bl≠sl:=λz=>by have:=s9 _ _ kb8;rw [z,hsl] at this;cases this
   have nsf:fl≠sl:=λz=>by have:=s9 _ _ kf8;rw [z,hsl] at this;cases this
   have nsp:sl≠p:=(g8.same s9).2.ne hsl
   generalize upd H9 sl (HO.lst ((ones us).map V.str))=H10 at s10 ksl s810 ⊢
   have g10:=g8.same s810
   have kb10:=s810 _ _ kb8
   have kf10:=s810 _ _ kf8
   obtain ⟨c,hc⟩:=at26 (x:=(bpl + (i:Int) * st) % 26) (yN _ (by decide)) (yB _ (by decide))
   have ixpl:ixN ((ones us).map V.str).length (pn:Int)=some pn:=by unfold ixN;rw [if_pos (by omega),if_pos (by rw [zA,ones_len];omega),yC]
   refine ⟨_,rfl,_,rfl,_,rfl,bl,_,_,_,rfl,rfl,SqL.of kb10,atpl,_,rfl,_,rfl,_,_,rfl,rfl,.inr ⟨by omega,by omega⟩,_,_,rfl,rfl,_,_,rfl,rfl,(by show (0:Int) < 26;decide),A26,_,c,rfl,rfl,by rw [a26_len];omega,hc,_,rfl,_,rfl,sl,_,_,pn,rfl,rfl,ksl,ixpl,?_⟩
   have b11:But sl H10 (upd H10 sl (HO.lst (((ones us).map V.str).set pn (V.str ⟨#[c]⟩)))):=But.set
   have k11:upd H10 sl (HO.lst (((ones us).map V.str).set pn (V.str ⟨#[c]⟩))) sl=some (.lst ((ones (us.set pn c)).map V.str)):=by unfold ones;rw [xC,List.map_set,List.map_set]
   generalize upd H10 sl (HO.lst (((ones us).map V.str).set pn (V.str ⟨#[c]⟩)))=H11 at b11 k11 ⊢
   have kb11:=b11 _ _ nsb kb10
   have kf11:=b11 _ _ nsf kf10
   have fsl:H sl=none:=(g8.same s9).free hsl nsp
   have g11:=g10.but fsl nsp b11
   have lus:(us.set pn c).length=m:=by rw [List.length_set];exact lcs
   have zE:(Str.ofString "").length=0:=by decide +kernel
   have sum1:((ones (us.set pn c)).map λy=>y.length).sum=m:=by
    rw [sum_ones (λs hs=>by obtain ⟨x,_,rfl⟩:=zO.mp hs;rfl),ones_len];exact lus
   have loc:∀ x∈us.set pn c,low x=true:=λx hx=>by
    rcases List.mem_or_eq_of_mem_set hx with z | z
    ·exact hcs x z
    ·rw [z];exact a26_low _ (atI_mem hc)
   have atc:(us.set pn c)[pn]?=some c:=List.getElem?_set_self (by omega)
   refine ⟨_,rfl,.inl ⟨rfl,_,SqL.of kf11⟩,rfl,_,rfl,Str.ofString "", sl,ones (us.set pn c),rfl,rfl,SqL.of k11,(by rw [sum1,ones_len,lus,zE];omega),?_⟩
   refine ⟨_,rfl,_,rfl,_,_,rfl,rfl,.inr ⟨by omega,by omega⟩,_,_,rfl,rfl,(by show (0:Int) < 3;decide),_,rfl,_,_,rfl,rfl,.inr ⟨_,rfl,_,_,rfl,rfl,.inl ⟨by omega,by omega⟩,?_⟩⟩
   have kk0:0<=(i:Int) * fo % 3:=yN _ (by decide)
   have kk3:(i:Int) * fo % 3 < 3:=yB _ (by decide)
   generalize (i:Int) * fo % 3=xk at kk0 kk3 ⊢
   obtain ⟨w1,w2⟩:=name_ok (us:=us.set pn c) (k:=xk * (if decide ((m:Int) < 7)=true then 1 else 0)) lus m1 m8 loc (by omega) atc (by split <;> omega) (by split <;> omega) (λh=>by rw [if_neg (by simp;omega)];omega)
   have l8:=w1.2.1
   have zab:(Str.ofString "ab").length=2:=by decide +kernel
   refine ⟨_,rfl,Str.ofString "ab", rfl,by omega,_,_,rfl,rfl,by rw [<-xb];omega,fl,_,_,rfl,rfl,kf11,(by rw [zA];omega),ss++[_],⟨_,_,_,_,rfl⟩,g11.but ffl nfp But.set,?_,xC.trans (congrArg (λz=>some (HO.lst z)) (zC (f:=V.str) (l₂:=[_])).symm),(by rw [zI,lss];rfl),λj s hs=>?_⟩
   ·rw [xH nfb.symm];exact kb11
   by_cases hj:j < ss.length
   ·rw [yK hj] at hs
    exact hss j s hs
   ·have ej:j=i:=by
     have:=(zT.mp hs).1
     rw [zI,zm] at this
     omega
    subst ej
    rw [yG (by omega),lss,Nat.sub_self] at hs
    cases hs
    exact ⟨w1,w2.trans hc.symm⟩
  clear g07 kb7 k0
  rintro σ H8 ⟨ss,⟨v9,v10,v11,v12,rfl⟩,g8,kb8,kf8,lss,hss⟩
  rw [yC] at lss
  have ndS:=nmI_nodup hss (by omega) hst
  have wdS:∀ s∈ss,Word s:=λs hs=>by obtain ⟨j,hj⟩:=List.getElem?_of_mem hs;exact (hss j s hj).word
  clear hss
  refine ⟨by show 6<=sizeLine;omega,λl2 hl2=>⟨_,rfl,p,6,rfl,by decide,by decide,g8.2.new hl2,λd H9 d0 d1 g9=>?_⟩⟩
  have g09:=(g8.new (o:=HO.lst (sixW.map V.str)) hl2).trans g9
  have k2:H9 l2=some (.lst (sixW.map V.str)):=g9.1 _ _ (g8.2.ne hl2) xC
  have kf9:H9 fl=some (.lst (ss.map V.str)):=g9.1 _ _ nfp (xE hl2 _ _ kf8)
  obtain ⟨wd,aw,lwd⟩:=words_atW d0 d1
  refine ⟨l2,_,_,_,rfl,rfl,SqL.of k2,aw,?_⟩
  refine ⟨_,rfl,_,rfl,p,(n:Int),rfl,by omega,by omega,g09.2,λat0 H10 a0 a1 g10=>?_⟩
  have g010:=g09.trans g10
  have kf10:=g10.1 _ _ nfp kf9
  refine ⟨_,rfl,_,rfl,fl,_,rfl,.inl (SqL.of kf10),rfl,flat_strs ss,_,rfl,iteA (fun σ H1=>∃ ss:List Str,(∃ v9 v10 v11 v12,σ=[some (.ref p),some (.int (n:Int)),some (.str A26),some (.int (m:Int)),some (.int (pn:Int)),some (.ref bl),some (.int st),some (.int fo),some (.ref fl),v9,v10,v11,v12])/\Go p H H1/\H1 fl=some (.lst (ss.map V.str))/\ss.length=n/\(∀ s∈ss,Word s)/\ss.Nodup) ?_ ?_ ?_⟩
  rotate_left
  ·intro nin kk
   have wns:wd ∉ ss:=not_strs nin
   refine ⟨_,rfl,p,3,rfl,by decide,by decide,g010.2,λe H11 e0 e1 g11=>⟨rfl,_,rfl,iteB (λ_=>?_) (λ_=>?_)⟩⟩
   ·obtain ⟨an,rfl⟩:=zU a0
    have kf11:=g11.1 _ _ nfp kf10
    have ixa:ixN (ss.map V.str).length (an:Int)=some an:=by unfold ixN;rw [if_pos (by omega),if_pos (by rw [zA];omega),yC]
    refine ⟨_,rfl,_,rfl,_,rfl,fl,_,_,an,rfl,rfl,kf11,ixa,kk _ _ ⟨ss.set an wd,⟨_,_,_,_,rfl⟩,(g010.trans g11).but ffl nfp But.set,by rw [xC,List.map_set],by rw [List.length_set];exact lss,λs hs=>?_,nodup_set ndS wns⟩⟩
    rcases List.mem_or_eq_of_mem_set hs with z | z
    ·exact wdS s z
    ·rw [z];exact lwd
   ·exact kk _ _ ⟨ss,⟨_,_,_,_,rfl⟩,g010.trans g11,g11.1 _ _ nfp kf10,lss,wdS,ndS⟩
  ·intro _
   exact ⟨ss,⟨_,_,_,_,rfl⟩,g010,kf10,lss,wdS,ndS⟩
  rintro σ H1 ⟨ss,⟨v9,v10,v11,v12,rfl⟩,g1,kf1,l1,h1,h2⟩
  exact ⟨_,rfl,q fl ss H1 g1 ffl kf1 l1 h1 h2⟩
theorem DX:FnScope ["_law_names_here", "_law_book_here", "_law_letters_here", "_law_found", "_law_k", "_law_one", "_law_other", "_law_when", "_law_passed", "_law_sender", "_law_since", "_law_wish", "_law_last"] ["_law_names_here", "_law_book_here", "_law_letters_here"] (defScope CD):=⟨rfl,rfl,rfl,by decide +kernel,rfl,by decide +kernel,by decide +kernel⟩
theorem EN (T:Tx K mg a t_LAST_TIME t_MOST_WALKERS t_MOST_ROOM t_MOST_MEETINGS t_MOST_MANY t_LONGEST_NAME t_MOST_FIGURES t_MOST_LETTERS) (B:BmAt mg base):OkD T.CM P w base 1 (spShow):=by
 refine T.CM.F.ok DX (λvs H Q E h=>?_) (λcdv A outer s H vs Q E hr h=>?_)
 ·obtain ⟨_,_,_,_,_,_,_,_,_,rfl,_⟩:=h;rfl
 ·have nd:=DX.nd
  have hu:=hr.units
  obtain ⟨nl,b,ll,ns,ls,rooms,tr,tm,ps,rfl,hn,hb,ln,r12,n100,rb,gd,hll,l41,lb,q⟩:=h
  refine ⟨_,(@xJ _ _ _ (@xN _ _ _ _ _ _ (xM (i:=3) nd rfl rfl (@xl _ _ _ _ pa_nil)) (@xN _ _ _ _ _ _ (wO PassesOwn.never rfl (pi_range1 rfl T.b_range (@xA _ _ _ (@xB _ _ _ _ _ (xL (xP rfl) (by rfl) T.b_len PySem.boot_len (@xA _ _ _ (@xB _ _ _ _ _ (pv 0) xG rfl))) xG rfl))) (xI (i:=4) nd rfl rfl) (@xJ _ _ _ (@xT _ _ _ (xx (wP ze zg zh xr (pv 3) (@xA _ _ _ (@xB _ _ _ _ _ (@xQ _ _ _ _ _ _ _ _ op_add_str (@xQ _ _ _ _ _ _ _ _ op_add_str (@xQ _ _ _ _ _ _ _ _ op_add_str xX (@xU _ _ _ _ _ _ _ (xV rfl) (pv 0) (pv 4) (λ_ _=>rfl))) xX) (xh (xy) (by rfl) T.b_str zx (@xA _ _ _ (@xB _ _ _ _ _ (@xU _ _ _ _ _ _ _ (xZ rfl) (@xU _ _ _ _ _ _ _ (xZ rfl) (pv 1) xD (λ_ _=>rfl)) (pv 4) (λ_ _=>rfl)) xG rfl)))) xG rfl))))))) (@xN _ _ _ _ _ _ (wO PassesOwn.never rfl (@pi_tup'' _ _ _ _ _ rfl (@xU _ _ _ _ _ _ _ (xZ rfl) (pv 1) xD (λ_ _=>rfl))) (xq (n:=4) rfl rfl (xK (xI (i:=5) nd rfl rfl) (xK (xI (i:=6) nd rfl rfl) (xK (xI (i:=7) nd rfl rfl) (xK (xI (i:=8) nd rfl rfl) xi))))) (@xJ _ _ _ (@xT _ _ _ (xx (wP ze zg zh xr (pv 3) (@xA _ _ _ (@xB _ _ _ _ _ (wP yY PySem.F.slot_str_join PySem.F.type_str_join mt_join xX (@xA _ _ _ (@xB _ _ _ _ _ (@xl _ _ _ _ (@xA _ _ _ (@xB _ _ _ _ _ xX (@xB _ _ _ _ _ (@xU _ _ _ _ _ _ _ (xV rfl) (pv 0) (pv 5) (λ_ _=>rfl)) (@xB _ _ _ _ _ (@xU _ _ _ _ _ _ _ (xV rfl) (pv 0) (pv 6) (λ_ _=>rfl)) (@xB _ _ _ _ _ (xh (xy) (by rfl) T.b_str zx (@xA _ _ _ (@xB _ _ _ _ _ (pv 7) xG rfl))) (@xB _ _ _ _ _ (xh (xy) (by rfl) T.b_str zx (@xA _ _ _ (@xB _ _ _ _ _ (pv 8) xG rfl))) xG rfl) rfl) rfl) rfl) rfl))) xG rfl))) xG rfl))))))) (@xN _ _ _ _ _ _ (wO PassesOwn.never rfl (@xm _ _ _ _ _ rfl (pv 2)) (xq (n:=4) rfl rfl (xK (xI (i:=9) nd rfl rfl) (xK (xI (i:=10) nd rfl rfl) (xK (xI (i:=11) nd rfl rfl) (xK (xI (i:=12) nd rfl rfl) xi))))) (@xJ _ _ _ (@xT _ _ _ (xx (wP ze zg zh xr (pv 3) (@xA _ _ _ (@xB _ _ _ _ _ (wP yY PySem.F.slot_str_join PySem.F.type_str_join mt_join xX (@xA _ _ _ (@xB _ _ _ _ _ (@xl _ _ _ _ (@xA _ _ _ (@xB _ _ _ _ _ xX (@xB _ _ _ _ _ (@xU _ _ _ _ _ _ _ (xV rfl) (pv 0) (pv 9) (λ_ _=>rfl)) (@xB _ _ _ _ _ (xh (xy) (by rfl) T.b_str zx (@xA _ _ _ (@xB _ _ _ _ _ (pv 10) xG rfl))) (@xB _ _ _ _ _ (@xU _ _ _ _ _ _ _ (xV rfl) (pv 0) (pv 11) (λ_ _=>rfl)) (@xB _ _ _ _ _ (xh (xy) (by rfl) T.b_str zx (@xA _ _ _ (@xB _ _ _ _ _ (pv 12) xG rfl))) xG rfl) rfl) rfl) rfl) rfl))) xG rfl))) xG rfl))))))) (@xT _ _ _ (@xR _ _ _ _ (pv 3)))))))),?_⟩
  have line:100002<=sizeLine:=by rw [sizeLine_eq];decide
  have zE:Str.empty.length=0:=rfl
  have z1:(Str.ofString "walker ").length=7:=by decide +kernel
  have z2:(Str.ofString "meet ").length=5:=by decide +kernel
  have z3:(Str.ofString "letter ").length=7:=by decide +kernel
  have z4:(Str.ofString " ").length=1:=by decide +kernel
  have z5:(Str.ofString "meet").length=4:=by decide +kernel
  have z6:(Str.ofString "letter").length=6:=by decide +kernel
  have rm:∀ {r:Int},r∈rooms->-(10 ^ 12)<=r/\r<=10 ^ 12:=λ{r} hr=>by have:=rb r hr;omega
  have nmb:∀ {i:Int},0<=i->i < rooms.length->atI (ns.map V.str) i=some (V.str (nm ns i))/\(nm ns i).length<=100:=λ{i} h0 h1=>by
   have:=nm_at (ns:=ns) h0 (by omega)
   exact ⟨this.1,n100 _ this.2⟩
  have n60:=gd.len
  refine ⟨by show 0<=sizeLine;omega,λfl hfl=>?_⟩
  have s0:=xE (o:=HO.lst []) hfl
  have k0:upd H fl (HO.lst []) fl=some (.lst ([]:List V)):=xC
  generalize upd H fl (HO.lst [])=H0 at s0 k0 ⊢
  refine ⟨_,rfl,nl,_,rfl,.inl (SqL.of (s0 _ _ hn)),_,rfl,by omega,by rw [zA];omega,?_⟩
  refine for_range (lo:=0) (λi σ H5=>(∃ v4 v5 v6 v7 v8 v9 v10 v11 v12,σ=[some (.ref nl),some (.ref b),some (.ref ll),some (.ref fl),v4,v5,v6,v7,v8,v9,v10,v11,v12])/\Same H H5/\H5 fl=some (.lst ((((ns.zip rooms).take i).map rowW).map V.str))) ⟨⟨_,_,_,_,_,_,_,_,_,rfl⟩,s0,k0⟩ ?_ ?_
  ·rintro i σ H5 hi ⟨⟨v4,v5,v6,v7,v8,v9,v10,v11,v12,rfl⟩,s5,kf⟩
   rw [Int.zero_add]
   have hi':i < ns.length:=by rw [zA] at hi;simpa using hi
   obtain ⟨x,hx⟩:∃ x,ns[i]?=some x:=⟨_,zJ hi'⟩
   obtain ⟨r,hr⟩:∃ r,rooms[i]?=some r:=⟨_,zJ (by omega)⟩
   have hz:(ns.zip rooms)[i]?=some (x,r):=List.getElem?_zip_eq_some.mpr ⟨hx,hr⟩
   have lx:=n100 x (zB hx)
   have rb1:=rm (zB hr)
   have lr:=tx_len rb1.1 rb1.2
   have atx:atI (ns.map V.str) (i:Int)=some (V.str x):=wB (by rw [zX,hx];rfl)
   have atr:atI (rooms.map V.int) (i:Int)=some (V.int r):=wB (by rw [zX,hr];rfl)
   have hb5:=hb.same s5
   refine ⟨_,rfl,.inl ⟨rfl,_,SqL.of kf⟩,_,rfl,_,rfl,nl,_,_,_,rfl,rfl,SqL.of (s5 _ _ hn),atx,_,_,rfl,rfl,(by simp only [xb,zE,z1,z2,z3,z4];omega),_,_,rfl,rfl,(by simp only [xb,zE,z1,z2,z3,z4];omega),_,rfl,b,_,_,_,rfl,rfl,SqT.of hb5.book,rfl,_,rfl,tr,_,_,_,rfl,rfl,SqT.of hb5.rooms,atr,r,rfl,wH rb1.1 rb1.2,_,tx r,rfl,rfl,(by simp only [xb,zE,z1,z2,z3,z4];omega),fl,_,_,rfl,rfl,kf,(by rw [zA,zA,zY];omega),⟨_,_,_,_,_,_,_,_,_,rfl⟩,But.same hfl s5 But.set,?_⟩
   rw [xC,xt hz,zC,zC];rfl
  rintro σ H5 ⟨⟨v4,v5,v6,v7,v8,v9,v10,v11,v12,rfl⟩,s5,kf⟩
  rw [zA,yC,za (by rw [yh];omega)] at kf
  have hb5:=hb.same s5
  have lz:(ns.zip rooms).length<=12:=by rw [yh];omega
  clear s0 k0
  refine ⟨_,rfl,b,_,_,_,rfl,rfl,SqT.of hb5.book,rfl,tm,rfl,⟨_,SqT.of hb5.meets⟩,?_⟩
  refine for_tup (K:=K) (a:=tm) (xs:=ps.map λa=>V.ref a.1) (λi σ H5=>(∃ v4 v5 v6 v7 v8 v9 v10 v11 v12,σ=[some (.ref nl),some (.ref b),some (.ref ll),some (.ref fl),v4,v5,v6,v7,v8,v9,v10,v11,v12])/\Same H H5/\H5 fl=some (.lst (((ns.zip rooms).map rowW++((ps.map (·.2)).take i).map (rowM ns)).map V.str))) ⟨⟨_,_,_,_,_,_,_,_,_,rfl⟩,s5,by rw [kf];show _=some (HO.lst ((_++[]).map V.str));rw [zi]⟩ ?_ ?_ ?_
  ·rintro i σ H5 _ ⟨_,s5,_⟩
   exact SqT.of (hb.same s5).meets
  ·clear s5 kf hb5
   rintro i v σ H5 hv ⟨⟨v4,v5,v6,v7,v8,v9,v10,v11,v12,rfl⟩,s5,kf⟩
   obtain ⟨p0,hp0,rfl⟩:=xW hv
   have ge:=gd.each p0.2 (zO.mpr ⟨p0,zB hp0,rfl⟩)
   have hM:(ps.map (·.2))[i]?=some p0.2:=by rw [zX,hp0];rfl
   obtain ⟨a1,l1⟩:=nmb (i:=p0.2.lo) (by omega) (by omega)
   obtain ⟨a2,l2⟩:=nmb (i:=p0.2.hi) (by omega) (by omega)
   have b1:-(10 ^ 12)<=p0.2.t/\p0.2.t<=10 ^ 12:=by omega
   have b2:-(10 ^ 12)<=p0.2.m/\p0.2.m<=10 ^ 12:=by omega
   have t1:=tx_len b1.1 b1.2
   have t2:=tx_len b2.1 b2.2
   have hrow:=(hb.same s5).rows p0 (zB hp0)
   have hn5:=s5 _ _ hn
   refine ⟨p0.1,_,rfl,SqT.of hrow,rfl,_,_,rfl,_,_,rfl,_,_,rfl,_,_,rfl,rfl,?_⟩
   refine ⟨_,rfl,.inl ⟨rfl,_,SqL.of kf⟩,rfl,_,rfl,_,rfl,nl,_,_,_,rfl,rfl,SqL.of hn5,a1,_,rfl,_,rfl,nl,_,_,_,rfl,rfl,SqL.of hn5,a2,_,rfl,p0.2.t,rfl,wH b1.1 b1.2,_,rfl,p0.2.m,rfl,wH b2.1 b2.2,by show 5<=sizeLine;omega,λj1 hj1=>?_⟩
   refine ⟨Str.ofString " ", j1,[Str.ofString "meet", nm ns p0.2.lo,nm ns p0.2.hi,tx p0.2.t,tx p0.2.m],rfl,rfl,SqL.of xC,?_,fl,_,_,rfl,rfl,xE hj1 _ _ kf,?_,⟨_,_,_,_,_,_,_,_,_,rfl⟩,But.same hfl (s5.trans (xE hj1)) But.set,?_⟩
   ·show (Str.ofString "meet").length + ((nm ns p0.2.lo).length + ((nm ns p0.2.hi).length + ((tx p0.2.t).length + ((tx p0.2.m).length + 0)))) + 5 * (Str.ofString " ").length<=16777216
    omega
   ·rw [zA,zI,zA,zA,zY,zA];omega
   ·rw [xC,xt hM,zC (f:=rowM ns),<- ym,join5,meet_sp];exact congrArg (λz=>some (HO.lst z)) (zC (f:=V.str) (l₂:=[rowM ns p0.2])).symm
  rintro σ H6 ⟨⟨v4,v5,v6,v7,v8,v9,v10,v11,v12,rfl⟩,s6,kf6⟩
  rw [zA,za (by rw [zA];omega)] at kf6
  clear s5 kf hb5
  refine ⟨_,rfl,ll,rfl,⟨_,SqL.of (hll.same s6).1⟩,?_⟩
  refine for_list (K:=K) (a:=ll) (xs:=ls.map λa=>V.ref a.1) (λi σ H5=>(∃ v4 v5 v6 v7 v8 v9 v10 v11 v12,σ=[some (.ref nl),some (.ref b),some (.ref ll),some (.ref fl),v4,v5,v6,v7,v8,v9,v10,v11,v12])/\Same H H5/\H5 fl=some (.lst ((((ns.zip rooms).map rowW++(ps.map (·.2)).map (rowM ns))++((ls.map (·.2)).take i).map (rowL ns)).map V.str))) ⟨⟨_,_,_,_,_,_,_,_,_,rfl⟩,s6,by rw [kf6];show _=some (HO.lst ((_++[]).map V.str));rw [zi]⟩ ?_ ?_ ?_
  ·rintro i σ H5 _ ⟨_,s5,_⟩
   exact SqL.of (hll.same s5).1
  ·clear s6 kf6
   rintro i v σ H5 hv ⟨⟨v4,v5,v6,v7,v8,v9,v10,v11,v12,rfl⟩,s5,kf⟩
   obtain ⟨L,hL,rfl⟩:=xW hv
   have Lm:=zB hL
   obtain ⟨c1,c2,c3,c4,c5,c6⟩:=lb L Lm
   have hM:(ls.map (·.2))[i]?=some L.2:=by rw [zX,hL];rfl
   obtain ⟨a1,l1⟩:=nmb (i:=(L.2.s:Int)) (by omega) (by omega)
   obtain ⟨a2,l2⟩:=nmb (i:=(L.2.w:Int)) (by omega) (by omega)
   have t1:=tx_len c3 c4
   have t2:=tx_len c5 c6
   have hrow:H5 L.1=some (.tup [V.int (L.2.s:Int),V.int L.2.a,V.int (L.2.w:Int),V.int L.2.z]):=(hll.same s5).2 L Lm
   have hn5:=s5 _ _ hn
   refine ⟨L.1,_,rfl,SqT.of hrow,rfl,_,_,rfl,_,_,rfl,_,_,rfl,_,_,rfl,rfl,?_⟩
   refine ⟨_,rfl,.inl ⟨rfl,_,SqL.of kf⟩,rfl,_,rfl,_,rfl,nl,_,_,_,rfl,rfl,SqL.of hn5,a1,_,rfl,L.2.a,rfl,wH c3 c4,_,rfl,_,rfl,nl,_,_,_,rfl,rfl,SqL.of hn5,a2,_,rfl,L.2.z,rfl,wH c5 c6,by show 5<=sizeLine;omega,λj1 hj1=>?_⟩
   refine ⟨Str.ofString " ", j1,[Str.ofString "letter", nm ns (L.2.s:Int),tx L.2.a,nm ns (L.2.w:Int),tx L.2.z],rfl,rfl,SqL.of xC,?_,fl,_,_,rfl,rfl,xE hj1 _ _ kf,?_,⟨_,_,_,_,_,_,_,_,_,rfl⟩,But.same hfl (s5.trans (xE hj1)) But.set,?_⟩
   ·show (Str.ofString "letter").length + ((nm ns (L.2.s:Int)).length + ((tx L.2.a).length + ((nm ns (L.2.w:Int)).length + ((tx L.2.z).length + 0)))) + 5 * (Str.ofString " ").length<=16777216
    omega
   ·rw [zA,zI,zI,zA,zA,zA,zA,zY,zA];omega
   ·rw [xC,xt hM,zC (f:=rowL ns),<- ym,join5,letter_sp];exact congrArg (λz=>some (HO.lst z)) (zC (f:=V.str) (l₂:=[rowL ns L.2])).symm
  rintro σ H5 ⟨⟨v4,v5,v6,v7,v8,v9,v10,v11,v12,rfl⟩,s5,kf⟩
  rw [zA,za (by rw [zA];omega)] at kf
  exact ⟨_,rfl,q fl _ s5 hfl kf⟩
theorem Dm:FnScope ["_law_thing"] ["_law_thing"] (defScope B2):=⟨rfl,rfl,rfl,by decide +kernel,rfl,by decide +kernel,by decide +kernel⟩
theorem Ey (T:Tx K mg a t_LAST_TIME t_MOST_WALKERS t_MOST_ROOM t_MOST_MEETINGS t_MOST_MANY t_LONGEST_NAME t_MOST_FIGURES t_MOST_LETTERS) (B:BmAt mg base):OkD T.B6 P w base 1 (spWhole):=by
 refine T.B6.F.ok Dm (λvs H Q E h=>?_) (λcdv A outer s H vs Q E hr h=>?_)
 ·obtain ⟨x,t,rfl,_⟩:=h;rfl
 ·have nd:=Dm.nd
  have hu:=hr.units
  obtain ⟨x,t,rfl,ht,k⟩:=h
  refine ⟨_,(@xJ _ _ _ (@xT _ _ _ (@xR _ _ _ _ (@pe_and _ _ _ _ _ _ _ (xL (xa) (by rfl) T.b_isinstance zR (@xA _ _ _ (@xB _ _ _ _ _ (pv 0) (@xB _ _ _ _ _ (xv (v:=V.ty "int") rfl T.b_int PyProof.Rows.boot_int rfl) xG rfl) rfl))) (@pe_one _ _ _ _ _ (@pe_not _ _ _ _ (xL (xa) (by rfl) T.b_isinstance zR (@xA _ _ _ (@xB _ _ _ _ _ (pv 0) (@xB _ _ _ _ _ (xv (v:=V.ty "bool") rfl T.b_bool PyProof.Rows.boot_bool rfl) xG rfl) rfl))))))))),?_⟩
  refine ⟨_,rfl,x,t, "int", rfl,ht,.inl rfl,_,rfl,?_⟩
  rcases tyS_six ht with rfl | rfl | rfl | rfl | rfl | rfl | rfl <;> first | exact iteB0 rfl k | exact iteB1 rfl ⟨_,rfl,x,_, "bool", rfl,ht,.inr (.inl rfl),_,rfl,k⟩
theorem Bz:FnScope ["_law_things", "_law_thing", "_law_number"] ["_law_things"] (defScope AK):=⟨rfl,rfl,rfl,by decide +kernel,rfl,by decide +kernel,by decide +kernel⟩
theorem D1 (T:Tx K mg a t_LAST_TIME t_MOST_WALKERS t_MOST_ROOM t_MOST_MEETINGS t_MOST_MANY t_LONGEST_NAME t_MOST_FIGURES t_MOST_LETTERS) (B:BmAt mg base):OkD T.Ai P w base 2 (spAllWhole K):=by
 have ER:=Ey P w base T B
 refine T.Ai.F.ok Bz (λvs H Q E h=>?_) (λcdv A outer s H vs Q E hr h=>?_)
 ·obtain ⟨_,_,rfl,_⟩:=h;rfl
 ·have nd:=Bz.nd
  have hu:=hr.units
  obtain ⟨l,xs,rfl,hl,l100,hxx,q⟩:=h
  refine ⟨_,(@xJ _ _ _ (@xN _ _ _ _ _ _ (wO PassesOwn.never rfl (pi_or (@xm _ _ _ _ _ rfl (pv 0)) (@pi_tup'' _ _ _ _ _ rfl (pv 0))) (xI (i:=1) nd rfl rfl) (@xJ _ _ _ (@xN _ _ _ _ _ _ (@xY _ _ _ _ _ _ _ _ (@xf _ _ _ _ (xg (xL (xa) (by rfl) T.b_isinstance zR (@xA _ _ _ (@xB _ _ _ _ _ (pv 1) (@xB _ _ _ _ _ (xv (v:=V.ty "tuple") rfl T.b_tuple zq rfl) xG rfl) rfl))))) (@xJ _ _ _ (@xT _ _ _ (@xR _ _ _ _ pe_bl))) xO) (@xT _ _ _ (wO PassesOwn.never rfl (@pi_tup'' _ _ _ _ _ rfl (pv 1)) (xI (i:=2) nd rfl rfl) (@xJ _ _ _ (@xT _ _ _ (@xY _ _ _ _ _ _ _ _ (@xf _ _ _ _ (xg (pcl ER hr T.B6 (@xA _ _ _ (@xB _ _ _ _ _ (pv 2) xG rfl))))) (@xJ _ _ _ (@xT _ _ _ (@xR _ _ _ _ pe_bl))) xO)))))))) (@xT _ _ _ (@xR _ _ _ _ pe_bl)))),?_⟩
  have line:=line9
  have hrow:∀ {x:Addr×List Int} {H5:Hp},x∈xs->Same H H5->H5 x.1=some (.tup (x.2.map V.int)):=λ{x H5} hx s=>s _ _ (hxx x hx).1
  rcases hl with hl | hl
  ·refine .inl ⟨_,rfl,l,rfl,⟨_,hl⟩,?_⟩
   refine for_list (K:=K) (a:=l) (xs:=xs.map λx=>V.ref x.1) (λi σ H5=>(∃ v1 v2,σ=[some (.ref l),v1,v2])/\Same H H5) ⟨⟨_,_,rfl⟩,Same.refl _⟩ ?_ ?_ ?_
   ·rintro i σ H5 _ ⟨_,s5⟩
    exact Same.seq s5 hl
   ·rintro i v σ H5 hv ⟨⟨v1,v2,rfl⟩,s5⟩
    obtain ⟨x,hx,rfl⟩:=xW hv
    have hr:=hrow (zB hx) s5
    refine ⟨_,rfl,_, "tuple", "tuple", rfl,tyS_tup hr,by simp,_,rfl,iteB0 rfl ?_⟩
    refine ⟨_,rfl,x.1,rfl,⟨_,SqT.of hr⟩,?_⟩
    refine for_tup (K:=K) (a:=x.1) (xs:=x.2.map V.int) (λi σ H6=>(∃ v2,σ=[some (.ref l),some (.ref x.1),v2])/\Same H H6) ⟨⟨_,rfl⟩,s5⟩ ?_ ?_ ?_
    ·rintro i σ H6 _ ⟨_,s6⟩
     exact SqT.of (hrow (zB hx) s6)
    ·rintro i u σ H6 hu ⟨⟨v2,rfl⟩,s6⟩
     obtain ⟨z,_,rfl⟩:=xW hu
     exact ⟨_,rfl,.int z, "int", rfl,rfl,_,rfl,iteB0 rfl ⟨⟨_,rfl⟩,s6⟩⟩
    ·rintro σ H6 ⟨⟨v2,rfl⟩,s6⟩
     exact ⟨⟨_,_,rfl⟩,s6⟩
   ·rintro σ H5 ⟨⟨v1,v2,rfl⟩,s5⟩
    exact q _ s5
  ·refine .inr ⟨_,rfl,l,rfl,⟨_,hl⟩,?_⟩
   refine for_tup (K:=K) (a:=l) (xs:=xs.map λx=>V.ref x.1) (λi σ H5=>(∃ v1 v2,σ=[some (.ref l),v1,v2])/\Same H H5) ⟨⟨_,_,rfl⟩,Same.refl _⟩ ?_ ?_ ?_
   ·rintro i σ H5 _ ⟨_,s5⟩
    exact Same.seqT s5 hl
   ·rintro i v σ H5 hv ⟨⟨v1,v2,rfl⟩,s5⟩
    obtain ⟨x,hx,rfl⟩:=xW hv
    have hr:=hrow (zB hx) s5
    refine ⟨_,rfl,_, "tuple", "tuple", rfl,tyS_tup hr,by simp,_,rfl,iteB0 rfl ?_⟩
    refine ⟨_,rfl,x.1,rfl,⟨_,SqT.of hr⟩,?_⟩
    refine for_tup (K:=K) (a:=x.1) (xs:=x.2.map V.int) (λi σ H6=>(∃ v2,σ=[some (.ref l),some (.ref x.1),v2])/\Same H H6) ⟨⟨_,rfl⟩,s5⟩ ?_ ?_ ?_
    ·rintro i σ H6 _ ⟨_,s6⟩
     exact SqT.of (hrow (zB hx) s6)
    ·rintro i u σ H6 hu ⟨⟨v2,rfl⟩,s6⟩
     obtain ⟨z,_,rfl⟩:=xW hu
     exact ⟨_,rfl,.int z, "int", rfl,rfl,_,rfl,iteB0 rfl ⟨⟨_,rfl⟩,s6⟩⟩
    ·rintro σ H6 ⟨⟨v2,rfl⟩,s6⟩
     exact ⟨⟨_,_,rfl⟩,s6⟩
   ·rintro σ H5 ⟨⟨v1,v2,rfl⟩,s5⟩
    exact q _ s5
theorem Cs:FnScope ["_law_told", "_law_names_here", "_law_book_here", "_law_letters_here"] ["_law_told", "_law_names_here", "_law_book_here", "_law_letters_here"] (defScope Bj):=⟨rfl,rfl,rfl,by decide +kernel,rfl,by decide +kernel,by decide +kernel⟩
theorem Em (T:Tx K mg a t_LAST_TIME t_MOST_WALKERS t_MOST_ROOM t_MOST_MEETINGS t_MOST_MANY t_LONGEST_NAME t_MOST_FIGURES t_MOST_LETTERS) (B:BmAt mg base):OkD T.Ah P w base 3 (spReadSo):=by
 have AM:=D1 P w base T B
 refine T.Ah.F.ok Cs (λvs H Q E h=>?_) (λcdv A outer s H vs Q E hr h=>?_)
 ·obtain ⟨_,_,_,_,_,_,_,_,_,_,_,_,_,_,_,_,_,rfl,_⟩:=h;rfl
 ·have nd:=Cs.nd
  have hu:=hr.units
  obtain ⟨p,nl,b,ll,ns,rooms,tr,tm,ps,ys,nl2,b2,ll2,tr2,tm2,ps2,ys2,rfl,hT,hn2,hb2,hl2,e1,e2,n12,r12,p60,y41,r1,q⟩:=h
  refine ⟨_,(@xJ _ _ _ (@xN _ _ _ _ _ _ (@xY _ _ _ _ _ _ _ _ (@PW.pt _ _ _ (@wN _ _ _ _ _ _ _ (@xf _ _ _ _ (xg (xL (xa) (by rfl) T.b_isinstance zR (@xA _ _ _ (@xB _ _ _ _ _ (pv 0) (@xB _ _ _ _ _ (xv (v:=V.ty "tuple") rfl T.b_tuple zq rfl) xG rfl) rfl))))) (@wN _ _ _ _ _ _ _ (@xS _ _ _ _ _ _ _ _ op_ne (xL (xP rfl) (by rfl) T.b_len PySem.boot_len (@xA _ _ _ (@xB _ _ _ _ _ (pv 0) xG rfl))) xD (nomark _)) (@wD _ _ _ _ (@xf _ _ _ _ (xg (xL (xa) (by rfl) T.b_isinstance zR (@xA _ _ _ (@xB _ _ _ _ _ (@xU _ _ _ _ _ _ _ (xZ rfl) (pv 0) xD (λ_ _=>rfl)) (@xB _ _ _ _ _ (xv (v:=V.ty "list") rfl T.b_list yR rfl) xG rfl) rfl))))))))) (@xJ _ _ _ (@xT _ _ _ (@xR _ _ _ _ pe_bl))) xO) (@xN _ _ _ _ _ _ (@xY _ _ _ _ _ _ _ _ (@PW.pt _ _ _ (@wN _ _ _ _ _ _ _ (@xf _ _ _ _ (xg (xL (xa) (by rfl) T.b_isinstance zR (@xA _ _ _ (@xB _ _ _ _ _ (@xU _ _ _ _ _ _ _ (xZ rfl) (pv 0) xD (λ_ _=>rfl)) (@xB _ _ _ _ _ (xv (v:=V.ty "tuple") rfl T.b_tuple zq rfl) xG rfl) rfl))))) (@wN _ _ _ _ _ _ _ (@xS _ _ _ _ _ _ _ _ op_ne (xL (xP rfl) (by rfl) T.b_len PySem.boot_len (@xA _ _ _ (@xB _ _ _ _ _ (@xU _ _ _ _ _ _ _ (xZ rfl) (pv 0) xD (λ_ _=>rfl)) xG rfl))) xD (nomark _)) (@wD _ _ _ _ (@xf _ _ _ _ (xg (xL (xa) (by rfl) T.b_isinstance zR (@xA _ _ _ (@xB _ _ _ _ _ (@xU _ _ _ _ _ _ _ (xZ rfl) (pv 0) xD (λ_ _=>rfl)) (@xB _ _ _ _ _ (xv (v:=V.ty "list") rfl T.b_list yR rfl) xG rfl) rfl))))))))) (@xJ _ _ _ (@xT _ _ _ (@xR _ _ _ _ pe_bl))) xO) (@xN _ _ _ _ _ _ (@xY _ _ _ _ _ _ _ _ (@PW.pt _ _ _ (@wN _ _ _ _ _ _ _ (@xf _ _ _ _ (xg (xL (xa) (by rfl) T.b_isinstance zR (@xA _ _ _ (@xB _ _ _ _ _ (@xU _ _ _ _ _ _ _ (xZ rfl) (@xU _ _ _ _ _ _ _ (xZ rfl) (pv 0) xD (λ_ _=>rfl)) xD (λ_ _=>rfl)) (@xB _ _ _ _ _ (xv (v:=V.ty "tuple") rfl T.b_tuple zq rfl) xG rfl) rfl))))) (@wD _ _ _ _ (@xf _ _ _ _ (xg (pcl AM hr T.Ai (@xA _ _ _ (@xB _ _ _ _ _ (@xl _ _ _ _ (@xA _ _ _ (@xB _ _ _ _ _ (@xU _ _ _ _ _ _ _ (xZ rfl) (@xU _ _ _ _ _ _ _ (xZ rfl) (pv 0) xD (λ_ _=>rfl)) xD (λ_ _=>rfl)) xG rfl))) xG rfl)))))))) (@xJ _ _ _ (@xT _ _ _ (@xR _ _ _ _ pe_bl))) xO) (@xN _ _ _ _ _ _ (@xY _ _ _ _ _ _ _ _ (@PW.pt _ _ _ (@wN _ _ _ _ _ _ _ (@xf _ _ _ _ (xg (pcl AM hr T.Ai (@xA _ _ _ (@xB _ _ _ _ _ (@xU _ _ _ _ _ _ _ (xZ rfl) (@xU _ _ _ _ _ _ _ (xZ rfl) (pv 0) xD (λ_ _=>rfl)) xD (λ_ _=>rfl)) xG rfl))))) (@wD _ _ _ _ (@xf _ _ _ _ (xg (pcl AM hr T.Ai (@xA _ _ _ (@xB _ _ _ _ _ (@xU _ _ _ _ _ _ _ (xZ rfl) (pv 0) xD (λ_ _=>rfl)) xG rfl)))))))) (@xJ _ _ _ (@xT _ _ _ (@xR _ _ _ _ pe_bl))) xO) (@xT _ _ _ (@xR _ _ _ _ (@pe_cmpR _ _ _ _ _ _ _ _ (op_eqE hu) (pv 0) (@wF _ _ _ _ _ (@xA _ _ _ (@xB _ _ _ _ _ (pv 1) (@xB _ _ _ _ _ (pv 2) (@xB _ _ _ _ _ (pv 3) xG rfl) rfl) rfl))) (nomark _))))))))),?_⟩
  have line:=line9
  have I3:(3:Int)=3:=rfl
  refine ⟨_,rfl,_, "tuple", "tuple", rfl,tyS_tup hT.tup,by simp,_,rfl,iteB0 rfl ?_⟩
  refine ⟨_,rfl,p,_,rfl,.inr (SqT.of hT.tup),rfl,_,rfl,iteB0 rfl ?_⟩
  refine ⟨_,rfl,p,_,_,_,rfl,rfl,SqT.of hT.tup,rfl,_, "list", "list", rfl,tyS_lst hT.names,by simp,_,rfl,iteB0 rfl ?_⟩
  have hb:=hT.book
  have one:∀ {H5:Hp},H5 tr=some (.tup (rooms.map V.int))->∀ {l:Addr},H5 l=some (.lst [V.ref tr])->True:=λ_ _ _=>trivial
  have i0:atI [V.ref nl,V.ref b,V.ref ll] 0=some (V.ref nl):=rfl
  have i1:atI [V.ref nl,V.ref b,V.ref ll] 1=some (V.ref b):=rfl
  have i2:atI [V.ref nl,V.ref b,V.ref ll] 2=some (V.ref ll):=rfl
  refine ⟨_,rfl,p,_,_,_,rfl,rfl,SqT.of hT.tup,i1,_, "tuple", "tuple", rfl,tyS_tup hb.book,by simp,_,rfl,iteB0 rfl ?_⟩
  refine ⟨_,rfl,p,_,_,_,rfl,rfl,SqT.of hT.tup,i1,b,_,rfl,.inr (SqT.of hb.book),rfl,_,rfl,iteB0 rfl ?_⟩
  refine ⟨_,rfl,p,_,_,_,rfl,rfl,SqT.of hT.tup,i2,_, "list", "list", rfl,tyS_lst hT.lets.1,by simp,_,rfl,iteB0 rfl ?_⟩
  refine ⟨_,rfl,p,_,_,_,rfl,rfl,SqT.of hT.tup,i1,b,_,_,_,rfl,rfl,SqT.of hb.book,rfl,_, "tuple", "tuple", rfl,tyS_tup hb.meets,by simp,_,rfl,iteB0 rfl ?_⟩
  refine ⟨_,rfl,p,_,_,_,rfl,rfl,SqT.of hT.tup,i1,b,_,_,_,rfl,rfl,SqT.of hb.book,rfl,by show 1<=sizeLine;omega,λl1 hl1=>?_⟩
  have s1:=xE (o:=HO.lst [V.ref tr]) hl1
  have k1:upd H l1 (HO.lst [V.ref tr]) l1=some (.lst [V.ref tr]):=xC
  generalize upd H l1 (HO.lst [V.ref tr])=H1 at s1 k1 ⊢
  refine ⟨l1,[(tr,rooms)],rfl,.inl (SqL.of k1),by simp,λx hx=>by rw [zP.mp hx];exact ⟨s1 _ _ hb.rooms,by show rooms.length<=100;omega⟩,λH2 s2=>⟨_,rfl,iteB0 rfl ?_⟩⟩
  have s12:=s1.trans s2
  have hT2:=hT.same s12
  have hb2':=hT2.book
  have ty:∀ x∈ps.map λa:Addr×M4=>(a.1,a.2.ints),H2 x.1=some (.tup (x.2.map V.int))/\x.2.length<=100:=λx hx=>by
   obtain ⟨a,ha,rfl⟩:=zO.mp hx
   exact ⟨hb2'.rows a ha,by show 4<=100;decide⟩
  refine ⟨_,rfl,p,_,_,_,rfl,rfl,SqT.of hT2.tup,i1,b,_,_,_,rfl,rfl,SqT.of hb2'.book,rfl,tm,ps.map λa=>(a.1,a.2.ints),rfl,.inr (by rw [zp];exact SqT.of hb2'.meets),by rw [zA];omega,ty,λH3 s3=>⟨_,rfl,iteB0 rfl ?_⟩⟩
  have s13:=s12.trans s3
  have hT3:=hT.same s13
  have ty3:∀ x∈ys.map λa:Addr×L4=>(a.1,[(a.2.s:Int),a.2.a,(a.2.w:Int),a.2.z]),H3 x.1=some (.tup (x.2.map V.int))/\x.2.length<=100:=λx hx=>by
   obtain ⟨a,ha,rfl⟩:=zO.mp hx
   exact ⟨hT3.lets.2 a ha,by show 4<=100;decide⟩
  refine ⟨_,rfl,p,_,_,_,rfl,rfl,SqT.of hT3.tup,i2,ll,ys.map λa=>(a.1,[(a.2.s:Int),a.2.a,(a.2.w:Int),a.2.z]),rfl,.inl (by rw [zp];exact SqL.of hT3.lets.1),by rw [zA];omega,ty3,λH4 s4=>⟨_,rfl,iteB0 rfl ?_⟩⟩
  have s14:=s13.trans s4
  have hT4:=hT.same s14
  refine ⟨_,rfl,_,rfl,_,rfl,_,rfl,by show 3<=sizeLine;omega,λt ht=>?_⟩
  have s5:=xE (o:=HO.tup [V.ref nl2,V.ref b2,V.ref ll2]) ht
  have s15:=s14.trans s5
  exact told_eq (hT4.same s5) ⟨xC,s15 _ _ hn2,hb2.same s15,hl2.same s15⟩ e1 e2 (q _ s15)
theorem BW:FnScope ["_law_head", "_law_names_here", "_law_book_here", "_law_some", "_law_one", "_law_other", "_law_when", "_law_passed", "_law_two", "_law_at"] ["_law_head", "_law_names_here", "_law_book_here"] (defScope A4):=⟨rfl,rfl,rfl,by decide +kernel,rfl,by decide +kernel,by decide +kernel⟩
theorem D5 (T:Tx K mg a t_LAST_TIME t_MOST_WALKERS t_MOST_ROOM t_MOST_MEETINGS t_MOST_MANY t_LONGEST_NAME t_MOST_FIGURES t_MOST_LETTERS) (B:BmAt mg base):OkD T.A5 P w base 2 (spMixed):=by
 have Aa:=xo P w base T B
 refine T.A5.F.ok BW (λvs H Q E h=>?_) (λcdv A outer s H vs Q E hr h=>?_)
 ·obtain ⟨_,_,_,_,_,_,_,_,rfl,_⟩:=h;rfl
 ·have nd:=BW.nd
  have hu:=hr.units
  obtain ⟨p,nl,b,ns,rooms,tr,tm,ps,rfl,pu,hn,hb,ln,r12,n100,gd,q⟩:=h
  refine ⟨_,(@xJ _ _ _ (@xN _ _ _ _ _ _ (xM (i:=3) nd rfl rfl (@xl _ _ _ _ pa_nil)) (@xN _ _ _ _ _ _ (wO PassesOwn.never rfl (@pi_tup'' _ _ _ _ _ rfl (@xU _ _ _ _ _ _ _ (xZ rfl) (pv 2) xD (λ_ _=>rfl))) (xq (n:=4) rfl rfl (xK (xI (i:=4) nd rfl rfl) (xK (xI (i:=5) nd rfl rfl) (xK (xI (i:=6) nd rfl rfl) (xK (xI (i:=7) nd rfl rfl) xi))))) (@xJ _ _ _ (@xN _ _ _ _ _ _ (xM (i:=8) nd rfl rfl (@xl _ _ _ _ (@xA _ _ _ (@xB _ _ _ _ _ (@xU _ _ _ _ _ _ _ (xV rfl) (pv 1) (pv 4) (λ_ _=>rfl)) (@xB _ _ _ _ _ (@xU _ _ _ _ _ _ _ (xV rfl) (pv 1) (pv 5) (λ_ _=>rfl)) xG rfl) rfl)))) (@xN _ _ _ _ _ _ (@xY _ _ _ _ _ _ _ _ (@xS _ _ _ _ _ _ _ _ op_eq (pcl Aa hr T.Ab (@xA _ _ _ (@xB _ _ _ _ _ (pv 0) (@xB _ _ _ _ _ xD xG rfl) rfl))) xD (nomark _)) (@xJ _ _ _ (@xT _ _ _ (xM (i:=8) nd rfl rfl (@pe_revL _ _ _ _ _ _ _ _ _ rfl (pv 8))))) xO) (@xT _ _ _ (xx (wP ze zg zh xr (pv 3) (@xA _ _ _ (@xB _ _ _ _ _ (wP yY PySem.F.slot_str_join PySem.F.type_str_join mt_join xX (@xA _ _ _ (@xB _ _ _ _ _ (@xQ _ _ _ _ _ _ _ _ op_cat (@xQ _ _ _ _ _ _ _ _ op_cat (@xl _ _ _ _ (@xA _ _ _ (@xB _ _ _ _ _ xX xG rfl))) (pv 8)) (@xl _ _ _ _ (@xA _ _ _ (@xB _ _ _ _ _ (xh (xy) (by rfl) T.b_str zx (@xA _ _ _ (@xB _ _ _ _ _ (pv 6) xG rfl))) (@xB _ _ _ _ _ (xh (xy) (by rfl) T.b_str zx (@xA _ _ _ (@xB _ _ _ _ _ (pv 7) xG rfl))) xG rfl) rfl)))) xG rfl))) xG rfl))))))))) (@xN _ _ _ _ _ _ (xM (i:=9) nd rfl rfl (pcl Aa hr T.Ab (@xA _ _ _ (@xB _ _ _ _ _ (pv 0) (@xB _ _ _ _ _ (@xQ _ _ _ _ _ _ _ _ xj (xL (xP rfl) (by rfl) T.b_len PySem.boot_len (@xA _ _ _ (@xB _ _ _ _ _ (pv 3) xG rfl))) xD) xG rfl) rfl)))) (@xN _ _ _ _ _ _ (xM (i:=3) nd rfl rfl (@xQ _ _ _ _ _ _ _ _ op_cat (@pe_slice _ _ _ _ _ _ _ _ _ _ (sl_list' rfl) (pv 3) (@po_some _ _ _ (pv 9)) po_none) (@pe_slice _ _ _ _ _ _ _ _ _ _ (sl_list' rfl) (pv 3) po_none (@po_some _ _ _ (pv 9))))) (@xN _ _ _ _ _ _ (@xY _ _ _ _ _ _ _ _ (@xS _ _ _ _ _ _ _ _ op_eq (pcl Aa hr T.Ab (@xA _ _ _ (@xB _ _ _ _ _ (pv 0) (@xB _ _ _ _ _ xD xG rfl) rfl))) xD (nomark _)) (@xJ _ _ _ (@xT _ _ _ (xM (i:=3) nd rfl rfl (@pe_revL _ _ _ _ _ _ _ _ _ rfl (pv 3))))) xO) (@xT _ _ _ (@xR _ _ _ _ (pv 3))))))))),?_⟩
  have line:100002<=sizeLine:=by rw [sizeLine_eq];decide
  have n60:ps.length<=60:=gd.len
  have nn:nl≠p:=λz=>by
   obtain ⟨x,y,w0,e⟩:=pu
   rw [z,e] at hn
   cases ns <;> simp at hn
  have nb:b≠p:=λz=>by
   obtain ⟨x,y,w0,e⟩:=pu
   have:=hb.book
   rw [z,e] at this;cases this
  refine ⟨by show 0<=sizeLine;omega,λl hl=>?_⟩
  have npl:l≠p:=pu.ne hl
  have hb1:=hb.same (xE (o:=HO.lst []) hl)
  refine ⟨_,rfl,b,_,_,_,rfl,rfl,SqT.of hb1.book,rfl,tm,rfl,⟨_,SqT.of hb1.meets⟩,?_⟩
  refine for_tup (K:=K) (a:=tm) (xs:=ps.map λa=>V.ref a.1) (λi σ H5=>∃ ms:List M4,(∃ v4 v5 v6 v7 v8 v9,σ=[some (.ref p),some (.ref nl),some (.ref b),some (.ref l),v4,v5,v6,v7,v8,v9])/\Go p H H5/\H5 l=some (.lst (ms.map λm=>V.str (rowM ns m)))/\ms.map M4.norm=(ps.take i).map (·.2)) ?_ ?_ ?_ ?_
  ·exact ⟨[],⟨_,_,_,_,_,_,rfl⟩,(Go.refl pu).new hl,xC,rfl⟩
  ·rintro i σ H5 _ ⟨ms,_,g5,_⟩
   exact SqT.of (g5.tups pu _ _ hb.meets)
  ·rintro i x σ H5 hx ⟨ms,⟨v4,v5,v6,v7,v8,v9,rfl⟩,g5,hl5,ems⟩
   obtain ⟨r,hr,rfl⟩:=xW hx
   have hm:=zB hr
   have lms:ms.length<=60:=by
    have:=congrArg List.length ems
    rw [zA,zA,zY] at this
    omega
   have hrow:H5 r.1=some (.tup [.int r.2.lo,.int r.2.hi,.int r.2.t,.int r.2.m]):=g5.tups pu _ _ (hb.rows r hm)
   obtain ⟨a1,a2,a3,a4,a5,a6,a7⟩:=gd.at hm
   have hn5:=g5.1 _ _ nn hn
   obtain ⟨e1,m1⟩:=nm_at (ns:=ns) (i:=r.2.lo) (by omega) (by omega)
   obtain ⟨e2,m2⟩:=nm_at (ns:=ns) (i:=r.2.hi) (by omega) (by omega)
   refine ⟨r.1,_,rfl,SqT.of hrow,rfl,_,_,rfl,_,_,rfl,_,_,rfl,_,_,rfl,rfl,?_⟩
   refine ⟨_,rfl,_,rfl,nl,_,_,_,rfl,rfl,SqL.of hn5,e1,_,rfl,_,rfl,nl,_,_,_,rfl,rfl,SqL.of hn5,e2,by show 2<=sizeLine;omega,λl2 hl2=>?_⟩
   have g6:=g5.new (o:=HO.lst [V.str (nm ns r.2.lo),V.str (nm ns r.2.hi)]) hl2
   have k6:upd H5 l2 (HO.lst [V.str (nm ns r.2.lo),V.str (nm ns r.2.hi)]) l2=some (.lst [V.str (nm ns r.2.lo),V.str (nm ns r.2.hi)]):=xC
   have hl6:=xE (o:=HO.lst [V.str (nm ns r.2.lo),V.str (nm ns r.2.hi)]) hl2 _ _ hl5
   have n2p:l2≠p:=g5.2.ne hl2
   generalize upd H5 l2 (HO.lst [V.str (nm ns r.2.lo),V.str (nm ns r.2.hi)])=H6 at g6 k6 hl6 ⊢
   clear g5 hl5 hl2 hn5 hrow
   refine ⟨_,rfl,p,2,rfl,by decide,by decide,g6.2,λd H7 d0 d1 g7=>?_⟩
   have g67:=g6.trans g7
   have k7:=g7.1 _ _ n2p k6
   have hl7:=g7.1 _ _ npl hl6
   refine ⟨rfl,_,rfl,iteN (fun σ H8=>∃ lw x y,σ=[some (.ref p),some (.ref nl),some (.ref b),some (.ref l),some (.int r.2.lo),some (.int r.2.hi),some (.int r.2.t),some (.int r.2.m),some (.ref lw),v9]/\Go p H H8/\H8 l=some (.lst (ms.map λm=>V.str (rowM ns m)))/\H8 lw=some (.lst [V.str (nm ns x),V.str (nm ns y)])/\min x y=r.2.lo/\max x y=r.2.hi/\nm ns x∈ns/\nm ns y∈ns) ?_ (λc k0=>?_) (λc=>⟨_,_,_,rfl,g67,hl7,k7,by omega,by omega,m1,m2⟩)⟩
   ·clear g67 k7 hl7 g7 g6 k6 hl6 e1 e2
    rintro σ H8 ⟨lw,x,y,rfl,g8,hl8,k8,mn,mx,mx1,my1⟩
    have t1:=tx_len (i:=r.2.t) (by omega) (by omega)
    have t2:=tx_len (i:=r.2.m) (by omega) (by omega)
    have z1:=n100 _ mx1
    have z2:=n100 _ my1
    have zM:sM.length=4:=by decide +kernel
    have zS:sp1.length=1:=by decide +kernel
    refine ⟨_,rfl,.inl ⟨rfl,_,SqL.of hl8⟩,rfl,by show 1<=sizeLine;omega,λq1 hq1=>?_⟩
    have s1:=xE (o:=HO.lst [V.str sM]) hq1
    have c1:upd H8 q1 (HO.lst [V.str sM]) q1=some (.lst [V.str sM]):=xC
    refine ⟨_,rfl,q1,lw,_,_,rfl,rfl,c1,s1 _ _ k8,by show 1 + 2<=sizeLine;omega,λq2 hq2=>?_⟩
    have s2:=s1.trans (xE (o:=HO.lst [V.str sM,V.str (nm ns x),V.str (nm ns y)]) hq2)
    have c2:upd (upd H8 q1 (HO.lst [V.str sM])) q2 (HO.lst [V.str sM,V.str (nm ns x),V.str (nm ns y)]) q2=some (.lst [V.str sM,V.str (nm ns x),V.str (nm ns y)]):=xC
    refine ⟨_,rfl,r.2.t,rfl,wH (by omega) (by omega),_,rfl,r.2.m,rfl,wH (by omega) (by omega),by show 2<=sizeLine;omega,λq3 hq3=>?_⟩
    have s3:Same H8 (upd (upd (upd H8 q1 (HO.lst [V.str sM])) q2 (HO.lst [V.str sM,V.str (nm ns x),V.str (nm ns y)])) q3 (HO.lst [V.str (tx r.2.t),V.str (tx r.2.m)])):=s2.trans (xE (o:=HO.lst [V.str (tx r.2.t),V.str (tx r.2.m)]) hq3)
    have k32:upd (upd (upd H8 q1 (HO.lst [V.str sM])) q2 (HO.lst [V.str sM,V.str (nm ns x),V.str (nm ns y)])) q3 (HO.lst [V.str (tx r.2.t),V.str (tx r.2.m)]) q2=some (.lst [V.str sM,V.str (nm ns x),V.str (nm ns y)]):=xE (o:=HO.lst [V.str (tx r.2.t),V.str (tx r.2.m)]) hq3 _ _ c2
    have k33:upd (upd (upd H8 q1 (HO.lst [V.str sM])) q2 (HO.lst [V.str sM,V.str (nm ns x),V.str (nm ns y)])) q3 (HO.lst [V.str (tx r.2.t),V.str (tx r.2.m)]) q3=some (.lst [V.str (tx r.2.t),V.str (tx r.2.m)]):=xC
    show rCat (V.ref q2) (V.ref q3) (upd (upd (upd H8 q1 (HO.lst [V.str sM])) q2 (HO.lst [V.str sM,V.str (nm ns x),V.str (nm ns y)])) q3 (HO.lst [V.str (tx r.2.t),V.str (tx r.2.m)])) _
    generalize upd (upd (upd H8 q1 (HO.lst [V.str sM])) q2 (HO.lst [V.str sM,V.str (nm ns x),V.str (nm ns y)])) q3 (HO.lst [V.str (tx r.2.t),V.str (tx r.2.m)])=H9 at s3 k32 k33 ⊢
    clear s1 s2 c1 c2 hq1 hq2 hq3
    refine ⟨q2,q3,_,_,rfl,rfl,k32,k33,by show 3 + 2<=sizeLine;omega,λq4 hq4=>?_⟩
    have s4:=s3.trans (xE (o:=HO.lst ([sM,nm ns x,nm ns y,tx r.2.t,tx r.2.m].map V.str)) hq4)
    have k44:upd H9 q4 (HO.lst ([sM,nm ns x,nm ns y,tx r.2.t,tx r.2.m].map V.str)) q4=some (.lst ([sM,nm ns x,nm ns y,tx r.2.t,tx r.2.m].map V.str)):=xC
    refine ⟨sp1,q4,_,rfl,rfl,SqL.of k44,by simp only [zu,yX,List.sum_cons,List.sum_nil,zV,zy];omega,?_⟩
    have hl10:=s4 _ _ hl8
    have g10:=g8.same s4
    rw [show Txt.join sp1 [sM,nm ns x,nm ns y,tx r.2.t,tx r.2.m]=rowM ns ⟨x,y,r.2.t,r.2.m⟩ from (Row7.joined ns (.M ⟨x,y,r.2.t,r.2.m⟩)).symm]
    refine ⟨l,_,_,rfl,rfl,hl10,by rw [zA];omega,ms++[⟨x,y,r.2.t,r.2.m⟩],⟨_,_,_,_,_,_,rfl⟩,g10.but hl npl But.set,by rw [xC,zC];rfl,?_⟩
    rw [zC,ems,xt hr,zC]
    have:(⟨x,y,r.2.t,r.2.m⟩:M4).norm=r.2:=by
     unfold M4.norm
     dsimp only
     rw [mn,mx]
    show _++[M4.norm ⟨x,y,r.2.t,r.2.m⟩]=_++[r.2]
    rw [this]
   ·exact ⟨_,rfl,l2,_,rfl,SqL.of k7,λl3 hl3=>k0 _ _ ⟨l3,r.2.hi,r.2.lo,rfl,g67.new hl3,xE hl3 _ _ hl7,xC,by omega,by omega,m2,m1⟩⟩
  rintro σ H5 ⟨ms,⟨v4,v5,v6,v7,v8,v9,rfl⟩,g5,hl5,ems⟩
  rw [zA,yV] at ems
  have lms:ms.length=ps.length:=by have:=congrArg List.length ems;rwa [zA,zA] at this
  have raw:Raw rooms.length ms:=Raw.of_norm (by rw [ems];exact gd.loose)
  refine ⟨_,rfl,_,rfl,l,_,rfl,.inl (SqL.of hl5),_,_,rfl,rfl,p,_,rfl,by rw [zA];omega,by rw [zA];omega,g5.2,λd H6 d0 d1 g6=>?_⟩
  rw [zA] at d1
  obtain ⟨k,rfl⟩:=zU d0
  have hl6:=g6.1 _ _ npl hl5
  have g56:=g5.trans g6
  refine ⟨_,rfl,_,rfl,_,rfl,l,_,rfl,SqL.of hl6,λb1 hb1=>?_⟩
  have u1:=xE (o:=HO.lst (cutV (ms.map λm=>V.str (rowM ns m)) (some (k:Int)) none)) hb1
  refine ⟨_,rfl,_,rfl,_,rfl,l,_,rfl,SqL.of (u1 _ _ hl6),λb2 hb2=>?_⟩
  have u2:=xE (o:=HO.lst (cutV (ms.map λm=>V.str (rowM ns m)) none (some (k:Int)))) hb2
  have ec1:cutV (ms.map λm=>V.str (rowM ns m)) none (some (k:Int))=(ms.take k).map λm=>V.str (rowM ns m):=by rw [cut_take,List.map_take]
  have ec2:cutV (ms.map λm=>V.str (rowM ns m)) (some (k:Int)) none=(ms.drop k).map λm=>V.str (rowM ns m):=by rw [cut_drop,List.map_drop]
  rw [ec1] at u2 ⊢
  rw [ec2] at u1 u2 hb2 ⊢
  refine ⟨b1,b2,_,_,rfl,rfl,u2 _ _ xC,xC,by rw [zA,zA,zY,ya];omega,λb3 hb3=>?_⟩
  have u3:=xE (o:=HO.lst (((ms.drop k).map λm=>V.str (rowM ns m))++((ms.take k).map λm=>V.str (rowM ns m)))) hb3
  have u13:=(u1.trans u2).trans u3
  have g7:=g56.same u13
  have n3:b3≠p:=(g56.same (u1.trans u2)).2.ne hb3
  have f3:H b3=none:=(g56.same (u1.trans u2)).free hb3 n3
  have pfs:(ms.drop k++ms.take k).Perm ms:=List.perm_append_comm.trans (by rw [List.take_append_drop])
  have hG:upd (upd (upd H6 b1 (HO.lst ((ms.drop k).map λm=>V.str (rowM ns m)))) b2 (HO.lst ((ms.take k).map λm=>V.str (rowM ns m)))) b3 (HO.lst (((ms.drop k).map λm=>V.str (rowM ns m))++((ms.take k).map λm=>V.str (rowM ns m)))) b3=some (.lst ((ms.drop k++ms.take k).map λm=>V.str (rowM ns m))):=by rw [xC,zC]
  generalize upd (upd (upd H6 b1 (HO.lst ((ms.drop k).map λm=>V.str (rowM ns m)))) b2 (HO.lst ((ms.take k).map λm=>V.str (rowM ns m)))) b3 (HO.lst (((ms.drop k).map λm=>V.str (rowM ns m))++((ms.take k).map λm=>V.str (rowM ns m))))=H8 at g7 hG ⊢
  clear u1 u2 u3 u13 hb1 hb2 hb3
  have fin:∀ (b4:Addr) (gs:List M4) (H9:Hp),Go p H H9->H b4=none->H9 b4=some (.lst (gs.map λm=>V.str (rowM ns m)))->gs.Perm ms->Q (.ref b4) H9:=λb4 gs H9 g9 f4 k4 pg=>q b4 gs H9 g9 f4 k4 (raw.perm pg) (by rw [<-ems];exact pg.map _)
  generalize ms.drop k++ms.take k=gs at *
  refine ⟨_,rfl,p,2,rfl,by decide,by decide,g7.2,λe H9 e0 e1 g9=>?_⟩
  have hG9:=g9.1 _ _ n3 hG
  have g79:=g7.trans g9
  refine ⟨rfl,_,rfl,iteN (fun σ H1=>∃ b4 gs,(∃ v4 v5 v6 v7 v8 v9,σ=[some (.ref p),some (.ref nl),some (.ref b),some (.ref b4),v4,v5,v6,v7,v8,v9])/\Go p H H1/\H b4=none/\H1 b4=some (.lst (gs.map λm=>V.str (rowM ns m)))/\gs.Perm ms) ?_ (λc k0=>?_) (λc=>⟨b3,gs,⟨_,_,_,_,_,_,rfl⟩,g79,f3,hG9,pfs⟩)⟩
  ·rintro σ H1 ⟨b4,gs,⟨v4,v5,v6,v7,v8,v9,rfl⟩,g1,f4,k4,pg⟩
   exact ⟨_,rfl,fin b4 gs H1 g1 f4 k4 pg⟩
  ·exact ⟨_,rfl,b3,_,rfl,SqL.of hG9,λb4 hb4=>k0 _ _ ⟨b4,gs.reverse,⟨_,_,_,_,_,_,rfl⟩,g79.new hb4,g79.free hb4 (g9.2.ne hb4),by rw [xC,List.map_reverse],(List.reverse_perm gs).trans pfs⟩⟩
theorem Fj:FnScope ["_law_script", "_law_book_here", "_law_names_here", "_law_letters_here", "_law_k", "_law_plain", "_law_many", "_law_handed", "_law_kept", "_law_told"] ["_law_script"] (defScope Fk):=⟨rfl,rfl,rfl,by decide +kernel,rfl,by decide +kernel,by decide +kernel⟩
theorem Fp (T:Tx K mg a t_LAST_TIME t_MOST_WALKERS t_MOST_ROOM t_MOST_MEETINGS t_MOST_MANY t_LONGEST_NAME t_MOST_FIGURES t_MOST_LETTERS) (B:BmAt mg base):OkD T.Fm P w base 7 (spLawT K a.tP lamPos):=by
 have Fb:=EU P w base T B
 have DF:=EW P w base T B
 have Bh:=EA P w base T B
 have E8:=EO P w base T B
 have EC:=Es P w base T B
 have ET:=EB P w base T B
 have E7:=EN P w base T B
 have AI:=Em P w base T B
 have En:=D5 P w base T B
 refine T.Fm.F.ok Fj (λvs H Q E h=>?_) (λcdv A outer s H vs Q E hr h=>?_)
 ·obtain ⟨_,_,rfl,_⟩:=h;rfl
 ·have nd:=Fj.nd
  have hu:=hr.units
  obtain ⟨sa,ns0,rfl,hS,hn0,mt,q⟩:=h
  refine ⟨_,(@xJ _ _ _ (@xN _ _ _ _ _ _ (xM (i:=1) nd rfl rfl (pcl E8 hr T.CN (@xA _ _ _ (@xB _ _ _ _ _ (pcl Bh hr T.As (@xA _ _ _ (@xB _ _ _ _ _ (pv 0) (@xB _ _ _ _ _ xD xG rfl) rfl))) (@xB _ _ _ _ _ xD (@xB _ _ _ _ _ xD xG rfl) rfl) rfl)))) (@xN _ _ _ _ _ _ (xM (i:=2) nd rfl rfl (pcl ET hr T.B8 (@xA _ _ _ (@xB _ _ _ _ _ (pcl Bh hr T.As (@xA _ _ _ (@xB _ _ _ _ _ (pv 0) (@xB _ _ _ _ _ xD xG rfl) rfl))) (@xB _ _ _ _ _ (xL (xP rfl) (by rfl) T.b_len PySem.boot_len (@xA _ _ _ (@xB _ _ _ _ _ (@xU _ _ _ _ _ _ _ (xZ rfl) (pv 1) xD (λ_ _=>rfl)) xG rfl))) xG rfl) rfl)))) (@xN _ _ _ _ _ _ (xM (i:=3) nd rfl rfl (@xl _ _ _ _ pa_nil)) (@xN _ _ _ _ _ _ (wO PassesOwn.never rfl (pi_range2 rfl T.b_range (@xA _ _ _ (@xB _ _ _ _ _ xD (@xB _ _ _ _ _ (xL (call_min2 rfl) (by rfl) T.b_min PyProof.Rows.boot_min (@xA _ _ _ (@xB _ _ _ _ _ (xL (xP rfl) (by rfl) T.b_len PySem.boot_len (@xA _ _ _ (@xB _ _ _ _ _ (pv 0) xG rfl))) (@xB _ _ _ _ _ xD xG rfl) rfl))) xG rfl) rfl))) (xI (i:=4) nd rfl rfl) (@xJ _ _ _ (@xT _ _ _ (xx (wP ze zg zh xr (pv 3) (@xA _ _ _ (@xB _ _ _ _ _ (pcl EC hr T.BT (@xA _ _ _ (@xB _ _ _ _ _ (pcl Bh hr T.As (@xA _ _ _ (@xB _ _ _ _ _ (pv 0) (@xB _ _ _ _ _ (pv 4) xG rfl) rfl))) (@xB _ _ _ _ _ (pv 1) xG rfl) rfl))) xG rfl))))))) (@xN _ _ _ _ _ _ (xM (i:=5) nd rfl rfl (pcl E7 hr T.CM (@xA _ _ _ (@xB _ _ _ _ _ (pv 2) (@xB _ _ _ _ _ (pv 1) (@xB _ _ _ _ _ (pv 3) xG rfl) rfl) rfl)))) (@xN _ _ _ _ _ _ (xM (i:=6) nd rfl rfl (xL (xP rfl) (by rfl) T.b_len PySem.boot_len (@xA _ _ _ (@xB _ _ _ _ _ (pv 2) xG rfl)))) (@xN _ _ _ _ _ _ (xM (i:=7) nd rfl rfl (@xQ _ _ _ _ _ _ _ _ op_cat (@xQ _ _ _ _ _ _ _ _ op_cat (@pe_slice _ _ _ _ _ _ _ _ _ _ (sl_list' rfl) (pv 5) po_none (@po_some _ _ _ (pv 6))) (pcl En hr T.A5 (@xA _ _ _ (@xB _ _ _ _ _ (pcl Bh hr T.As (@xA _ _ _ (@xB _ _ _ _ _ (pv 0) (@xB _ _ _ _ _ xD xG rfl) rfl))) (@xB _ _ _ _ _ (pv 2) (@xB _ _ _ _ _ (pv 1) xG rfl) rfl) rfl)))) (@pe_slice _ _ _ _ _ _ _ _ _ _ (sl_list' rfl) (pv 5) (@po_some _ _ _ (@xQ _ _ _ _ _ _ _ _ xj (pv 6) (xL (xP rfl) (by rfl) T.b_len PySem.boot_len (@xA _ _ _ (@xB _ _ _ _ _ (@xU _ _ _ _ _ _ _ (xZ rfl) (pv 1) xD (λ_ _=>rfl)) xG rfl))))) po_none))) (@xN _ _ _ _ _ _ (xM (i:=8) nd rfl rfl (xh (call_list_of' rfl) (by rfl) T.b_list yR (@xA _ _ _ (@xB _ _ _ _ _ (pv 7) xG rfl)))) (@xN _ _ _ _ _ _ (xM (i:=9) nd rfl rfl (pcl DF hr T.Bl (@xA _ _ _ (@xB _ _ _ _ _ (pv 7) xG rfl)))) (@xN _ _ _ _ _ _ (@xY _ _ _ _ _ _ _ _ (@PW.pt _ _ _ (@wN _ _ _ _ _ _ _ (@xf _ _ _ _ (xg (pcl AI hr T.Ah (@xA _ _ _ (@xB _ _ _ _ _ (pv 9) (@xB _ _ _ _ _ (pv 2) (@xB _ _ _ _ _ (pv 1) (@xB _ _ _ _ _ (pv 3) xG rfl) rfl) rfl) rfl))))) (@wD _ _ _ _ (@xS _ _ _ _ _ _ _ _ (op_neE hu) (pv 7) (pv 8) (nomark _))))) (@xJ _ _ _ (@xT _ _ _ (@xR _ _ _ _ pe_bl))) xO) (@xN _ _ _ _ _ _ (xx (pe_bm0 ze PySem.F.slot_list_clear PySem.F.type_list_clear mt_clear (pv 7))) (@xN _ _ _ _ _ _ (@xY _ _ _ _ _ _ _ _ (@xf _ _ _ _ (xg (pcl AI hr T.Ah (@xA _ _ _ (@xB _ _ _ _ _ (pv 9) (@xB _ _ _ _ _ (pv 2) (@xB _ _ _ _ _ (pv 1) (@xB _ _ _ _ _ (pv 3) xG rfl) rfl) rfl) rfl))))) (@xJ _ _ _ (@xT _ _ _ (@xR _ _ _ _ pe_bl))) xO) (@xN _ _ _ _ _ _ (xx (wP ze zg zh xr (@xU _ _ _ _ _ _ _ (xZ rfl) (pv 9) xD (λ_ _=>rfl)) (@xA _ _ _ (@xB _ _ _ _ _ xX xG rfl)))) (@xN _ _ _ _ _ _ (xx (wP ze zg zh xr (@xU _ _ _ _ _ _ _ (xZ rfl) (pv 9) xD (λ_ _=>rfl)) (@xA _ _ _ (@xB _ _ _ _ _ xD xG rfl)))) (@xN _ _ _ _ _ _ (@xY _ _ _ _ _ _ _ _ (@xf _ _ _ _ (xg (pcl AI hr T.Ah (@xA _ _ _ (@xB _ _ _ _ _ (pcl DF hr T.Bl (@xA _ _ _ (@xB _ _ _ _ _ (pv 8) xG rfl))) (@xB _ _ _ _ _ (pv 2) (@xB _ _ _ _ _ (pv 1) (@xB _ _ _ _ _ (pv 3) xG rfl) rfl) rfl) rfl))))) (@xJ _ _ _ (@xT _ _ _ (@xR _ _ _ _ pe_bl))) xO) (@xT _ _ _ (@xR _ _ _ _ (pcl AI hr T.Ah (@xA _ _ _ (@xB _ _ _ _ _ (pcl DF hr T.Bl (@xA _ _ _ (@xB _ _ _ _ _ (pcl Fb hr T.Du (@xA _ _ _ (@xB _ _ _ _ _ (pv 2) (@xB _ _ _ _ _ (pv 1) (@xB _ _ _ _ _ (pv 3) xG rfl) rfl) rfl))) xG rfl))) (@xB _ _ _ _ _ (pv 2) (@xB _ _ _ _ _ (pv 1) (@xB _ _ _ _ _ (pv 3) xG rfl) rfl) rfl) rfl))))))))))))))))))))),?_⟩
  have line:100002<=sizeLine:=by rw [sizeLine_eq];decide
  refine ⟨_,rfl,sa,ns0,0,rfl,hS,by omega,λp H1 hp pu s1=>⟨p,12,60,rfl,by decide,by decide,by decide,pu,λb rooms tr tm ps H2 g2 hb r1 r12 rr gd lps=>?_⟩⟩
  have mt2:=L2.MT.go (L2.MT.same mt s1) pu g2
  have s2:Same H H2:=But.same hp s1 g2.1
  have r12':rooms.length<=12:=by omega
  refine ⟨_,rfl,sa,ns0,1,rfl,s2.seq hS,by omega,λp2 H3 hp2 pu2 s3=>?_⟩
  have hb3:=hb.same s3
  refine ⟨_,rfl,b,_,_,_,rfl,rfl,SqT.of hb3.book,rfl,tr,_,rfl,.inr (SqT.of hb3.rooms),p2,rooms.length,(by rw [zA];rfl),r1,r12',pu2,λnl ns H4 g4 fnl kn lns wdN ndN=>?_⟩
  have mt4:=L2.MT.go (L2.MT.same mt2 s3) pu2 g4
  have s24:Same H2 H4:=But.same hp2 s3 g4.1
  have s4:=s2.trans s24
  have hb4:=hb.same s24
  clear hp hp2 pu pu2 s1 g2 s3 hb3 g4 s24 hb mt2 mt
  refine ⟨by show 0<=sizeLine;omega,λll hll=>?_⟩
  have s5:=xE (o:=HO.lst []) hll
  have k5:upd H4 ll (HO.lst []) ll=some (.lst ([]:List V)):=xC
  generalize upd H4 ll (HO.lst [])=H5 at s5 k5 ⊢
  have nll:ll≠nl:=λz=>by rw [z,kn] at hll;cases hll
  refine ⟨_,rfl,sa,_,rfl,.inl ((s4.trans s5).seq hS),_,_,rfl,_,_,rfl,?_,?_⟩
  ·refine ⟨by decide,by decide,?_,?_⟩
   ·split <;> omega
   ·rw [zA];split <;> omega
  refine for_range (lo:=3) (λi σ H8=>∃ ls,(∃ v4 v5 v6 v7 v8 v9,σ=[some (.ref sa),some (.ref b),some (.ref nl),some (.ref ll),v4,v5,v6,v7,v8,v9])/\Same H4 H8/\LetsL H8 ll ls/\(∀ l∈ls,l.2.s < rooms.length/\l.2.w < rooms.length/\0<=l.2.a/\l.2.a<=1000000000/\0<=l.2.z/\l.2.z<=1000000000)/\ls.length=i) ⟨[],⟨_,_,_,_,_,_,rfl⟩,s5,⟨k5,λ_ z=>nomatch z⟩,(λ_ z=>nomatch z),rfl⟩ ?_ ?_
  ·clear s5 k5
   rintro i σ H8 hi ⟨ls,⟨v4,v5,v6,v7,v8,v9,rfl⟩,s8,hL8,lr8,lls⟩
   have i60:i < 41:=by
    rw [zA] at hi
    revert hi
    split <;> intro h <;> omega
   refine ⟨_,rfl,.inl ⟨rfl,_,SqL.of hL8.1⟩,?_⟩
   refine ⟨_,rfl,_,rfl,sa,ns0,3 + i,by simp,(s4.trans s8).seq hS,by omega,λp2 H9 hp2 pu9 s9=>?_⟩
   refine ⟨_,rfl,p2,b,rooms,tr,tm,ps,rfl,(hb4.same s8).same s9,r1,by omega,gd,pu9,λt s0 a0 w0 z0 HA gA ht s1' s2' w1' w2' a1' a2' z1' z2'=>?_⟩
   obtain ⟨s0,rfl⟩:=zU s1'
   obtain ⟨w0,rfl⟩:=zU w1'
   have sA:Same H8 HA:=But.same hp2 s9 gA.1
   have hLA:=hL8.same sA
   have tA:=Tups.set (o:=HO.lst ((ls.map λx=>V.ref x.1)++[V.ref t])) hLA.1
   refine ⟨ll,_,_,rfl,rfl,hLA.1,by rw [zA];omega,ls++[(t,⟨s0,w0,a0,z0⟩)],⟨_,_,_,_,_,_,rfl⟩,Same.put hll (s8.trans sA),⟨by rw [xC,zC];rfl,λx hx=>?_⟩,λx hx=>?_,by rw [zI,lls];rfl⟩
   ·rcases zZ.mp hx with h | h
    ·exact tA _ _ (hLA.2 x h)
    ·cases zP.mp h
     exact tA _ _ ht
   ·rcases zZ.mp hx with h | h
    ·exact lr8 x h
    ·cases zP.mp h
     exact ⟨by show s0 < rooms.length;omega,by show w0 < rooms.length;omega,a1',a2',z1',z2'⟩
  rintro σ H6 ⟨ls,⟨v4,v5,v6,v7,v8,v9,rfl⟩,s6,hL6,lr6,lls⟩
  have l40:ls.length<=40:=by
   rw [lls,zA]
   split <;> omega
  clear lls s5 k5
  have lrow:∀ l∈ls,LRow l.2 rooms.length:=λl hl=>by
   obtain ⟨h1,h2,h3,h4,h5,h6⟩:=lr6 l hl
   exact ⟨h1,h2,by omega,by omega,by omega,by omega⟩
  have n100:∀ s∈ns,s.length<=100:=λs hs=>by have:=(wdN s hs).2.1;omega
  have n60:=gd.len
  have W6:Own7 H6 nl b ll ns rooms tr tm ps ls:=⟨s6 _ _ kn,hb4.same s6,hL6⟩
  have mt6:=L2.MT.same mt4 s6
  have hS6:=(s4.trans s6).seq hS
  clear s6 hL6 hb4 kn mt4 s4 hll hS
  refine ⟨_,rfl,_,rfl,_,rfl,nl,b,ll,ns,ls,rooms,tr,tm,ps,rfl,W6.names,W6.book,lns,r12',n100,rr,gd,W6.lets,by omega,lrow,λpl H7 s7 fpl kpl=>?_⟩
  have W7:=W6.same s7
  have mt7:=L2.MT.same mt6 s7
  have hS7:=s7.seq hS6
  clear s7 W6 mt6 hS6 fpl
  refine ⟨_,rfl,nl,_,rfl,.inl (SqL.of W7.names),?_⟩
  rw [zA]
  have a100:(allRows ns rooms (ps.map (·.2)) (ls.map (·.2))).length<=112:=by
   rw [<-allD_text,zA]
   unfold allD
   simp only [zA,zI,yh];omega
  refine ⟨_,rfl,_,rfl,_,rfl,pl,_,rfl,SqL.of kpl,λb1 hb1=>?_⟩
  have s8:=xE (o:=HO.lst (cutV ((allRows ns rooms (ps.map (·.2)) (ls.map (·.2))).map V.str) none (some ((ns.length:Nat):Int)))) hb1
  have k8:upd H7 b1 (HO.lst (cutV ((allRows ns rooms (ps.map (·.2)) (ls.map (·.2))).map V.str) none (some ((ns.length:Nat):Int)))) b1=some (.lst (cutV ((allRows ns rooms (ps.map (·.2)) (ls.map (·.2))).map V.str) none (some ((ns.length:Nat):Int)))):=xC
  generalize upd H7 b1 (HO.lst (cutV ((allRows ns rooms (ps.map (·.2)) (ls.map (·.2))).map V.str) none (some ((ns.length:Nat):Int))))=H8 at s8 k8 ⊢
  refine ⟨_,rfl,sa,ns0,2,rfl,s8.seq hS7,by omega,λp3 H9 hp3 pu3 s9=>?_⟩
  have W9:=(W7.same s8).same s9
  refine ⟨_,rfl,_,rfl,p3,nl,b,ns,rooms,tr,tm,ps,rfl,pu3,W9.names,W9.book,lns,r12',n100,gd,λml ms HA gA fml kml raw pm=>?_⟩
  have s8A:Same H8 HA:=But.same hp3 s9 gA.1
  have mtA:=L2.MT.go (L2.MT.same (L2.MT.same mt7 s8) s9) pu3 gA
  have s7A:=s8.trans s8A
  have WA:=W7.same s7A
  have kA:=s8A _ _ k8
  have kplA:=s7A _ _ kpl
  have n60':ms.length<=60:=raw.few
  clear hp3 pu3 s9 W9 gA s8A k8 s8 mt7 hb1 fml
  have lcut:∀ (xs:List V) (lo hi:Option Int),xs.length<=112->(cutV xs lo hi).length<=112:=λxs lo hi h=>zj (cutV_length xs lo hi) h
  have c1:=lcut ((allRows ns rooms (ps.map (·.2)) (ls.map (·.2))).map V.str) none (some ((ns.length:Nat):Int)) (by rw [zA];exact a100)
  refine ⟨b1,ml,_,_,rfl,rfl,kA,kml,by rw [zA];omega,λb2 hb2=>?_⟩
  have sB:=xE (o:=HO.lst (cutV ((allRows ns rooms (ps.map (·.2)) (ls.map (·.2))).map V.str) none (some ((ns.length:Nat):Int))++(ms.map λm=>V.str (rowM ns m)))) hb2
  have kB:upd HA b2 (HO.lst (cutV ((allRows ns rooms (ps.map (·.2)) (ls.map (·.2))).map V.str) none (some ((ns.length:Nat):Int))++(ms.map λm=>V.str (rowM ns m)))) b2=some (.lst (cutV ((allRows ns rooms (ps.map (·.2)) (ls.map (·.2))).map V.str) none (some ((ns.length:Nat):Int))++(ms.map λm=>V.str (rowM ns m)))):=xC
  generalize upd HA b2 (HO.lst (cutV ((allRows ns rooms (ps.map (·.2)) (ls.map (·.2))).map V.str) none (some ((ns.length:Nat):Int))++(ms.map λm=>V.str (rowM ns m))))=HB at sB kB ⊢
  have WB:=WA.same sB
  have eN:(ns.length:Int) + ((ps.map λa=>V.ref a.1).length:Int)=((ns.length + (ps.map (·.2)).length:Nat):Int):=by rw [zA,zA];omega
  refine ⟨_,rfl,_,rfl,_,rfl,b,_,_,_,rfl,rfl,SqT.of WB.book.book,rfl,tm,_,rfl,.inr (SqT.of WB.book.meets),_,_,rfl,rfl,_,rfl,pl,_,rfl,SqL.of (sB _ _ kplA),λb3 hb3=>?_⟩
  rw [eN]
  have c2:=lcut ((allRows ns rooms (ps.map (·.2)) (ls.map (·.2))).map V.str) (some ((ns.length + (ps.map (·.2)).length:Nat):Int)) none (by rw [zA];exact a100)
  have sC:=xE (o:=HO.lst (cutV ((allRows ns rooms (ps.map (·.2)) (ls.map (·.2))).map V.str) (some ((ns.length + (ps.map (·.2)).length:Nat):Int)) none)) hb3
  have kC:upd HB b3 (HO.lst (cutV ((allRows ns rooms (ps.map (·.2)) (ls.map (·.2))).map V.str) (some ((ns.length + (ps.map (·.2)).length:Nat):Int)) none)) b3=some (.lst (cutV ((allRows ns rooms (ps.map (·.2)) (ls.map (·.2))).map V.str) (some ((ns.length + (ps.map (·.2)).length:Nat):Int)) none)):=xC
  generalize upd HB b3 (HO.lst (cutV ((allRows ns rooms (ps.map (·.2)) (ls.map (·.2))).map V.str) (some ((ns.length + (ps.map (·.2)).length:Nat):Int)) none))=HC at sC kC ⊢
  refine ⟨b2,b3,_,_,rfl,rfl,sC _ _ kB,kC,by rw [zI,zA];omega,λhd hhd=>?_⟩
  rw [allRows_cut lns]
  have sD:=xE (o:=HO.lst ((allRows ns rooms ms (ls.map (·.2))).map V.str)) hhd
  have kD:upd HC hd (HO.lst ((allRows ns rooms ms (ls.map (·.2))).map V.str)) hd=some (.lst ((allRows ns rooms ms (ls.map (·.2))).map V.str)):=xC
  have WC:=WB.same sC
  have nhd:nl≠hd:=λz=>by have:=WC.names;rw [z,hhd] at this;cases this
  have lhd:ll≠hd:=λz=>by have:=WC.lets.1;rw [z,hhd] at this;cases this
  have sAD:=sB.trans (sC.trans sD)
  generalize upd HC hd (HO.lst ((allRows ns rooms ms (ls.map (·.2))).map V.str))=HD at sD kD sAD ⊢
  have WD:=WA.same sAD
  have mtD:=L2.MT.same mtA sAD
  clear sB sC sD kB kC WB WC hb2 hb3 hhd kA kml kplA mtA WA s7A c1 c2 eN hS7 kpl
  refine ⟨_,rfl,hd,_,rfl,.inl (SqL.of kD),λkd hkd=>?_⟩
  have sE:=xE (o:=HO.lst ((allRows ns rooms ms (ls.map (·.2))).map V.str)) hkd
  have kkE:upd HD kd (HO.lst ((allRows ns rooms ms (ls.map (·.2))).map V.str)) kd=some (.lst ((allRows ns rooms ms (ls.map (·.2))).map V.str)):=xC
  have nkh:kd≠hd:=λz=>by rw [z,kD] at hkd;cases hkd
  have nkn:nl≠kd:=λz=>by have:=WD.names;rw [z,hkd] at this;cases this
  have nkl:ll≠kd:=λz=>by have:=WD.lets.1;rw [z,hkd] at this;cases this
  generalize upd HD kd (HO.lst ((allRows ns rooms ms (ls.map (·.2))).map V.str))=HE at sE kkE ⊢
  have WE:=WD.same sE
  have mtE:=L2.MT.same mtD sE
  have khE:=sE _ _ kD
  clear sE kD WD mtD hkd
  have ro:RowsOk ns rooms ms (ls.map (·.2)):=RowsOk.mk' lns r1 r12' wdN ndN rr raw l40 lr6
  have yl:∀ {ys:List (Addr×L4)},ys.map (·.2)=ls.map (·.2)->ys.length<=41:=λ{ys} e=>by have:=congrArg List.length e;rw [zA,zA] at this;omega
  refine ⟨_,rfl,hd,ns,rooms,ms,ls.map (·.2),rfl,khE,ro,mtE,λto tn tb tl ttr ttm tps tys HF bF mtF told ftn ftl tne gdT pmT eyT=>?_⟩
  have eps:=gdT.eq gd (pmT.trans pm)
  have t60:=gdT.len
  have tnh:tn≠hd:=λz=>by rw [z,khE] at ftn;cases ftn
  have tlh:tl≠hd:=λz=>by rw [z,khE] at ftl;cases ftl
  have tnk:tn≠kd:=λz=>by rw [z,kkE] at ftn;cases ftn
  have tlk:tl≠kd:=λz=>by rw [z,kkE] at ftl;cases ftl
  have tnn:nl≠tn:=λz=>by rw [<-z,WE.names] at ftn;cases ftn
  have tln:ll≠tn:=λz=>by rw [<-z,WE.lets.1] at ftn;cases ftn
  have tnl:nl≠tl:=λz=>by rw [<-z,WE.names] at ftl;cases ftl
  have tll:ll≠tl:=λz=>by rw [<-z,WE.lets.1] at ftl;cases ftl
  have WF:=WE.keep mtE bF
  have khF:=MT.keep mtE bF khE (by intro ys z;cases z)
  have kkF:=MT.keep mtE bF kkE (by intro ys z;cases z)
  clear WE mtE khE kkE bF ftn ftl pmT
  refine ⟨_,rfl,_,rfl,_,rfl,_,rfl,to,tn,tb,tl,ns,rooms,ttr,ttm,tps,tys,nl,b,ll,tr,tm,ps,ls,rfl,told,WF.names,WF.book,WF.lets,eps,eyT,by omega,r12',t60,yl eyT,r1,λHG sG=>⟨_,rfl,iteB0 rfl ?_⟩⟩
  have WG:=WF.same sG
  have toldG:=told.same sG
  have khG:=sG _ _ khF
  have kkG:=sG _ _ kkF
  have mtG:=L2.MT.same mtF sG
  clear WF told khF kkF mtF sG
  refine ⟨_,rfl,_,rfl,ne_strsL khG kkG ⟨_,rfl,iteB0 rfl ?_⟩⟩
  refine ⟨_,rfl,.inl ⟨rfl,_,SqL.of khG⟩,hd,_,rfl,rfl,khG,?_⟩
  have WI:=WG.put (o:=HO.lst []) khG nhd lhd
  have toldI:=toldG.put (o:=HO.lst []) khG tnh tlh
  have mtI:=L2.MT.put (o:=HO.lst []) mtG khG
  have kkI:upd HG hd (HO.lst []) kd=_:=(xH nkh).trans kkG
  generalize upd HG hd (HO.lst [])=HI at WI toldI mtI kkI ⊢
  clear WG toldG mtG kkG khG
  refine ⟨_,rfl,_,rfl,_,rfl,_,rfl,to,tn,tb,tl,ns,rooms,ttr,ttm,tps,tys,nl,b,ll,tr,tm,ps,ls,rfl,toldI,WI.names,WI.book,WI.lets,eps,eyT,by omega,r12',t60,yl eyT,r1,λHJ sJ=>⟨_,rfl,iteB0 rfl ?_⟩⟩
  have WJ:=WI.same sJ
  have toldJ:=toldI.same sJ
  have kkJ:=sJ _ _ kkI
  have mtJ:=L2.MT.same mtI sJ
  clear WI toldI kkI mtI sJ
  refine ⟨_,rfl,to,_,_,_,rfl,rfl,SqT.of toldJ.tup,rfl,.inl ⟨rfl,_,SqL.of toldJ.names⟩,tn,_,_,rfl,rfl,toldJ.names,by rw [zA];omega,?_⟩
  have WK:=WJ.put (o:=HO.lst (ns.map V.str++[V.str (Str.ofString "more")])) toldJ.names tnn tln
  have kl:upd HJ tn (HO.lst (ns.map V.str++[V.str (Str.ofString "more")])) tl=some (.lst (tys.map λx=>V.ref x.1)):=(xH tne.symm).trans toldJ.lets.1
  have kt:=Tups.set (o:=HO.lst (ns.map V.str++[V.str (Str.ofString "more")])) toldJ.names _ _ toldJ.tup
  have mtK:=L2.MT.put (o:=HO.lst (ns.map V.str++[V.str (Str.ofString "more")])) mtJ toldJ.names
  have kkK:upd HJ tn (HO.lst (ns.map V.str++[V.str (Str.ofString "more")])) kd=_:=(xH tnk.symm).trans kkJ
  generalize upd HJ tn (HO.lst (ns.map V.str++[V.str (Str.ofString "more")]))=HK at WK kl kt mtK kkK ⊢
  clear WJ toldJ kkJ mtJ
  refine ⟨_,rfl,to,_,_,_,rfl,rfl,SqT.of kt,rfl,.inl ⟨rfl,_,SqL.of kl⟩,tl,_,_,rfl,rfl,kl,by rw [zA];have:=yl eyT;omega,?_⟩
  have WL:=WK.put (o:=HO.lst ((tys.map λx=>V.ref x.1)++[V.int 0])) kl tnl tll
  have mtL:=L2.MT.put (o:=HO.lst ((tys.map λx=>V.ref x.1)++[V.int 0])) mtK kl
  have kkL:upd HK tl (HO.lst ((tys.map λx=>V.ref x.1)++[V.int 0])) kd=_:=(xH tlk.symm).trans kkK
  generalize upd HK tl (HO.lst ((tys.map λx=>V.ref x.1)++[V.int 0]))=HL at WL mtL kkL ⊢
  clear WK mtK kkK kl kt
  refine ⟨_,rfl,kd,ns,rooms,ms,ls.map (·.2),rfl,kkL,ro,mtL,λto tn tb tl ttr ttm tps tys HM bM mtM told _ _ _ gdT pmT eyT=>?_⟩
  have eps:=gdT.eq gd (pmT.trans pm)
  have t60:=gdT.len
  have WM:=WL.keep mtL bM
  refine ⟨_,rfl,_,rfl,_,rfl,to,tn,tb,tl,ns,rooms,ttr,ttm,tps,tys,nl,b,ll,tr,tm,ps,ls,rfl,told,WM.names,WM.book,WM.lets,eps,eyT,by omega,r12',t60,yl eyT,r1,λHN sN=>⟨_,rfl,iteB0 rfl ?_⟩⟩
  have WN:=WM.same sN
  have mtN:=L2.MT.same mtM sN
  refine ⟨_,rfl,_,rfl,_,rfl,nl,b,ll,ns,ls,rooms,tr,tm,ps,rfl,WN.names,WN.book,lns,r12',n100,rr,gd,WN.lets,by omega,lrow,λp2 HO2 sO _ kp2=>?_⟩
  have WO:=WN.same sO
  have mtO:=L2.MT.same mtN sO
  have ro2:RowsOk ns rooms (ps.map (·.2)) (ls.map (·.2)):=RowsOk.mk' lns r1 r12' wdN ndN rr gd.raw l40 lr6
  refine ⟨p2,ns,rooms,ps.map (·.2),ls.map (·.2),rfl,kp2,ro2,mtO,λto tn tb tl ttr ttm tps tys HP bP mtP told _ _ _ gdT pmT eyT=>?_⟩
  have eps:=gdT.eq gd (pmT.trans (by rw [gd.norm]))
  have t60:=gdT.len
  have WP:=WO.keep mtO bP
  exact ⟨_,rfl,_,rfl,_,rfl,to,tn,tb,tl,ns,rooms,ttr,ttm,tps,tys,nl,b,ll,tr,tm,ps,ls,rfl,told,WP.names,WP.book,WP.lets,eps,eyT,by omega,r12',t60,yl eyT,r1,λHQ _=>q HQ⟩
end
theorem all_mk {l:PySem.W.OpenLaw}{w:World}{K:PySem.W.Frag}{h:Heap}{mg:Str->Option Value}{fa Dz D8 CP DC DA DD CT CW Ca An Bo CS CQ CO D7 CU CV Bn DB Cd CZ Cc C0 A8 C2 DE CY BU Ce C1 Cb AL Bp A7 Fo tC tP c_FORMS D2 c_SORTS:Addr} (X:K.In h) (G:h.Ns mainGlobals mg) (hfa:mg "law" = some (.ref fa))
  {Cf Dk BH Ci Cg Cj BJ BM Bc Af AB Ay BI BG Dj BK BL AA Ch Bf BO Be BP Aw BR Ck BN AO Bg BQ Bd At AC Av Fg:FuncData}{t_LAST_TIME:Tok}{t_MOST_WALKERS:Tok}{t_MOST_ROOM:Tok}{t_MOST_MEETINGS:Tok}{t_MOST_MANY:Tok}{t_LONGEST_NAME:Tok}{t_MOST_FIGURES:Tok}{t_MOST_LETTERS:Tok}
  (Bq:zG K mainGlobals "show_all" = some (some (.ref Dz))) (DG:Fun K "show_all" "show_all" AJ Dz Cf)
  (BZ:zG K mainGlobals "is_name" = some (some (.ref D8))) (Ea:Fun K "is_name" "is_name" Dh D8 Dk)
  (AR:zG K mainGlobals "number_of" = some (some (.ref CP))) (C4:Fun K "number_of" "number_of" BB CP BH)
  (Bt:zG K mainGlobals "parts_of" = some (some (.ref DC))) (DJ:Fun K "parts_of" "parts_of" B0 DC Ci)
  (Br:zG K mainGlobals "read_row" = some (some (.ref DA))) (DH:Fun K "read_row" "read_row" Dr DA Cg)
  (Bu:zG K mainGlobals "is_whole" = some (some (.ref DD))) (DK:Fun K "is_whole" "is_whole" Ds DD Cj)
  (AU:zG K mainGlobals "is_within" = some (some (.ref CT))) (C7:Fun K "is_within" "is_within" Cw CT BJ)
  (AX:zG K mainGlobals "are_rooms" = some (some (.ref CW))) (Da:Fun K "are_rooms" "are_rooms" BD CW BM)
  (AD:zG K mainGlobals "is_meeting" = some (some (.ref Ca))) (Cl:Fun K "is_meeting" "is_meeting" B1 Ca Bc)
  (Ac:zG K mainGlobals "meets_twice_at_once" = some (some (.ref An))) (Ao:Fun K "meets_twice_at_once" "meets_twice_at_once" wA An Af)
  (Aq:zG K mainGlobals "lesser_first" = some (some (.ref Bo))) (Bx:Fun K "lesser_first" "lesser_first" Bi Bo AB)
  (AT:zG K mainGlobals "made_book" = some (some (.ref CS))) (C6:Fun K "made_book" "made_book" BC CS Ay)
  (AS:zG K mainGlobals "number_in" = some (some (.ref CQ))) (C5:Fun K "number_in" "number_in" Cv CQ BI)
  (AQ:zG K mainGlobals "read_book" = some (some (.ref CO))) (C3:Fun K "read_book" "read_book" BA CO BG)
  (BY:zG K mainGlobals "is_time" = some (some (.ref D7))) (D9:Fun K "is_time" "is_time" D3 D7 Dj)
  (AV:zG K mainGlobals "is_walker" = some (some (.ref CU))) (C8:Fun K "is_walker" "is_walker" Cy CU BK)
  (AW:zG K mainGlobals "is_letter" = some (some (.ref CV))) (C9:Fun K "is_letter" "is_letter" Cz CV BL)
  (Ap:zG K mainGlobals "read_letters" = some (some (.ref Bn))) (Bw:Fun K "read_letters" "read_letters" wQ Bn AA)
  (Bs:zG K mainGlobals "read_all" = some (some (.ref DB))) (DI:Fun K "read_all" "read_all" wL DB Ch)
  (AG:zG K mainGlobals "_law_purse" = some (some (.ref Cd))) (Co:Fun K "_law_purse" "_law_purse" B4 Cd Bf)
  (AZ:zG K mainGlobals "_law_take" = some (some (.ref CZ))) (Dc:Fun K "_law_take" "_law_take" CB CZ BO)
  (AF:zG K mainGlobals "_law_rooms" = some (some (.ref Cc))) (Cn:Fun K "_law_rooms" "_law_rooms" B3 Cc Be)
  (A0:zG K mainGlobals "_law_step" = some (some (.ref C0))) (Dd:Fun K "_law_step" "_law_step" CC C0 BP)
  (Al:zG K mainGlobals "_law_meetings" = some (some (.ref A8))) (Ba:Fun K "_law_meetings" "_law_meetings" wJ A8 Aw)
  (A2:zG K mainGlobals "_law_book" = some (some (.ref C2))) (Dg:Fun K "_law_book" "_law_book" CF C2 BR)
  (Bv:zG K mainGlobals "_law_far" = some (some (.ref DE))) (DL:Fun K "_law_far" "_law_far" Dt DE Ck)
  (AY:zG K mainGlobals "_law_time" = some (some (.ref CY))) (Db:Fun K "_law_time" "_law_time" CA CY BN)
  (Au:zG K mainGlobals "_law_letter" = some (some (.ref BU))) (BV:Fun K "_law_letter" "_law_letter" BS BU AO)
  (AH:zG K mainGlobals "_law_names" = some (some (.ref Ce))) (Cp:Fun K "_law_names" "_law_names" wR Ce Bg)
  (A1:zG K mainGlobals "_law_rows" = some (some (.ref C1))) (De:Fun K "_law_rows" "_law_rows" CD C1 BQ)
  (AE:zG K mainGlobals "_law_whole" = some (some (.ref Cb))) (Cm:Fun K "_law_whole" "_law_whole" B2 Cb Bd)
  (Aj:zG K mainGlobals "_law_all_whole" = some (some (.ref AL))) (AN:Fun K "_law_all_whole" "_law_all_whole" AK AL At)
  (Ar:zG K mainGlobals "_law_read_so" = some (some (.ref Bp))) (By:Fun K "_law_read_so" "_law_read_so" Bj Bp AC)
  (Ak:zG K mainGlobals "_law_mixed_up" = some (some (.ref A7))) (A9:Fun K "_law_mixed_up" "_law_mixed_up" A4 A7 Av)
  (ED:zG K mainGlobals "law" = some (some (.ref Fo))) (Fh:Fun K "law" "law" Fk Fo Fg)
  (z_all:zG K mainGlobals "all" = some none)
  (z_bool:zG K mainGlobals "bool" = some none)
  (z_int:zG K mainGlobals "int" = some none)
  (z_isinstance:zG K mainGlobals "isinstance" = some none)
  (z_len:zG K mainGlobals "len" = some none)
  (z_list:zG K mainGlobals "list" = some none)
  (z_max:zG K mainGlobals "max" = some none)
  (z_min:zG K mainGlobals "min" = some none)
  (z_range:zG K mainGlobals "range" = some none)
  (z_set:zG K mainGlobals "set" = some none)
  (z_sorted:zG K mainGlobals "sorted" = some none)
  (z_str:zG K mainGlobals "str" = some none)
  (z_tuple:zG K mainGlobals "tuple" = some none)
  (z_zip:zG K mainGlobals "zip" = some none)
  (g_LAST_TIME:zG K mainGlobals "LAST_TIME" = some (some (.int 1000000000 t_LAST_TIME)))
  (g_MOST_WALKERS:zG K mainGlobals "MOST_WALKERS" = some (some (.int 12 t_MOST_WALKERS)))
  (g_MOST_ROOM:zG K mainGlobals "MOST_ROOM" = some (some (.int 99 t_MOST_ROOM)))
  (g_MOST_MEETINGS:zG K mainGlobals "MOST_MEETINGS" = some (some (.int 60 t_MOST_MEETINGS)))
  (g_MOST_MANY:zG K mainGlobals "MOST_MANY" = some (some (.int 99 t_MOST_MANY)))
  (g_LONGEST_NAME:zG K mainGlobals "LONGEST_NAME" = some (some (.int 8 t_LONGEST_NAME)))
  (g_MOST_FIGURES:zG K mainGlobals "MOST_FIGURES" = some (some (.int 18 t_MOST_FIGURES)))
  (g_MOST_LETTERS:zG K mainGlobals "MOST_LETTERS" = some (some (.int 40 t_MOST_LETTERS)))
  (e_FORMS:zG K mainGlobals "FORMS" = some (some (.ref c_FORMS)))
  (Et:zG K mainGlobals "NoBook" = some (some (.ref D2)))
  (e_SORTS:zG K mainGlobals "SORTS" = some (some (.ref c_SORTS)))
  (ff_fS:tupsB K c_SORTS [sW,sM,sL]=true)
  (ff_fC:cstB K "dict" c_FORMS=true)
  (ff_fW:formB K c_FORMS sW [sN,sR]=true)
  (ff_fM:formB K c_FORMS sM [sN,sN,sR,sR]=true)
  (ff_fL:formB K c_FORMS sL [sN,sR,sN,sR]=true)
  (h_cd:Ay.code=.ref tC) (h_hd:PySem.W.codeHdIn K tC tP=true) :
  ∃ fd:FuncData,(∃ c,PySem.W.codeHdIn K c tP=true)/\(∀ (s:Shared) (v:Value),BindsTo s fd ⟨[v],[]⟩ [("_law_script", v)])/\∀ base:Heap,K.In base->base.Ns mainGlobals mg->BmAt mg base->FnOk l.prog w K mg base CX0 7 fa fd ["_law_script"] (spLawT K tP lamPos):=by
 have e:=hfa.symm.trans (yJ X G ED)
 cases e
 have T:Tx K mg ⟨Dz,Cf,D8,Dk,CP,BH,DC,Ci,DA,Cg,DD,Cj,CT,BJ,CW,BM,Ca,Bc,An,Af,Bo,AB,CS,Ay,CQ,BI,CO,BG,D7,Dj,CU,BK,CV,BL,Bn,AA,DB,Ch,Cd,Bf,CZ,BO,Cc,Be,C0,BP,A8,Aw,C2,BR,DE,Ck,CY,BN,BU,AO,Ce,Bg,C1,BQ,Cb,Bd,AL,At,Bp,AC,A7,Av,fa,Fg,tC,tP,c_FORMS,D2,c_SORTS⟩ t_LAST_TIME t_MOST_WALKERS t_MOST_ROOM t_MOST_MEETINGS t_MOST_MANY t_LONGEST_NAME t_MOST_FIGURES t_MOST_LETTERS:=⟨.of X G Bq DG,.of X G BZ Ea,.of X G AR C4,.of X G Bt DJ,.of X G Br DH,.of X G Bu DK,.of X G AU C7,.of X G AX Da,.of X G AD Cl,.of X G Ac Ao,.of X G Aq Bx,.of X G AT C6,.of X G AS C5,.of X G AQ C3,.of X G BY D9,.of X G AV C8,.of X G AW C9,.of X G Ap Bw,.of X G Bs DI,.of X G AG Co,.of X G AZ Dc,.of X G AF Cn,.of X G A0 Dd,.of X G Al Ba,.of X G A2 Dg,.of X G Bv DL,.of X G AY Db,.of X G Au BV,.of X G AH Cp,.of X G A1 De,.of X G AE Cm,.of X G Aj AN,.of X G Ar By,.of X G Ak A9,.of X G ED Fh,zo X G z_all,zo X G z_bool,zo X G z_int,zo X G z_isinstance,zo X G z_len,zo X G z_list,zo X G z_max,zo X G z_min,zo X G z_range,zo X G z_set,zo X G z_sorted,zo X G z_str,zo X G z_tuple,zo X G z_zip,h_hd,h_cd,yJ X G e_FORMS,yJ X G Et,yJ X G e_SORTS,ff_fS,ff_fC,ff_fW,ff_fM,ff_fL,yJ X G g_LAST_TIME,yJ X G g_MOST_WALKERS,yJ X G g_MOST_ROOM,yJ X G g_MOST_MEETINGS,yJ X G g_MOST_MANY,yJ X G g_LONGEST_NAME,yJ X G g_MOST_FIGURES,yJ X G g_MOST_LETTERS⟩
 obtain ⟨_,_,_,_,_,_,_,_,_,rfl,_,_⟩:=Fh.ex
 exact ⟨_,⟨tC,h_hd⟩,λs v=>.of_eq rfl,λbase _ _ B=>Fp _ _ base T B⟩
theorem walk {l:PySem.W.OpenLaw}{q:Program}{loose:List Str}{XP:(Str->Option Value)->Heap->Prop}{YP:World->Heap->Prop}{d:DefRec}{K:Params->PySem.W.Frag}{T:Addr} (hn:l.most=some 63) (hdf:d.params.defaults=[])
  (hY:∀ (w:World) (h:Heap),YP w h->(K w.params).In h/\h.get? T=some (PySem.W.tabObj #[])) (nt:∀ w:World,PySem.W.noTabs (K w.params)=true)
  (F:∀ (w:World) (mg:Str->Option Value) (fa:Addr) (h:Heap),(K w.params).In h->h.Ns mainGlobals mg->mg d.name=some (.ref fa) ->
   ∃ fd:FuncData,(∃ c,PySem.W.codeHdIn (K w.params) c T=true)/\(∀ (s:Shared) (u:Value),BindsTo s fd ⟨[u],[]⟩ [("_law_script", u)])/\∀ base:Heap,(K w.params).In base->base.Ns mainGlobals mg->BmAt mg base->FnOk l.prog w (K w.params) mg base CX0 7 fa fd ["_law_script"] (spLawT (K w.params) T lamPos)) :
  PySem.W.WalkO q loose XP YP l.row.toRowW d [] (λf vs=>PySem.call f vs):=
 L2.walk_ofT (n:=63) (k:=7) (x := "_law_script") (CX:=λ_=>CX0) (sp:=λw=>spLawT (K w.params) T lamPos) hn (by decide) hdf ⟨rfl,by decide,by decide,rfl⟩ hY nt F (λ_ _ a ns hl hT hS=>⟨a,ns,rfl,hS,hl,.inl hT,λ_=>rfl⟩) λ_ _ _ _ _ z=>z
end Sm
namespace PySem.W.Fast
def tw2204647145119692217:Nat:=0
def tw2273845732032495779:Nat:=0
def tw10667889623096788084:Nat:=0
def tw17864884193653104403:Nat:=0
def tw5886038391615485800:Nat:=0
def tw6753763378181000118:Nat:=0
def tw4505782344294899189:Nat:=0
def tw15473216708351015361:Nat:=0
def tw10489938909386247203:Nat:=0
def tw7292255524065978832:Nat:=0
def tw10694152863061576326:Nat:=0
def tw4432983270796662151:Nat:=0
def tw13487346790598277456:Nat:=0
def tw18347634357641547874:Nat:=0
def tw9998074632084956676:Nat:=0
def tw4921238264526791599:Nat:=0
def tw5003571244019380690:Nat:=0
def tw1021354171872155751:Nat:=0
def tw11087547411062521319:Nat:=0
def tw12914498022352331227:Nat:=0
def tw1070179265705599774:Nat:=0
def tw5467078347170329826:Nat:=0
def tw3049362218700401118:Nat:=0
def tw1560046980562266829:Nat:=0
def tw12839255430381307726:Nat:=0
def tw17565846834213704757:Nat:=0
def tw3026429443158159533:Nat:=0
def tw16451069797723696236:Nat:=0
def tw16011699297113127592:Nat:=0
def tw15901607729406442668:Nat:=0
def tw6744660956398135703:Nat:=0
def tw7470904667804409775:Nat:=0
def tw11753856511863114095:Nat:=0
def tw7493549596156166890:Nat:=0
def tw15681630778648467077:Nat:=0
def tw9120895919025042154:Nat:=0
def tw14508016974768151162:Nat:=0
def tw6941578883450713655:Nat:=0
def tw776203778785748264:Nat:=0
def tw5627641263001949910:Nat:=0
def tw16182999126029610962:Nat:=0
def tw11278608282086660045:Nat:=0
def tw330089218858200368:Nat:=0
def tw12675689972283034925:Nat:=0
def tw15163657591568104720:Nat:=0
def tw15599206708372582775:Nat:=0
def tw11935269363944724368:Nat:=0
def tw3652033633262493148:Nat:=0
def tw16976213139600994352:Nat:=0
def tw6110603143704447963:Nat:=0
def tw10674265256381532525:Nat:=0
def tw612273250865139853:Nat:=0
def tw1508004930015352000:Nat:=0
def tw13612759964914510192:Nat:=0
def tw5681658011481104618:Nat:=0
def tw16872919900143415151:Nat:=0
def tw1332110884014267371:Nat:=0
def tw8899253355232085628:Nat:=0
def tw4005478140337775038:Nat:=0
def tw3863936096158716972:Nat:=0
def tw3215612456433013616:Nat:=0
def tw618646049067258406:Nat:=0
def tw13535332435366541147:Nat:=0
def tw3577458013203807652:Nat:=0
def tw6297572811495995185:Nat:=0
def tw3294344732861999241:Nat:=0
def tw7844930939212852881:Nat:=0
def tw4511623967164301840:Nat:=0
def tw13319914376084584974:Nat:=0
def tw9582547696886503274:Nat:=0
def tw15263599246857408780:Nat:=0
def tw16415729099929048987:Nat:=0
def tw7176561706251877061:Nat:=0
def tw10912454588047937982:Nat:=0
def tw3697006274681275541:Nat:=0
def tw10342602097182839162:Nat:=0
def tw14534169151310181572:Nat:=0
def tw1218500440850493661:Nat:=0
def tw10847300043755806489:Nat:=0
def tw17981189239109223330:Nat:=0
def tw1244037228450367947:Nat:=0
def tw132089121781284462:Nat:=0
def tw6772411260189286960:Nat:=0
def tw15375691894735016347:Nat:=0
def tw5037018574134874159:Nat:=0
def tw2481580464970177578:Nat:=0
def tw11297049223343068741:Nat:=0
def tw11621885703518564048:Nat:=0
def tw11823488363021370065:Nat:=0
def tw10416626387395042045:Nat:=0
def tw11880721363101122935:Nat:=0
def tw6789240790163430069:Nat:=0
def tw13558796860302616936:Nat:=0
def tw15256309050576068307:Nat:=0
def tw8816218835712672610:Nat:=0
def tw6329703267242171264:Nat:=0
def tw10558560511282521293:Nat:=0
def tw5717353075370863589:Nat:=0
def tw6954167653475789452:Nat:=0
def tw9324291382731298564:Nat:=0
def tw6891711049310968717:Nat:=0
def tw2511456865445720638:Nat:=0
def tw300283728601611163:Nat:=0
def tw7541734819249341775:Nat:=0
def tw6078751959725723512:Nat:=0
def tw10533666468684278830:Nat:=0
def tw17057642007925716007:Nat:=0
def tw12446901789317016097:Nat:=0
def tw4054350806275544537:Nat:=0
def tw11815554254918262074:Nat:=0
def tw18320092855786210793:Nat:=0
def tw880546646806072158:Nat:=0
def tw2336993780402152148:Nat:=0
def tw8499122149869018602:Nat:=0
def tw11408763505181438095:Nat:=0
def tw17394693050055568473:Nat:=0
def tw9579705564670698409:Nat:=0
def tw10941928265571176458:Nat:=0
def tw3187480237437226857:Nat:=0
def tw5607918485968702492:Nat:=0
def tw5593575244017979692:Nat:=0
def tw129749254582966893:Nat:=0
def tw5557935198229964275:Nat:=0
def tw1362612348174493943:Nat:=0
def tw7368478301362489053:Nat:=0
def tw6995829569590399057:Nat:=0
def tw5917330119394873870:Nat:=0
def tw4205299478073854620:Nat:=0
def tw8929172164476249855:Nat:=0
def tw15841887660933075163:Nat:=0
def tw1038929533381438827:Nat:=0
def tw15722370982262162074:Nat:=0
def tw4903679491706758854:Nat:=0
def tw10917037721981379132:Nat:=0
def tw4752823617943316176:Nat:=0
end PySem.W.Fast
open PySem PySem.W PyProof.Rows
set_option maxRecDepth 100000 in
set_option maxHeartbeats 0 in
theorem PySem.Challenge.cw_satchelmeet_k87_rows_read_holds : PySem.Challenge.rw_satchelmeet_k87_rows_read.Holds := by
 w_on;o_law;k_head;(case hw=>w_witness2)
 k_fill
 refine Sm.walk (l:=PySem.Challenge.rw_satchelmeet_k87_rows_read) rfl rfl (λw h Y=>⟨PySem.W.km_in_of Y,PySem.W.km_tabs_of Y _ (List.Mem.head _)⟩) (λw=>by kernel_rfl) ?F
 case F=>
  intro w mg fa h KX G hmg
  refine' Sm.all_mk KX G hmg ?Bq ?DG ?BZ ?Ea ?AR ?C4 ?Bt ?DJ ?Br ?DH ?Bu ?DK ?AU ?C7 ?AX ?Da ?AD ?Cl ?Ac ?Ao ?Aq ?Bx ?AT ?C6 ?AS ?C5 ?AQ ?C3 ?BY ?D9 ?AV ?C8 ?AW ?C9 ?Ap ?Bw ?Bs ?DI ?AG ?Co ?AZ ?Dc ?AF ?Cn ?A0 ?Dd ?Al ?Ba ?A2 ?Dg ?Bv ?DL ?AY ?Db ?Au ?BV ?AH ?Cp ?A1 ?De ?AE ?Cm ?Aj ?AN ?Ar ?By ?Ak ?A9 ?ED ?Fh ?z_all ?z_bool ?z_int ?z_isinstance ?z_len ?z_list ?z_max ?z_min ?z_range ?z_set ?z_sorted ?z_str ?z_tuple ?z_zip ?g_LAST_TIME ?g_MOST_WALKERS ?g_MOST_ROOM ?g_MOST_MEETINGS ?g_MOST_MANY ?g_LONGEST_NAME ?g_MOST_FIGURES ?g_MOST_LETTERS ?e_FORMS ?Et ?e_SORTS ?ff_fS ?ff_fC ?ff_fW ?ff_fM ?ff_fL ?h_cd ?h_hd
  (case e_FORMS=>k_is)
  (case Et=>k_is)
  (case e_SORTS=>k_is)
  (case Bq=>k_is)
  (case DG=>refine' L2.fun_mk ?x1 ?y1 ?z1;(case x1=>k_is);(case y1=>k_is);(case z1=>k_is))
  (case BZ=>k_is)
  (case Ea=>refine' L2.fun_mk ?x3 ?y3 ?z3;(case x3=>k_is);(case y3=>k_is);(case z3=>k_is))
  (case AR=>k_is)
  (case C4=>refine' L2.fun_mk ?x5 ?y5 ?z5;(case x5=>k_is);(case y5=>k_is);(case z5=>k_is))
  (case Bt=>k_is)
  (case DJ=>refine' L2.fun_mk ?x7 ?y7 ?z7;(case x7=>k_is);(case y7=>k_is);(case z7=>k_is))
  (case Br=>k_is)
  (case DH=>refine' L2.fun_mk ?x9 ?y9 ?z9;(case x9=>k_is);(case y9=>k_is);(case z9=>k_is))
  (case Bu=>k_is)
  (case DK=>refine' L2.fun_mk ?x11 ?y11 ?z11;(case x11=>k_is);(case y11=>k_is);(case z11=>k_is))
  (case AU=>k_is)
  (case C7=>refine' L2.fun_mk ?x13 ?y13 ?z13;(case x13=>k_is);(case y13=>k_is);(case z13=>k_is))
  (case AX=>k_is)
  (case Da=>refine' L2.fun_mk ?x15 ?y15 ?z15;(case x15=>k_is);(case y15=>k_is);(case z15=>k_is))
  (case AD=>k_is)
  (case Cl=>refine' L2.fun_mk ?x17 ?y17 ?z17;(case x17=>k_is);(case y17=>k_is);(case z17=>k_is))
  (case Ac=>k_is)
  (case Ao=>refine' L2.fun_mk ?x19 ?y19 ?z19;(case x19=>k_is);(case y19=>k_is);(case z19=>k_is))
  (case Aq=>k_is)
  (case Bx=>refine' L2.fun_mk ?x21 ?y21 ?z21;(case x21=>k_is);(case y21=>k_is);(case z21=>k_is))
  (case AT=>k_is)
  (case C6=>refine' L2.fun_mk ?x23 ?y23 ?z23;(case x23=>k_is);(case y23=>k_is);(case z23=>k_is))
  (case AS=>k_is)
  (case C5=>refine' L2.fun_mk ?x25 ?y25 ?z25;(case x25=>k_is);(case y25=>k_is);(case z25=>k_is))
  (case AQ=>k_is)
  (case C3=>refine' L2.fun_mk ?x27 ?y27 ?z27;(case x27=>k_is);(case y27=>k_is);(case z27=>k_is))
  (case BY=>k_is)
  (case D9=>refine' L2.fun_mk ?x29 ?y29 ?z29;(case x29=>k_is);(case y29=>k_is);(case z29=>k_is))
  (case AV=>k_is)
  (case C8=>refine' L2.fun_mk ?x31 ?y31 ?z31;(case x31=>k_is);(case y31=>k_is);(case z31=>k_is))
  (case AW=>k_is)
  (case C9=>refine' L2.fun_mk ?x33 ?y33 ?z33;(case x33=>k_is);(case y33=>k_is);(case z33=>k_is))
  (case Ap=>k_is)
  (case Bw=>refine' L2.fun_mk ?x35 ?y35 ?z35;(case x35=>k_is);(case y35=>k_is);(case z35=>k_is))
  (case Bs=>k_is)
  (case DI=>refine' L2.fun_mk ?x37 ?y37 ?z37;(case x37=>k_is);(case y37=>k_is);(case z37=>k_is))
  (case AG=>k_is)
  (case Co=>refine' L2.fun_mk ?x39 ?y39 ?z39;(case x39=>k_is);(case y39=>k_is);(case z39=>k_is))
  (case AZ=>k_is)
  (case Dc=>refine' L2.fun_mk ?x41 ?y41 ?z41;(case x41=>k_is);(case y41=>k_is);(case z41=>k_is))
  (case AF=>k_is)
  (case Cn=>refine' L2.fun_mk ?x43 ?y43 ?z43;(case x43=>k_is);(case y43=>k_is);(case z43=>k_is))
  (case A0=>k_is)
  (case Dd=>refine' L2.fun_mk ?x45 ?y45 ?z45;(case x45=>k_is);(case y45=>k_is);(case z45=>k_is))
  (case Al=>k_is)
  (case Ba=>refine' L2.fun_mk ?x47 ?y47 ?z47;(case x47=>k_is);(case y47=>k_is);(case z47=>k_is))
  (case A2=>k_is)
  (case Dg=>refine' L2.fun_mk ?x49 ?y49 ?z49;(case x49=>k_is);(case y49=>k_is);(case z49=>k_is))
  (case Bv=>k_is)
  (case DL=>refine' L2.fun_mk ?x51 ?y51 ?z51;(case x51=>k_is);(case y51=>k_is);(case z51=>k_is))
  (case AY=>k_is)
  (case Db=>refine' L2.fun_mk ?x53 ?y53 ?z53;(case x53=>k_is);(case y53=>k_is);(case z53=>k_is))
  (case Au=>k_is)
  (case BV=>refine' L2.fun_mk ?x55 ?y55 ?z55;(case x55=>k_is);(case y55=>k_is);(case z55=>k_is))
  (case AH=>k_is)
  (case Cp=>refine' L2.fun_mk ?x57 ?y57 ?z57;(case x57=>k_is);(case y57=>k_is);(case z57=>k_is))
  (case A1=>k_is)
  (case De=>refine' L2.fun_mk ?x59 ?y59 ?z59;(case x59=>k_is);(case y59=>k_is);(case z59=>k_is))
  (case AE=>k_is)
  (case Cm=>refine' L2.fun_mk ?x61 ?y61 ?z61;(case x61=>k_is);(case y61=>k_is);(case z61=>k_is))
  (case Aj=>k_is)
  (case AN=>refine' L2.fun_mk ?x63 ?y63 ?z63;(case x63=>k_is);(case y63=>k_is);(case z63=>k_is))
  (case Ar=>k_is)
  (case By=>refine' L2.fun_mk ?x65 ?y65 ?z65;(case x65=>k_is);(case y65=>k_is);(case z65=>k_is))
  (case Ak=>k_is)
  (case A9=>refine' L2.fun_mk ?x67 ?y67 ?z67;(case x67=>k_is);(case y67=>k_is);(case z67=>k_is))
  (case ED=>k_is)
  (case Fh=>refine' L2.fun_mk ?x69 ?y69 ?z69;(case x69=>k_is);(case y69=>k_is);(case z69=>k_is))
  (case z_all=>k_is)
  (case z_bool=>k_is)
  (case z_int=>k_is)
  (case z_isinstance=>k_is)
  (case z_len=>k_is)
  (case z_list=>k_is)
  (case z_max=>k_is)
  (case z_min=>k_is)
  (case z_range=>k_is)
  (case z_set=>k_is)
  (case z_sorted=>k_is)
  (case z_str=>k_is)
  (case z_tuple=>k_is)
  (case z_zip=>k_is)
  (case g_LAST_TIME=>k_is)
  (case g_MOST_WALKERS=>k_is)
  (case g_MOST_ROOM=>k_is)
  (case g_MOST_MEETINGS=>k_is)
  (case g_MOST_MANY=>k_is)
  (case g_LONGEST_NAME=>k_is)
  (case g_MOST_FIGURES=>k_is)
  (case g_MOST_LETTERS=>k_is)
  (case ff_fS=>kernel_rfl)
  (case ff_fC=>kernel_rfl)
  (case ff_fW=>kernel_rfl)
  (case ff_fM=>kernel_rfl)
  (case ff_fL=>kernel_rfl)
  (case h_cd=>rfl)
  (case h_hd=>kernel_rfl)

