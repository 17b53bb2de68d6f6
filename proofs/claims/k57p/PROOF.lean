import PyProof.Rows.All
import Wide.All
import OpenK.AllK
import Wide.FinOn
import Lean
import PyProof.EqAt
import PyProof.EqKinds
import PyProof.TupleCall
import KE.KDictOf
import PyProof.AttrMissHeap
import PyProof.SetRoads
import PyProof.SetNew
import PyProof.TupleKey
import PyProof.InstEq
import PySem.SetOps
import KE.KTryMore
import PyProof.NsDelKeeps
import KE.KIsAll
import KE.KItemsList
import KE.KSortTup
import KE.KDictSum
import KE.KLam
import KE.KNestM
import KE.KSortTup
import PySem.Challenge.RW_satchelmeet_k57_whole_nearer_climbs
open List renaming length_map → zA,getElem?_eq_some_iff → zB,getElem?_map → zC,mem_of_getElem? → zD,getElem?_eq_getElem → zE,mem_singleton → zN,mem_map → zO,size_toArray → zP,map_append → zQ,mem_append_right → zT,mem_cons → zV,length_append → zW,map_map → zX,getElem?_set → zY,getElem?_eq_none → za,mem_append → ze,map_cons → zf,length_cons → zg,getElem_mem → zi,append_nil → zj,length_set → zm,mem_cons_of_mem → zn,map_set → zq,length_range → zv,pairwise_singleton → zw,mem_range → zx,getElem?_append_right → zy,getElem_map → z6,pairwise_iff_getElem → yA,length_replicate → yF,getElem?_set_self → yI,replicate_succ → yK,map_congr_left → yL,mem_cons_self → yN,getElem?_replicate → yO,ext_getElem? → yP,nodup_cons → yQ,find?_cons → yR,getElem?_range → yS,length_take → yV,lookup_cons → yW,take_length → yX,length_nil → yc,mem_append_left → yd,getElem?_set_ne → ye,pairwise_append → yh,getElem?_of_mem → yi,all_eq_true → yj,lookup → yl,mem_filterMap → yn,any_cons → yu,flatten_cons → yx,map_nil → xC,mem_filter → xD
open PySem.W renaming keepIn → zF,nsIn → zI,mg_of → zJ,findIn → zL,isFn → zb,kitOne → zc,mg_none_of → zd,kia_one → zl,plainGet → z4,hasDictIn → yC,emptyDict → yD,kitAny → yG,instObj → yM,plainOver → yf,exmAny → yk,callWith_K → yo,makesIn → yq,mroIn → yt,specialIn → yw,takesIn → xE,fnOf → xF
open Bool renaming false_ne_true → zG,and_eq_true → zh,false_and → yJ,true_and → yU,eq_iff_iff → yp
open Int renaming toNat_natCast → zH,eq_ofNat_of_zero_le → zM,le_refl → zo,emod_lt_of_pos → yY,emod_nonneg → yr
open Nat renaming le_refl → zK,ne_of_lt → zS,lt_of_lt_of_le → zU,zero_le → zZ,le_trans → zk,lt_irrefl → zu,le_succ → yT,lt_succ_of_lt → yg,le_of_lt → yz,ne_of_gt → xA,lt_succ_self → xB
open PyProof.Rows renaming boot_isinstance → zR,boot_list → z8,boot_tuple → yH,boot_int → yZ
open Option renaming isSome_iff_exists → zp,isSome_map → yE,map_some → yb
open PySem renaming mem_of_lookup → yB
set_option Elab.async false
set_option linter.all false
set_option maxRecDepth 100000
set_option maxHeartbeats 4000000
namespace L2
open PySem PySem.Spec PyProof.Rows
abbrev Key:=Sum Int Str
def keyIs:Key->Value->Bool
 | .inl k,v=>Value.isInt k v
 | .inr x,v=>Value.isStrOf x v
def keyH (w:World):Key->Int
 | .inl k=>hashInt k
 | .inr x=>hashStr w x
theorem xu:∀ {k:Key}{v:Value},keyIs k v=true->(∃ i t,k=Sum.inl i/\v=Value.int i t)\/(∃ x t,k=Sum.inr x/\v=Value.str x t)
 | .inl i,v,h=>by
  obtain ⟨t,e⟩:=Value.isInt_shape (k:=i) (v:=v) h
  exact .inl ⟨i,t,rfl,e⟩
 | .inr x,v,h=>by
  obtain ⟨t,e⟩:=Value.isStrOf_shape (x:=x) (v:=v) h
  exact .inr ⟨x,t,rfl,e⟩
theorem keyIs_int (i:Int) (t:Tok):keyIs (.inl i) (.int i t)=true:=by simp [keyIs,Value.isInt]
theorem keyIs_str (x:Str) (t:Tok):keyIs (.inr x) (.str x t)=true:=by simp [keyIs,Value.isStrOf]
theorem key_ll (a b:Int):decide ((Sum.inl a:Key)=Sum.inl b)=(a == b):=by
 by_cases e:a=b
 ·subst e;simp
 ·have h:¬ (Sum.inl a:Key)=Sum.inl b:=λq=>e (Sum.inl.inj q)
  rw [decide_eq_false h]
  exact (beq_eq_false_iff_ne.mpr e).symm
theorem key_rr (a b:Str):decide ((Sum.inr a:Key)=Sum.inr b)=decide (a=b):=by
 by_cases e:a=b
 ·subst e;simp
 ·have h:¬ (Sum.inr a:Key)=Sum.inr b:=λq=>e (Sum.inr.inj q)
  rw [decide_eq_false h,decide_eq_false e]
theorem key_lr (a:Int) (b:Str):decide ((Sum.inl a:Key)=Sum.inr b)=false:=decide_eq_false (λq=>nomatch q)
theorem key_rl (a:Str) (b:Int):decide ((Sum.inr a:Key)=Sum.inl b)=false:=decide_eq_false (λq=>nomatch q)
def mixKind (prog:Program) (w:World):PySem.KeyKind prog w Key where
 is:=keyIs
 hash:=keyH w
 inj:=λv a b ha hb=>by
  rcases xu ha with ⟨i,t,rfl,rfl⟩ | ⟨x,t,rfl,rfl⟩
  ·rcases xu hb with ⟨j,u,rfl,e⟩ | ⟨y,u,rfl,e⟩
   ·injection e with e1 _;rw [e1]
   ·exact nomatch e
  ·rcases xu hb with ⟨j,u,rfl,e⟩ | ⟨y,u,rfl,e⟩
   ·exact nomatch e
   ·injection e with e1 _;rw [e1]
 byValue:=λk v h=>by
  rcases xu h with ⟨i,t,rfl,rfl⟩ | ⟨x,t,rfl,rfl⟩ <;> rfl
 pyHash:=λhv h=>by
  rcases xu hv with ⟨i,t,rfl,rfl⟩ | ⟨x,t,rfl,rfl⟩
  ·exact wpAny_pyHash_int h
  ·exact wpAny_pyHash_str h
 eqBool:=λhu hv h=>by
  rcases xu hu with ⟨i,t,rfl,rfl⟩ | ⟨x,t,rfl,rfl⟩
  ·rcases xu hv with ⟨j,u,rfl,rfl⟩ | ⟨y,u,rfl,rfl⟩
   ·rw [key_ll] at h;exact wpAny_eqBool_int h
   ·rw [key_lr] at h;exact SeqAt.EqAt.int_str i t y u _ _ _ _ h
  ·rcases xu hv with ⟨j,u,rfl,rfl⟩ | ⟨y,u,rfl,rfl⟩
   ·rw [key_rl] at h;exact SeqAt.EqAt.str_int x t j u _ _ _ _ h
   ·rw [key_rr] at h;exact wpAny_eqBool_str h
 «strs»:=λk x t v h=>by
  rcases xu h with ⟨i,u,rfl,e⟩ | ⟨y,u,rfl,e⟩
  ·exact nomatch e
  ·injection e with e1 _
   subst e1
   cases v <;> rfl
theorem mixKind_int (prog:Program) (w:World) (i:Int) (t:Tok):(mixKind prog w).is (.inl i) (.int i t)=true:=keyIs_int i t
theorem mixKind_str (prog:Program) (w:World) (x:Str) (t:Tok):(mixKind prog w).is (.inr x) (.str x t)=true:=keyIs_str x t
end L2
namespace L2
open PySem PySem.Spec PyProof.Rows
inductive V where
 | non | bl (b:Bool) | int (i:Int) | str (x:Str) | byt (b:Array UInt8) | flt (b:UInt64) | ref (a:Addr) | ty (n:String)
 deriving DecidableEq
def RelV:V->Value->Prop
 | .non,u=>u=Value.none
 | .bl b,u=>u=Value.bool b
 | .int i,u=>∃ t,u=Value.int i t
 | .str x,u=>∃ t,u=Value.str x t
 | .byt b,u=>∃ t,u=Value.bytes b t
 | .flt b,u=>∃ t,u=Value.float b t
 | .ref a,u=>u=Value.ref a
 | .ty n,u=>u=Value.type n
abbrev Vals:List V->List Value->Prop:=Paired RelV
theorem Vals.length {xs:List V}{us:List Value} (r:Vals xs us):xs.length=us.length:=Paired.length r
theorem Vals.get:∀ {xs:List V}{us:List Value}{i:Nat}{x:V},Vals xs us->xs[i]?=some x->∃ u,us[i]?=some u/\RelV x u
 | _,_,_,_,.nil,e=>by simp at e
 | _,_,0,_,.cons r _,e=>by simp at e;subst e;exact ⟨_,rfl,r⟩
 | _,_,i + 1,x,.cons _ t,e=>by
  obtain ⟨u,h1,h2⟩:=Vals.get (i:=i) (x:=x) t (by simpa using e)
  exact ⟨u,by simpa using h1,h2⟩
theorem Vals.set {x:V}{u:Value} (r:RelV x u):∀ {xs:List V}{us:List Value} (i:Nat),Vals xs us->Vals (xs.set i x) (us.set i u)
 | _,_,_,.nil=>.nil
 | _,_,0,.cons _ t=>.cons r t
 | _,_,i + 1,.cons q t=>.cons q (Vals.set r i t)
theorem Vals.append:∀ {xs ys:List V}{us ws:List Value},Vals xs us->Vals ys ws->Vals (xs++ys) (us++ws)
 | _,_,_,_,.nil,s=>s
 | _,_,_,_,.cons r t,s=>.cons r (Vals.append t s)
theorem Vals.take:∀ {xs:List V}{us:List Value} (n:Nat),Vals xs us->Vals (xs.take n) (us.take n)
 | _,_,0,_=>.nil
 | _,_,_ + 1,.nil=>.nil
 | _,_,n + 1,.cons r t=>.cons r (Vals.take n t)
theorem Vals.drop:∀ {xs:List V}{us:List Value} (n:Nat),Vals xs us->Vals (xs.drop n) (us.drop n)
 | _,_,0,r=>r
 | _,_,_ + 1,.nil=>.nil
 | _,_,n + 1,.cons _ t=>Vals.drop n t
def RelO:Option V->Option Value->Prop
 | some v,some u=>RelV v u
 | none,none=>True
 | _,_=>False
def KV {κ:Type}:List (κ×V)->List (κ×Value)->Prop:=Paired λ(p:κ×V) (q:κ×Value)=>p.1=q.1/\RelV p.2 q.2
def kV:Key->V
 | .inl i=>.int i
 | .inr x=>.str x
inductive HO where
  | lst (xs:List V)
  | tup (xs:List V)
  | dK (kvs:List (Key×V)) | dT (kvs:List (List Key×V))
  | set (S:Int->Bool) (n:Nat)
  | ins (C dx:Addr) (fs:List (Str×V))
  | own (x:Addr)
  | xd (fs:List (Str×V))
  | met (f x:Addr)
  | rng (lo hi:Int)
  | frz (o:Obj) (u:HO)
  | tbl (ps:Array Value)
  | ext (φ:Heap->Prop)
abbrev Hp:=Addr->Option HO
def upd (H:Hp) (a:Addr) (o:HO):Hp:=λb=>if b=a then some o else H b
theorem xJ {H:Hp}{a:Addr}{o:HO}:upd H a o a=some o:=by unfold upd;rw [if_pos rfl]
theorem xO {H:Hp}{a b:Addr}{o:HO} (h:b≠a):upd H a o b=H b:=by unfold upd;rw [if_neg h]
theorem upd_upd {H:Hp}{a:Addr}{o u:HO}:upd (upd H a o) a u=upd H a u:=by
 funext b;unfold upd;split <;> rfl
theorem wP {H:Hp}{a b:Addr}{o u:HO} (h:H a=some o) (h':H b=some u) (d:o≠u):a≠b:=by
 intro e;subst e;rw [h] at h';exact d (Option.some.inj h')
theorem xK {H:Hp}{a b:Addr}{o:HO} (h:H a=some o) (h':H b=none):a≠b:=by
 intro e;subst e;rw [h] at h';cases h'
section
variable (P:Program) (w:World)
def ObjOk (H:Hp) (h:Heap) (a:Addr):HO->Prop
 | .lst xs=>xs.length<=sizeLine/\∃ (its:List Value) (n:Nat),Vals xs its/\h.get? a=some { cls:=.type "list", data:=.seq its.toArray n }
 | .tup xs=>xs.length<=sizeLine/\∃ its:List Value,Vals xs its/\IsTup h a its.toArray
 | .dK kvs=>kvs.length<=sizeLine/\(a == sysModules)=false/\∃ vs,KV kvs vs/\h.DictOf (mixKind P w) a vs
 | .dT kvs=>kvs.length<=sizeLine/\(a == sysModules)=false/\∃ xs:List (List Key×Addr×Value),
   Paired (λ(p:List Key×V) (q:List Key×Addr×Value)=>p.1=q.1/\H q.2.1=some (.tup (p.1.map kV))/\RelV p.2 q.2.2) kvs xs /\
   ∃ o es ep,h.get? a=some o/\o.ExactDict/\o.data=.dict es ep/\es.toList=xs.map (entryOfKey (tupleKind (mixKind P w)))/\(xs.map (·.1)).Nodup
 | .set S n=>h.SetOf (intKind P w) a S n
 | .ins C dx fs=>H dx=some (.own a)/\fs.length<=1000/\dx≠a/\h.get? a=some (yM C dx) /\
   ∃ mA,h.Ns1 dx mA/\(∀ f,RelO (fs.lookup f) (mA f))/\PySem.Within mA (fs.map (·.1))
 | .own _=>∃ o,h.get? a=some o
 | .xd fs=>∃ mA,h.Ns1 a mA/\∀ f,RelO (fs.lookup f) (mA f)
 | .rng lo hi=>∃ t u v,h.get? a=some { cls:=.type "range", data:=.fields #[.int lo t,.int hi u,.int 1 v] }
 | .frz o u=>h.get? a=some o/\ObjOk H h a u
 | .tbl ps=>h.get? a=some { cls:=.none,data:=.fields ps }
 | .met f x=>h.get? a=some (PySem.W.methodObj (.ref f) (.ref x))
 | .ext φ=>φ h/\(∃ o,h.get? a=some o)/\∀ h1 h2:Heap,φ h1->(∀ o,h1.get? a=some o->h2.get? a=some o)->φ h2
def HOk (H:Hp) (h:Heap):Prop:=∀ a o,H a=some o->ObjOk P w H h a o
end
section
variable {P:Program}{w:World}{H H':Hp}{h h':Heap}{a:Addr}{o:HO}
theorem ObjOk.lt (x:ObjOk P w H h a o):a < h.objs.size:=by
 cases o with
 | lst xs=>obtain ⟨_,_,_,_,e⟩:=x;exact Heap.lt_size e
 | tup xs=>obtain ⟨_,_,_,p⟩:=x;exact p.lt
 | dK kvs=>obtain ⟨_,_,_,_,o,_,_,e,_⟩:=x;exact Heap.lt_size e
 | dT kvs=>obtain ⟨_,_,_,_,o,_,_,e,_⟩:=x;exact Heap.lt_size e
 | set S n=>obtain ⟨o,_,_,_,e,_⟩:=x;exact Heap.lt_size e
 | ins C dx fs=>obtain ⟨_,_,_,e,_⟩:=x;exact Heap.lt_size e
 | own y=>obtain ⟨_,e⟩:=x;exact Heap.lt_size e
 | xd fs=>obtain ⟨_,⟨_,_,_,e,_⟩,_⟩:=x;exact Heap.lt_size e
 | rng lo hi=>obtain ⟨_,_,_,e⟩:=x;exact Heap.lt_size e
 | frz ob u=>obtain ⟨e,_⟩:=x;exact Heap.lt_size e
 | tbl ps=>exact Heap.lt_size (show h.get? a=some _ from x)
 | met f y=>exact Heap.lt_size (show h.get? a=some _ from x)
 | ext φ=>obtain ⟨_,⟨_,e⟩,_⟩:=x;exact Heap.lt_size e
theorem Paired.mapP {α β:Type}{F G:α->β->Prop}:∀ {l₁:List α}{l₂:List β},Paired F l₁ l₂->(∀ a b,F a b->G a b)->Paired G l₁ l₂
 | _,_,.nil,_=>.nil
 | _,_,.cons r t,f=>.cons (f _ _ r) (Paired.mapP t f)
theorem ObjOk.stay (x:ObjOk P w H h a o) (k:∀ b u,(b=a\/H b=some (.own a))->h.get? b=some u->h'.get? b=some u)
  (ho:∀ b,H b=some (.own a)->H' b=some (.own a)) (ht:∀ b xs,H b=some (.tup xs)->H' b=some (.tup xs)):ObjOk P w H' h' a o:=by
 induction o with
 | lst xs=>obtain ⟨z,its,n,r,e⟩:=x;exact ⟨z,its,n,r,k _ _ (.inl rfl) e⟩
 | tup xs=>obtain ⟨z,its,r,ob,e,c⟩:=x;exact ⟨z,its,r,ob,k _ _ (.inl rfl) e,c⟩
 | dK kvs=>obtain ⟨z,y,vs,r,ob,es,ep,e,c⟩:=x;exact ⟨z,y,vs,r,ob,es,ep,k _ _ (.inl rfl) e,c⟩
 | dT kvs=>
  obtain ⟨z,y,xs,r,ob,es,ep,e,c⟩:=x
  exact ⟨z,y,xs,Paired.mapP r λp q z=>⟨z.1,ht _ _ z.2.1,z.2.2⟩,ob,es,ep,k _ _ (.inl rfl) e,c⟩
 | set S n=>obtain ⟨ob,es,ep,t,e,c⟩:=x;exact ⟨ob,es,ep,t,k _ _ (.inl rfl) e,c⟩
 | ins C dx fs=>
  obtain ⟨d,z,ne,e,mA,⟨od,es,ep,e2,c⟩,r⟩:=x
  exact ⟨ho _ d,z,ne,k _ _ (.inl rfl) e,mA,⟨od,es,ep,k _ _ (.inr d) e2,c⟩,r⟩
 | own y=>obtain ⟨ob,e⟩:=x;exact ⟨ob,k _ _ (.inl rfl) e⟩
 | xd fs=>obtain ⟨mA,⟨od,es,ep,e,c⟩,r⟩:=x;exact ⟨mA,⟨od,es,ep,k _ _ (.inl rfl) e,c⟩,r⟩
 | rng lo hi=>obtain ⟨t,u,v,e⟩:=x;exact ⟨t,u,v,k _ _ (.inl rfl) e⟩
 | frz ob u ih=>obtain ⟨e,q⟩:=x;exact ⟨k _ _ (.inl rfl) e,ih q⟩
 | tbl ps=>
  have e:h.get? a=some { cls:=.none,data:=.fields ps }:=x
  show h'.get? a=some { cls:=.none,data:=.fields ps }
  exact k a _ (.inl rfl) e
 | met f y=>
  have e:h.get? a=some (PySem.W.methodObj (.ref f) (.ref y)):=x
  show h'.get? a=some (PySem.W.methodObj (.ref f) (.ref y))
  exact k a _ (.inl rfl) e
 | ext φ=>obtain ⟨p,⟨o,e⟩,st⟩:=x;exact ⟨st _ _ p λo q=>k _ _ (.inl rfl) q,⟨o,k _ _ (.inl rfl) e⟩,st⟩
theorem HOk.lt (x:HOk P w H h) (e:H a=some o):a < h.objs.size:=(x a o e).lt
theorem HOk.fresh (x:HOk P w H h) (e:h.objs.size<=a):H a=none:=by
 cases q:H a with
 | none=>rfl
 | some u=>exact absurd (zU (x.lt q) e) (zu _)
theorem HOk.kept (x:HOk P w H h) (k:∀ b u,h.get? b=some u->h'.get? b=some u):HOk P w H h':=λa o e=>
 (x a o e).stay (λb u _ q=>k b u q) (λ_ q=>q) λ_ _ q=>q
theorem HOk.laid (x:HOk P w H h) (k:∀ b u,h.get? b=some u->h'.get? b=some u) (hp:h.objs.size<=a) (new:ObjOk P w (upd H a o) h' a o):HOk P w (upd H a o) h':=λb u e=>by
 have hn:=x.fresh hp
 by_cases hb:b=a
 ·subst hb;rw [xJ] at e;cases e;exact new
 ·rw [xO hb] at e
  exact (x b u e).stay (λc v _ q=>k c v q) (λc q=>by rw [xO (xK q hn)];exact q) λc xs q=>by rw [xO (xK q hn)];exact q
end
def Rd (H:Hp) (a:Addr) (u:HO):Prop:=H a=some u\/∃ o,H a=some (.frz o u)
theorem Rd.ok {P:Program}{w:World}{H:Hp}{h:Heap}{a:Addr}{u:HO} (r:Rd H a u) (x:HOk P w H h):ObjOk P w H h a u:=by
 rcases r with r | ⟨o,r⟩
 ·exact x a u r
 ·obtain ⟨_,q⟩:=x a _ r
  exact q
def Mut:Option HO->Prop
 | some (.lst _)=>True
 | some (.dK _)=>True
 | some (.dT _)=>True
 | some (.set _ _)=>True
 | some (.ins _ _ _)=>True
 | some (.ext _)=>True
 | _=>False
section
variable {P:Program}{w:World}{H:Hp}{h h':Heap}{x e:Addr}{o':HO}
theorem HOk.write (ok:HOk P w H h) (mu:Mut (H x)) (he:e=x\/H e=some (.own x)) (k:∀ b u,b≠e->h.get? b=some u->h'.get? b=some u) (heo:∃ u,h'.get? e=some u)
  (new:ObjOk P w (upd H x o') h' x o'):HOk P w (upd H x o') h':=λb u q=>by
 have nown:∀ c y,H c=some (.own y)->c≠x:=λc y r z=>by subst z;rw [r] at mu;exact mu
 have ntup:∀ c xs,H c=some (.tup xs)->c≠x:=λc xs r z=>by subst z;rw [r] at mu;exact mu
 by_cases hb:b=x
 ·subst hb;rw [xJ] at q;cases q;exact new
 ·rw [xO hb] at q
  by_cases hbe:b=e
  ·have q':H b=some (.own x):=by
    rcases he with z | z
    ·exact absurd (hbe.trans z) hb
    ·rw [hbe];exact z
   rw [q] at q';cases q'
   obtain ⟨v,hv⟩:=heo
   exact ⟨v,by rw [hbe];exact hv⟩
  ·refine (ok b u q).stay (λc v hc r=>k c v ?_ r) (λc r=>by rw [xO (nown c b r)];exact r) λc xs r=>by rw [xO (ntup c xs r)];exact r
   rcases hc with rfl | hc
   ·exact hbe
   ·rintro rfl
    rcases he with z | z
    ·exact nown c b hc z
    ·rw [hc] at z;cases z;exact hb rfl
end
structure Un (fs ex:List Addr) (H H':Hp) (h h':Heap):Prop where
 keep:∀ b o,h.get? b=some o->H b=none->b ∉ fs->b ∉ ex->h'.get? b=some o
 slot:∀ b o,h.get? b=some o->H b=none->b∈fs->b ∉ ex->∃ sl,h'.get? b=some { o with slots:=sl }
 free:∀ b o,h.get? b=some o->H b=none->b ∉ ex->H' b=none
 there:∀ b o,h.get? b=some o->b ∉ ex->∃ o',h'.get? b=some o'
 tups:∀ b xs,H b=some (.tup xs)->H' b=some (.tup xs)
 frzs:∀ b o u,H b=some (.frz o u)->H' b=some (.frz o u)
 tbls:∀ b ps,H b=some (.tbl ps)->∃ more,H' b=some (.tbl (ps++more))
section
variable {fs fs' ex ex':List Addr} {H H1 H2:Hp} {h h1 h2 h':Heap}{a x e:Addr}{o:HO}
theorem Un.any (u:Un fs ex H H1 h h1) {b:Addr}{ob:Obj} (q:h.get? b=some ob) (n:H b=none) (hx:b ∉ ex):∃ sl,h1.get? b=some { ob with slots:=sl }:=by
 by_cases hb:b∈fs
 ·exact u.slot b ob q n hb hx
 ·exact ⟨ob.slots,u.keep b ob q n hb hx⟩
theorem Un.kept (k:∀ b u,h.get? b=some u->h'.get? b=some u):Un fs ex H H h h':=
 ⟨λb ob q _ _ _=>k b ob q,λb ob q _ _ _=>⟨ob.slots,k b ob q⟩,λ_ _ _ n _=>n,λb ob q _=>⟨ob,k b ob q⟩,λ_ _ q=>q,λ_ _ _ q=>q,λ_ ps q=>⟨#[],by rw [q];simp⟩⟩
theorem Un.refl:Un fs ex H H h h:=Un.kept λ_ _ q=>q
theorem Un.laid (k:∀ b u,h.get? b=some u->h'.get? b=some u) (hp:h.objs.size<=a) (hn:H a=none):Un fs ex H (upd H a o) h h' where
 keep:=λb u q _ _ _=>k b u q
 slot:=λb u q _ _ _=>⟨u.slots,k b u q⟩
 free:=λb u q n _=>by rw [xO (zS (zU (Heap.lt_size q) hp))];exact n
 there:=λb u q _=>⟨u,k b u q⟩
 tups:=λb xs q=>by rw [xO (xK q hn)];exact q
 frzs:=λb u xs q=>by rw [xO (xK q hn)];exact q
 tbls:=λb ps q=>⟨#[],by rw [xO (xK q hn),q];simp⟩
theorem Un.write (mu:Mut (H x)) (he:e=x\/H e=some (.own x)) (k:∀ b u,b≠e->h.get? b=some u->h'.get? b=some u) (heo:∃ u,h'.get? e=some u):Un fs ex H (upd H x o) h h':=by
 have hx:∀ b,H b=none->b≠x:=λb n z=>by subst z;rw [n] at mu;exact mu
 have hb:∀ b,H b=none->b≠e:=λb n z=>by
  subst z
  rcases he with r | r
  ·exact hx b n r
  ·rw [n] at r;cases r
 have hm:∀ b u,H b=some u->¬ Mut (some u)->b≠x:=λb u q nm z=>by subst z;rw [q] at mu;exact nm mu
 refine ⟨λb u q n _ _=>k b u (hb b n) q,λb u q n _ _=>⟨u.slots,k b u (hb b n) q⟩,λb u q n _=>by rw [xO (hx b n)];exact n,λb u q _=>?_,
  λb xs q=>by rw [xO (hm b _ q λz=>z)];exact q,λb u xs q=>by rw [xO (hm b _ q λz=>z)];exact q,λb ps q=>⟨#[],by rw [xO (hm b _ q λz=>z),q];simp⟩⟩
 by_cases hbe:b=e
 ·subst hbe;exact heo
 ·exact ⟨u,k b u hbe q⟩
end
def trk (h:Heap) (H:Hp):List Addr:=(List.range h.objs.size).filter λa=>(H a).isSome
def hidT (h:Heap) (H:Hp):Heap:=PySem.W.hideAll h (trk h H)
theorem hidT_size (h:Heap) (H:Hp):(hidT h H).objs.size=h.objs.size:=PySem.W.hideAll_size _ _
theorem hidT_get {h:Heap}{H:Hp}{b:Addr}{o:Obj} (e:h.get? b=some o) (n:H b=none):(hidT h H).get? b=some o:=
 PySem.W.hideAll_get _ e λhm=>by
  have q:(H b).isSome=true:=(xD.mp hm).2
  rw [n] at q;simp at q
theorem of_hidT {h:Heap}{H:Hp}{b:Addr}{o:Obj} (e:(hidT h H).get? b=some o):h.get? b=some o/\H b=none:=by
 have e':h.get? b=some o:=PySem.W.of_hideAll (trk h H) e
 refine ⟨e',?_⟩
 cases q:H b with
 | none=>rfl
 | some x=>
  have hm:b∈trk h H:=xD.mpr ⟨zx.mpr (Heap.lt_size e'),by simp [q]⟩
  have z:(hidT h H).get? b=none:=PySem.W.hideAll_none (trk h H) hm
  rw [z] at e;cases e
def allNews (g h:Heap) (L:Addr):List (Addr×Obj):=(List.range h.objs.size).filterMap λa=>if a=L\/(g.get? a).isSome=true then none else (h.get? a).map λo=>(a,o)
theorem mem_allNews {g h:Heap}{L a:Addr}{o:Obj} (h1:a≠L) (h2:g.get? a=none) (h3:h.get? a=some o):(a,o)∈allNews g h L:=
 yn.mpr ⟨a,zx.mpr (Heap.lt_size h3),by simp [h1,h2,h3]⟩
theorem of_mem_allNews {g h:Heap}{L:Addr}{p:Addr×Obj} (hp:p∈allNews g h L):p.1≠L/\g.get? p.1=none/\h.get? p.1=some p.2:=by
 obtain ⟨b,_,e⟩:=yn.mp hp
 split at e
 ·cases e
 ·rename_i hn
  cases q:h.get? b with
  | none=>rw [q] at e;simp at e
  | some u=>
   rw [q] at e
   simp only [yb,Option.some.injEq] at e
   subst e
   refine ⟨λz=>hn (.inl z),?_,q⟩
   show g.get? b=none
   cases r:g.get? b with
   | none=>rfl
   | some v=>exact (hn (.inr (by simp [r]))).elim
def rest (g h:Heap) (L d:Addr):List (Addr×Obj):=(allNews g h L).filter λp=>decide (p.1≠d)
theorem rest_ne {g h:Heap}{L d:Addr}:∀ p∈rest g h L d,p.1≠d:=λp hp=>of_decide_eq_true (xD.mp hp).2
theorem mem_rest {g h:Heap}{L d a:Addr}{o:Obj} (h1:a≠L) (h2:g.get? a=none) (h3:h.get? a=some o) (h4:a≠d):(a,o)∈rest g h L d:=
 xD.mpr ⟨mem_allNews h1 h2 h3,decide_eq_true h4⟩
theorem news_all {g h:Heap}{L:Addr}:News g L h (allNews g h L):=λp hp=>let ⟨a,b,c⟩:=of_mem_allNews hp;⟨c,a,b⟩
theorem news_at {g h:Heap}{L d:Addr}{o:Obj} (h1:d≠L) (h2:g.get? d=none) (h3:h.get? d=some o):News g L h ((d,o)::rest g h L d):=λp hp=>by
 rcases zV.mp hp with rfl | hp
 ·exact ⟨h3,h1,h2⟩
 ·exact news_all p (xD.mp hp).1
theorem kept_of_news {g h h':Heap}{L d:Addr}{m:Str->Option Value} (k:∀ b o,g.get? b=some o->h.get? b=some o) (F:Fr g L h' m) (N:News g L h' (rest g h L d)) :
  ∀ b o,b≠L->b≠d->h.get? b=some o->h'.get? b=some o:=λb o h1 h2 e=>by
 cases q:g.get? b with
 | some u=>
  have:=k b u q
  rw [e] at this;cases this
  exact F.keep b _ q
 | none=>exact (N (b,o) (mem_rest h1 q e h2)).1
end L2
namespace L2
open PySem PySem.Spec PyProof.Rows
structure Mod (K:PySem.W.Frag) (mg:Str->Option Value) (base:Heap):Prop where
 kin:K.In base
 glob:base.Ns mainGlobals mg
 blt:∃ mb,base.Ns builtinsNs mb/\∀ x:Str,x ≠ "__name__" -> mb x=bootBuiltins x
 nolimit:base.NoLimit
structure Cx where
 prog:Program
 w:World
 K:PySem.W.Frag
 mg:Str->Option Value
 base:Heap
 A:Around
 N:List Str
 s₀:Shared
 H₀:Hp
 env:Env
 outer:List Env
 stack:List Env
 ex:List Addr
 fn:Str->Bool
 calm:Bool
 pn:List (Addr×Obj)
 xe:Value->Shared->Prop
def frs (l:List Env):List Addr:=l.filterMap (·.frame)
abbrev Cx.fs (X:Cx):List Addr:=frs X.outer
def Vis (sc:Scope) (x:Str):Prop:=sc.names.lookup x=some .local\/sc.names.lookup x=some .cell\/sc.names.lookup x=some .free
def Loc (sc:Scope) (x:Str):Prop:=sc.names.lookup x=some .local\/sc.names.lookup x=some .cell
def Look (env:Env) (h:Heap) (m:Str->Option Value) (x:Str) (u:Value):Prop:=
 (env.kindOf x=some .local/\m x=some u)\/((env.kindOf x=some .cell\/env.kindOf x=some .free)/\∃ c,env.cells.lookup x=some c/\h.IsCell c (some u))
structure Cx.Ok (X:Cx):Prop where
 mod:Mod X.K X.mg X.base
 kind:X.env.scope.kind=.function
 glob:X.env.globals=mainGlobals
 blt:X.env.builtins=builtinsNs
 above:X.s₀.heap.objs.size<=X.env.locals
 inj:∀ x y c,X.env.cells.lookup x=some c->X.env.cells.lookup y=some c->x=y
 has:∀ x,(X.env.kindOf x=some .cell\/X.env.kindOf x=some .free)->∃ c,X.env.cells.lookup x=some c
 cab:∀ x c,X.fn x=true->X.env.cells.lookup x=some c->X.s₀.heap.objs.size<=c
 hd:X.calm=true->X.A.handled=none
 frames:X.A.frames=some X.stack
 stk:X.stack=X.outer\/(X.stack=X.env::X.outer/\X.env.frame=some X.env.locals)
 exf:∀ b∈X.ex,b≠X.env.locals/\∀ x c,X.env.cells.lookup x=some c->c≠b
 bs:∀ b o,X.base.get? b=some o->X.s₀.heap.get? b=some o/\X.H₀ b=none
 bsz:X.base.objs.size<=X.s₀.heap.objs.size
 noex:∀ b o,X.base.get? b=some o->b ∉ X.ex
 exfs:∀ b∈X.ex,b ∉ X.fs
 funs:X.s₀.heap.FunFrames X.base X.outer
 frf:∀ b∈X.fs,X.H₀ b=none
structure Inv (X:Cx) (pins:List (Addr×Obj)) (σ:List (Option V)) (H:Hp) (s:Shared):Prop where
 ok:X.Ok
 os:s.os=X.s₀.os
 bare:AllBare s.gens
 base:Un X.fs X.ex X.H₀ H X.s₀.heap s.heap
 loc:∃ m,s.heap.Ns X.env.locals m/\∀ (i:Nat) (x:Str) (v:V),X.N[i]?=some x->σ[i]?=some (some v)->Vis X.env.scope x->∃ u,RelV v u/\Look X.env s.heap m x u
 cell:∀ x c,X.env.cells.lookup x=some c->∃ v,s.heap.IsCell c v
 free:H X.env.locals=none
 freeC:∀ x c,X.env.cells.lookup x=some c->H c=none
 pin:∀ p∈X.pn++pins,s.heap.get? p.1=some p.2/\H p.1=none/\p.1≠X.env.locals/\p.1 ∉ X.fs/\∀ v,p.2.data≠.cell v
 hok:HOk X.prog X.w H s.heap
 len:σ.length=X.N.length
section
variable {X:Cx}{pins:List (Addr×Obj)}{σ:List (Option V)}{H H':Hp}{s:Shared}{h':Heap}
theorem Cx.Ok.nofr (ok:X.Ok) {b:Addr}{o:Obj} (e:X.base.get? b=some o):b ∉ X.fs:=λhb=>by
 have:=(ok.funs.mem hb).1
 rw [e] at this;cases this
theorem Inv.bs (I:Inv X pins σ H s):∀ b o,X.base.get? b=some o->s.heap.get? b=some o/\H b=none:=λb o e=>
 ⟨I.base.keep b o (I.ok.bs b o e).1 (I.ok.bs b o e).2 (I.ok.nofr e) (I.ok.noex b o e),I.base.free b o (I.ok.bs b o e).1 (I.ok.bs b o e).2 (I.ok.noex b o e)⟩
theorem Inv.bk (I:Inv X pins σ H s):∀ b o,X.base.get? b=some o->s.heap.get? b=some o:=λb o e=>(I.bs b o e).1
theorem Inv.mod (I:Inv X pins σ H s):Mod X.K X.mg X.base:=I.ok.mod
theorem Inv.kIn (I:Inv X pins σ H s):X.K.In s.heap:=I.ok.mod.kin.keeps I.bk
theorem Inv.fr (I:Inv X pins σ H s):∃ m,Fr X.base X.env.locals s.heap m:=
 let ⟨m,hn,_⟩:=I.loc
 ⟨m,hn,I.bk,zk I.ok.bsz I.ok.above⟩
theorem Inv.lt (I:Inv X pins σ H s):X.env.locals < s.heap.objs.size:=let ⟨_,hn,_⟩:=I.loc;hn.lt
theorem Inv.sz (I:Inv X pins σ H s):X.s₀.heap.objs.size<=s.heap.objs.size:=zk I.ok.above (yz I.lt)
theorem Inv.nofs (I:Inv X pins σ H s) {a:Addr} (h:s.heap.objs.size<=a):a ∉ X.fs:=λhb=>by
 obtain ⟨_,o,ho,_⟩:=I.ok.funs.mem hb
 exact absurd (zU (Heap.lt_size ho) (zk I.sz h)) (zu _)
theorem Inv.cne (I:Inv X pins σ H s):∀ x c,X.env.cells.lookup x=some c->c≠X.env.locals:=λx c e z=>by
 obtain ⟨v,o,ho,hd⟩:=I.cell x c e
 obtain ⟨m,⟨o',es,ep,ho',hd',_⟩,_⟩:=I.loc
 rw [z,ho'] at ho;cases ho;rw [hd'] at hd;cases hd
theorem Inv.funs (I:Inv X pins σ H s):s.heap.FunFrames X.base X.outer:=by
 have all:∀ (l:List Env),(∀ b∈frs l,b∈X.fs)->X.s₀.heap.FunFrames X.base l->s.heap.FunFrames X.base l:=by
  intro l
  induction l with
  | nil=>intro _ _;trivial
  | cons env r ih=>
   intro hs hl
   obtain ⟨hk,⟨L,o,hf,hn,ho,hd⟩,hr⟩:=hl
   have hL:L∈X.fs:=hs L (by unfold frs;rw [List.filterMap_cons,hf];exact yN)
   obtain ⟨sl,e⟩:=I.base.slot L o ho (I.ok.frf L hL) hL λz=>I.ok.exfs L z hL
   exact ⟨hk,⟨L,_,hf,hn,e,hd⟩,ih (λb hb=>hs b (by unfold frs;rw [List.filterMap_cons,hf];exact zn _ hb)) hr⟩
 exact all X.outer (λ_ hb=>hb) I.ok.funs
theorem Inv.stack (I:Inv X pins σ H s):s.heap.FunFrames X.base X.stack:=by
 rcases I.ok.stk with e | ⟨e,hf⟩
 ·rw [e];exact I.funs
 ·rw [e]
  obtain ⟨m,hn,_⟩:=I.loc
  refine .cons (by rw [I.ok.kind];decide) hf hn ?_ I.funs
  exact Heap.get?_none_of_le (zk I.ok.bsz I.ok.above)
theorem Inv.stkSub (I:Inv X pins σ H s):∀ b∈frs X.stack,b∈X.env.locals::X.fs:=λb hb=>by
 rcases I.ok.stk with e | ⟨e,hf⟩
 ·rw [e] at hb;exact zn _ hb
 ·rw [e] at hb
  unfold frs at hb
  rw [List.filterMap_cons,hf] at hb
  exact hb
theorem Inv.stkFree (I:Inv X pins σ H s):∀ b∈frs X.stack,H b=none:=λb hb=>by
 rcases zV.mp (I.stkSub b hb) with e | hb
 ·rw [e];exact I.free
 ·obtain ⟨_,o,ho,_⟩:=I.ok.funs.mem hb
  exact I.base.free b o ho (I.ok.frf b hb) λz=>I.ok.exfs b z hb
theorem Inv.step {g':Array GenState}{t':Nat}{d':Drawn}{ch:List Addr} (I:Inv X pins σ H s)
  (hch:∀ b∈ch,(b∈X.ex\/X.s₀.heap.objs.size<=b)/\b≠X.env.locals/\(∀ x c,X.env.cells.lookup x=some c->c≠b)/\∀ p∈X.pn++pins,p.1≠b)
  (keep:∀ b o,b≠X.env.locals->b ∉ X.fs->b ∉ ch->s.heap.get? b=some o->H b=none->h'.get? b=some o)
  (slot:∀ b o,b≠X.env.locals->b∈X.fs->b ∉ ch->s.heap.get? b=some o->H b=none->∃ sl,h'.get? b=some { o with slots:=sl }) (free:∀ b o,b ∉ ch->s.heap.get? b=some o->H b=none->H' b=none)
  (there:∀ b o,b ∉ ch->s.heap.get? b=some o->∃ o',h'.get? b=some o')
  (tups:∀ b xs,H b=some (.tup xs)->H' b=some (.tup xs)) (frzs:∀ b o u,H b=some (.frz o u)->H' b=some (.frz o u)) (tbls:∀ b ps,H b=some (.tbl ps)->∃ more,H' b=some (.tbl (ps++more)))
  (ns:∀ m,s.heap.Ns X.env.locals m->h'.Ns X.env.locals m) (hok:HOk X.prog X.w H' h') (hg:AllBare g') :
  Inv X pins σ H' { s with heap:=h',gens:=g',drawn:=d',toks:=t' }:=by
 have neL:∀ b o,X.s₀.heap.get? b=some o->b≠X.env.locals:=λb o e=>zS (zU (Heap.lt_size e) I.ok.above)
 have neC:∀ b o,X.s₀.heap.get? b=some o->b ∉ X.ex->b ∉ ch:=λb o e hx hb=>by
  rcases (hch b hb).1 with z | z
  ·exact hx z
  ·exact absurd (zU (Heap.lt_size e) z) (zu _)
 have cellK:∀ x c,X.env.cells.lookup x=some c->∀ v,s.heap.IsCell c v->h'.IsCell c v:=λx c e v ⟨o,ho,hd⟩=>by
  have nch:c ∉ ch:=λz=>(hch c z).2.2.1 x c e rfl
  by_cases hc:c∈X.fs
  ·obtain ⟨sl,q⟩:=slot c o (I.cne x c e) hc nch ho (I.freeC x c e)
   exact ⟨_,q,hd⟩
  ·exact ⟨o,keep c o (I.cne x c e) hc nch ho (I.freeC x c e),hd⟩
 refine ⟨I.ok,I.os,hg,⟨λb o e n hb hx=>?_,λb o e n hb hx=>?_,λb o e n hx=>?_,λb o e hx=>?_,λb xs e=>tups b xs (I.base.tups b xs e),λb o xs e=>frzs b o xs (I.base.frzs b o xs e),λb ps e=>?_⟩,?_,λx c e=>?_,?_,λx c e=>?_,λp hp=>?_,hok,I.len⟩
 ·exact keep b o (neL b o e) hb (neC b o e hx) (I.base.keep b o e n hb hx) (I.base.free b o e n hx)
 ·obtain ⟨sl,e1⟩:=I.base.slot b o e n hb hx
  obtain ⟨sl',e2⟩:=slot b _ (neL b o e) hb (neC b o e hx) e1 (I.base.free b o e n hx)
  exact ⟨sl',e2⟩
 ·obtain ⟨o',e1⟩:=I.base.there b o e hx
  exact free b o' (neC b o e hx) e1 (I.base.free b o e n hx)
 ·obtain ⟨o',e1⟩:=I.base.there b o e hx
  exact there b o' (neC b o e hx) e1
 ·obtain ⟨m1,e1⟩:=I.base.tbls b ps e
  obtain ⟨m2,e2⟩:=tbls b _ e1
  exact ⟨m1++m2,by rw [e2,Array.append_assoc]⟩
 ·obtain ⟨m,hn,hl⟩:=I.loc
  refine ⟨m,ns m hn,λi x v e1 e2 e3=>?_⟩
  obtain ⟨u,r,l⟩:=hl i x v e1 e2 e3
  refine ⟨u,r,?_⟩
  rcases l with l | ⟨k,c,e,z⟩
  ·exact .inl l
  ·exact .inr ⟨k,c,e,cellK x c e _ z⟩
 ·obtain ⟨v,z⟩:=I.cell x c e
  exact ⟨v,cellK x c e v z⟩
 ·obtain ⟨m,⟨o,_,_,ho,_⟩,_⟩:=I.loc
  exact free _ o (λz=>(hch _ z).2.1 rfl) ho I.free
 ·obtain ⟨v,o,ho,hd⟩:=I.cell x c e
  exact free c o (λz=>(hch c z).2.2.1 x c e rfl) ho (I.freeC x c e)
 ·obtain ⟨e,n,ne,nf,d⟩:=I.pin p hp
  have nch:p.1 ∉ ch:=λz=>(hch p.1 z).2.2.2 p hp rfl
  exact ⟨keep p.1 p.2 ne nf nch e n,free p.1 p.2 nch e n,ne,nf,d⟩
theorem Inv.un {t':Nat} (I:Inv X pins σ H s) (u:Un X.fs [] H H' s.heap h') (hok:HOk X.prog X.w H' h'):Inv X pins σ H' { s with heap:=h',toks:=t' }:=by
 obtain ⟨m,⟨o,es,ep,ho,r⟩,_⟩:=id I.loc
 obtain ⟨sl,hL⟩:=u.any ho I.free (by simp)
 exact I.step (g':=s.gens) (d':=s.drawn) (ch:=[]) (λ_ z=>nomatch z) (λb o _ hb _ e n=>u.keep b o e n hb (by simp)) (λb o _ hb _ e n=>u.slot b o e n hb (by simp)) (λb o _ e n=>u.free b o e n (by simp)) (λb o _ e=>u.there b o e (by simp)) u.tups u.frzs u.tbls (λm' hm=>by
  obtain ⟨o',es',ep',ho',r'⟩:=hm
  rw [ho] at ho';cases ho'
  exact ⟨_,es',ep',hL,r'⟩) hok I.bare
theorem Inv.call {g':Array GenState}{t':Nat}{d':Drawn}{ch:List Addr} (I:Inv X pins σ H s) (u:Un (frs X.stack) ch H H' s.heap h') (hok:HOk X.prog X.w H' h') (hg:AllBare g')
  (hch:∀ b∈ch,(b∈X.ex\/X.s₀.heap.objs.size<=b)/\b≠X.env.locals/\(∀ x c,X.env.cells.lookup x=some c->c≠b)/\∀ p∈X.pn++pins,p.1≠b) :
  Inv X pins σ H' { s with heap:=h',gens:=g',drawn:=d',toks:=t' }:=by
 obtain ⟨m,⟨o,es,ep,ho,r⟩,_⟩:=id I.loc
 obtain ⟨sl,hL⟩:=u.any ho I.free λz=>(hch _ z).2.1 rfl
 exact I.step (ch:=ch) hch (λb o hL hb hc e n=>u.keep b o e n (λz=>(zV.mp (I.stkSub b z)).elim hL hb) hc) (λb o _ _ hc e n=>u.any e n hc) (λb o hc e n=>u.free b o e n hc) (λb o hc e=>u.there b o e hc) u.tups u.frzs u.tbls (λm' hm=>by
  obtain ⟨o',es',ep',ho',r'⟩:=hm
  rw [ho] at ho';cases ho'
  exact ⟨_,es',ep',hL,r'⟩) hok hg
theorem Inv.turned {t':Nat}{it:Addr} (I:Inv X pins σ H s) (k:∀ b o,b≠it->s.heap.get? b=some o->h'.get? b=some o) (hn:H it=none) (hL:it≠X.env.locals)
  (h1:it∈X.ex\/X.s₀.heap.objs.size<=it) (h2:∀ x c,X.env.cells.lookup x=some c->c≠it) (h3:∀ p∈X.pn++pins,p.1≠it):Inv X pins σ H { s with heap:=h',toks:=t' }:=by
 have nit:∀ b u,H b=some u->b≠it:=λb u e z=>by rw [z,hn] at e;cases e
 refine I.step (g':=s.gens) (d':=s.drawn) (ch:=[it]) (λb hb=>?_) (λb o _ _ hc e _=>k b o (λz=>hc (by simp [z])) e) (λb o _ _ hc e _=>⟨o.slots,k b o (λz=>hc (by simp [z])) e⟩) (λ_ _ _ _ n=>n)
  (λb o hc e=>⟨o,k b o (λz=>hc (by simp [z])) e⟩) (λ_ _ e=>e) (λ_ _ _ e=>e) (λb ps e=>⟨#[],by rw [e];simp⟩) (λm hm=>?_) (λb u e=>?_) I.bare
 ·have e:b=it:=by simpa using hb
  subst e
  exact ⟨h1,hL,h2,h3⟩
 ·obtain ⟨o,es,ep,ho,r⟩:=hm
  exact ⟨o,es,ep,k _ o (Ne.symm hL) ho,r⟩
 ·refine (I.hok b u e).stay (λc v hc q=>k c v ?_ q) (λ_ q=>q) λ_ _ q=>q
  rcases hc with z | z
  ·rw [z];exact nit b u e
  ·exact nit c _ z
theorem Inv.tok (I:Inv X pins σ H s) (t:Nat):Inv X pins σ H { s with toks:=t }:=I.un (h':=s.heap) (t':=t) Un.refl I.hok
theorem Inv.kept {t':Nat} (I:Inv X pins σ H s) (k:∀ b u,s.heap.get? b=some u->h'.get? b=some u):Inv X pins σ H { s with heap:=h',toks:=t' }:=I.un (Un.kept k) (I.hok.kept k)
theorem Inv.laid {a:Addr}{o:HO}{t':Nat} (I:Inv X pins σ H s) (k:∀ b u,s.heap.get? b=some u->h'.get? b=some u) (hp:s.heap.objs.size<=a) (new:ObjOk X.prog X.w (upd H a o) h' a o) :
  Inv X pins σ (upd H a o) { s with heap:=h',toks:=t' }:=I.un (Un.laid k hp (I.hok.fresh hp)) (I.hok.laid k hp new)
theorem Inv.write {x e:Addr}{o:HO}{t':Nat} (I:Inv X pins σ H s) (mu:Mut (H x)) (he:e=x\/H e=some (.own x)) (k:∀ b u,b≠e->s.heap.get? b=some u->h'.get? b=some u) (heo:∃ u,h'.get? e=some u)
  (new:ObjOk X.prog X.w (upd H x o) h' x o):Inv X pins σ (upd H x o) { s with heap:=h',toks:=t' }:=I.un (Un.write mu he k heo) (I.hok.write mu he k heo new)
theorem Inv.pins_of {pins':List (Addr×Obj)} (I:Inv X pins σ H s) (h:∀ p∈pins',s.heap.get? p.1=some p.2/\H p.1=none/\p.1≠X.env.locals/\p.1 ∉ X.fs/\∀ v,p.2.data≠.cell v):Inv X pins' σ H s:=
 ⟨I.ok,I.os,I.bare,I.base,I.loc,I.cell,I.free,I.freeC,λp hp=>(ze.mp hp).elim (λz=>I.pin p (yd _ z)) (h p),I.hok,I.len⟩
theorem nodup_ix {N:List Str} (hN:N.Nodup) {i j:Nat}{x:Str} (a:N[i]?=some x) (b:N[j]?=some x):i=j:=by
 obtain ⟨h1,e1⟩:=zB.mp a
 obtain ⟨h2,e2⟩:=zB.mp b
 exact (List.getElem_inj hN).mp (e1.trans e2.symm)
theorem store_ok2 {M:Model}{A:Around}{E:Value->Shared->Prop}{i:Nat}{x:Str}{v:V}{u:Value}{Q:Unit->Shared->Prop} (I:Inv X pins σ H s) (hN:X.N.Nodup) (hi:X.N[i]?=some x) (hx:Loc X.env.scope x) (r:RelV v u)
  (h:∀ s',Inv X pins (σ.set i (some v)) H s'->(∃ a,Heap.SameBut a s.heap s'.heap/\(a=X.env.locals\/X.env.cells.lookup x=some a))->Q () s') (hf:X.fn x=true\/X.env.scope.names.lookup x=some .local:=by first | exact .inl rfl | exact .inr rfl | assumption):wpAny M A (storeName X.env x u) Q E s:=by
 obtain ⟨m,hn,hl⟩:=id I.loc
 have hcls:(X.env.scope.kind == .class || (X.env.scope.kind == .module && X.env.locals != X.env.globals))=false:=by rw [I.ok.kind];rfl
 have hiσ:i < σ.length:=by rw [I.len];exact (zB.mp hi).1
 have cne:=I.cne
 have tracked:∀ {a:Addr}{h':Heap},(∃ o,s.heap.get? a=some o/\H a=none)->Heap.SameBut a s.heap h'->HOk X.prog X.w H h':=λ{a h'} ha hs b ob e=>by
  obtain ⟨_,_,hfree⟩:=ha
  refine (I.hok b ob e).stay (λc w' hc q=>(hs.2 c ?_).trans q) (λ_ q=>q) λ_ _ q=>q
  rintro rfl
  rcases hc with rfl | hc
  ·rw [hfree] at e;cases e
  ·rw [hfree] at hc;cases hc
 rcases hx with hk | hk
 ·refine wpAny_storeName_local hk hn (λh' hn' hs=>?_) hcls
  obtain ⟨oL,_,_,hoL,_⟩:=id hn
  refine h _ ⟨I.ok,I.os,I.bare,⟨λb o e n hb hx=>?_,λb o e n hb hx=>?_,I.base.free,λb o e hx=>?_,I.base.tups,I.base.frzs,I.base.tbls⟩,⟨_,hn',λj y v' e1 e2 e3=>?_⟩,λy c e=>?_,I.free,I.freeC,λp hp=>?_,tracked ⟨oL,hoL,I.free⟩ hs,by simpa using I.len⟩ ⟨_,hs,.inl rfl⟩
  ·exact (hs.2 b (zS (zU (Heap.lt_size e) I.ok.above))).trans (I.base.keep b o e n hb hx)
  ·obtain ⟨sl,e1⟩:=I.base.slot b o e n hb hx
   exact ⟨sl,(hs.2 b (zS (zU (Heap.lt_size e) I.ok.above))).trans e1⟩
  ·obtain ⟨o',e1⟩:=I.base.there b o e hx
   exact ⟨o',(hs.2 b (zS (zU (Heap.lt_size e) I.ok.above))).trans e1⟩
  ·by_cases hj:j=i
   ·subst hj
    rw [hi] at e1;cases e1
    rw [yI hiσ] at e2
    cases e2
    exact ⟨u,r,.inl ⟨hk,by simp⟩⟩
   ·rw [ye (Ne.symm hj)] at e2
    obtain ⟨u',r',q⟩:=hl j y v' e1 e2 e3
    refine ⟨u',r',?_⟩
    rcases q with ⟨k,e⟩ | ⟨k,c,e,z⟩
    ·refine .inl ⟨k,?_⟩
     have:y≠x:=λe=>hj (nodup_ix hN e1 (e ▸ hi))
     simp [this,e]
    ·exact .inr ⟨k,c,e,z.sameBut hs (cne y c e)⟩
  ·obtain ⟨w',z⟩:=I.cell y c e
   exact ⟨w',z.sameBut hs (cne y c e)⟩
  ·obtain ⟨e,n,ne,nf,d⟩:=I.pin p hp
   exact ⟨(hs.2 p.1 ne).trans e,n,ne,nf,d⟩
 ·have hfn:X.fn x=true:=by
   rcases hf with z | z
   ·exact z
   ·rw [z] at hk;cases hk
  obtain ⟨c,hc⟩:=I.ok.has x (.inl hk)
  obtain ⟨w',z⟩:=I.cell x c hc
  refine wpAny_storeName_cell I.ok.kind hk hc z (λh' hc' hs=>?_)
  obtain ⟨oc,hoc,hocd⟩:=id z
  refine h { s with heap:=h' } ⟨I.ok,I.os,I.bare,⟨λb o e n hb hx=>?_,λb o e n hb hx=>?_,I.base.free,λb o e hx=>?_,I.base.tups,I.base.frzs,I.base.tbls⟩,⟨m,hn.sameBut hs (Ne.symm (cne x c hc)),λj y v' e1 e2 e3=>?_⟩,λy c' e=>?_,I.free,I.freeC,λp hp=>?_,tracked ⟨oc,hoc,I.freeC x c hc⟩ hs,by simpa using I.len⟩ ⟨c,hs,.inr hc⟩
  ·exact (hs.2 b (zS (zU (Heap.lt_size e) (I.ok.cab x c hfn hc)))).trans (I.base.keep b o e n hb hx)
  ·obtain ⟨sl,e1⟩:=I.base.slot b o e n hb hx
   exact ⟨sl,(hs.2 b (zS (zU (Heap.lt_size e) (I.ok.cab x c hfn hc)))).trans e1⟩
  ·obtain ⟨o',e1⟩:=I.base.there b o e hx
   exact ⟨o',(hs.2 b (zS (zU (Heap.lt_size e) (I.ok.cab x c hfn hc)))).trans e1⟩
  ·by_cases hj:j=i
   ·subst hj
    rw [hi] at e1;cases e1
    rw [yI hiσ] at e2
    cases e2
    exact ⟨u,r,.inr ⟨.inl hk,c,hc,hc'⟩⟩
   ·rw [ye (Ne.symm hj)] at e2
    obtain ⟨u',r',q⟩:=hl j y v' e1 e2 e3
    refine ⟨u',r',?_⟩
    rcases q with q | ⟨k,c',e,z'⟩
    ·exact .inl q
    ·refine .inr ⟨k,c',e,z'.sameBut hs ?_⟩
     rintro rfl
     exact hj (nodup_ix hN e1 (I.ok.inj _ _ _ e hc ▸ hi))
  ·by_cases hcc:c'=c
   ·subst hcc;exact ⟨_,hc'⟩
   ·obtain ⟨w2,z2⟩:=I.cell y c' e
    exact ⟨w2,z2.sameBut hs hcc⟩
  ·obtain ⟨e,n,ne,nf,d⟩:=I.pin p hp
   refine ⟨(hs.2 p.1 ?_).trans e,n,ne,nf,d⟩
   intro q
   rw [q,hoc] at e
   have q':oc=p.2:=Option.some.inj e
   exact d w' (by rw [<-q'];exact hocd)
theorem store_ok {M:Model}{A:Around}{E:Value->Shared->Prop}{i:Nat}{x:Str}{v:V}{u:Value}{Q:Unit->Shared->Prop} (I:Inv X pins σ H s) (hN:X.N.Nodup) (hi:X.N[i]?=some x) (hx:Loc X.env.scope x) (r:RelV v u)
  (h:∀ s',Inv X pins (σ.set i (some v)) H s'->Q () s') (hf:X.fn x=true\/X.env.scope.names.lookup x=some .local:=by first | exact .inl rfl | exact .inr rfl | assumption):wpAny M A (storeName X.env x u) Q E s:=
 store_ok2 I hN hi hx r (λs' I' _=>h s' I') hf
theorem Inv.call' {s':Shared}{ch:List Addr} (I:Inv X pins σ H s) (ho:s'.os=s.os) (u:Un (frs X.stack) ch H H' s.heap s'.heap) (hok:HOk X.prog X.w H' s'.heap) (hg:AllBare s'.gens)
  (hch:∀ b∈ch,(b∈X.ex\/X.s₀.heap.objs.size<=b)/\b≠X.env.locals/\(∀ x c,X.env.cells.lookup x=some c->c≠b)/\∀ p∈X.pn++pins,p.1≠b):Inv X pins σ H' s':=by
 obtain ⟨h',g',d',t',o'⟩:=s'
 have e:o'=s.os:=ho
 subst e
 exact I.call (g':=g') (t':=t') (d':=d') u hok hg hch
end
abbrev XK:=Value->Option Addr->Hp->Prop
abbrev St:=List (Option V)
abbrev VK:=V->Hp->Prop
abbrev TE:=St->Hp->VK->Prop
abbrev TT:=St->Hp->(Bool->Hp->Prop)->Prop
abbrev TA:=St->Hp->(List V->Hp->Prop)->Prop
structure Ends where
 nx:St->Hp->Prop
 rt:VK
 bk:St->Hp->Prop:=λ_ _=>False
 ct:St->Hp->Prop:=λ_ _=>False
abbrev TS:=Ends->St->Hp->Prop
def EP (X:Cx) (pins:List (Addr×Obj)) (σ:St) (Q:VK) (u:Value) (s':Shared):Prop:=∃ v H',Inv X pins σ H' s'/\RelV v u/\Q v H'
def TP (X:Cx) (pins:List (Addr×Obj)) (σ:St) (Q:Bool->Hp->Prop) (b:Bool) (s':Shared):Prop:=∃ H',Inv X pins σ H' s'/\Q b H'
def AP (X:Cx) (pins:List (Addr×Obj)) (σ:St) (Q:List V->Hp->Prop) (us:List Value) (s':Shared):Prop:=∃ vs H',Inv X pins σ H' s'/\Vals vs us/\Q vs H'
def SP (X:Cx) (pins:List (Addr×Obj)) (D:Ends) (f:Flow) (s':Shared):Prop:=
 match f with
 | .next=>∃ σ' H',Inv X pins σ' H' s'/\D.nx σ' H'
 | .brk=>∃ σ' H',Inv X pins σ' H' s'/\D.bk σ' H'
 | .cont=>∃ σ' H',Inv X pins σ' H' s'/\D.ct σ' H'
 | .ret u=>∃ v σ' H',Inv X pins σ' H' s'/\RelV v u/\D.rt v H'
def PE (X:Cx) (e:Expr) (t:TE):Prop:=
 ∀ (pins:List (Addr×Obj)) (s:Shared) (σ:St) (H:Hp) (Q:VK),Inv X pins σ H s->t σ H Q->wpAny (model X.prog X.w) X.A (eval e X.env) (EP X pins σ Q) X.xe s
def PT (X:Cx) (e:Expr) (t:TT):Prop:=
 ∀ (pins:List (Addr×Obj)) (s:Shared) (σ:St) (H:Hp) (Q:Bool->Hp->Prop),Inv X pins σ H s->t σ H Q->wpAny (model X.prog X.w) X.A (isTrue e X.env (eval e X.env)) (TP X pins σ Q) X.xe s
def PW (X:Cx) (e:Expr) (t:TT):Prop:=
 ∀ (whole:Sem Value) (pins:List (Addr×Obj)) (s:Shared) (σ:St) (H:Hp) (Q:Bool->Hp->Prop),Inv X pins σ H s->t σ H Q->wpAny (model X.prog X.w) X.A (isTrue e X.env whole) (TP X pins σ Q) X.xe s
theorem PW.pt {X:Cx}{e:Expr}{t:TT} (h:PW X e t):PT X e t:=h _
def PA (X:Cx) (es:List Expr) (t:TA):Prop:=
 ∀ (pos:Pos) (pins:List (Addr×Obj)) (s:Shared) (σ:St) (H:Hp) (Q:List V->Hp->Prop),Inv X pins σ H s->t σ H Q->wpAny (model X.prog X.w) X.A (spliced (backTo pos (starEach es X.env))) (AP X pins σ Q) X.xe s
def PS (X:Cx) (st:Stmt) (t:TS):Prop:=
 ∀ (pins:List (Addr×Obj)) (s:Shared) (σ:St) (H:Hp) (D:Ends),Inv X pins σ H s->t D σ H->wpAny (model X.prog X.w) X.A (exec st X.env) (SP X pins D) X.xe s
def PSs (X:Cx) (st:List Stmt) (t:TS):Prop:=
 ∀ (pins:List (Addr×Obj)) (s:Shared) (σ:St) (H:Hp) (D:Ends),Inv X pins σ H s->t D σ H->wpAny (model X.prog X.w) X.A (execs st X.env) (SP X pins D) X.xe s
theorem thn {α:Type}{t:Sem α}{Q Q':α->Shared->Prop}{M:Model}{A:Around}{E:Value->Shared->Prop}{s:Shared} (h:wpAny M A t Q E s) (hQ:∀ a s,Q a s->Q' a s):wpAny M A t Q' E s:=wpAny_mono h hQ λ_ _ x=>x
end L2
namespace L2
open PySem PySem.Spec PyProof.Rows
section
variable {X:Cx}
def tVar (i:Nat):TE:=fun σ H Q=>∃ v,σ[i]?=some (some v)/\Q v H
def tC (v:V):TE:=λ_ H Q=>Q v H
theorem pe_var {i:Nat}{x:Str}{pos:Pos} (hN:X.N[i]?=some x) (hv:Vis X.env.scope x) (hd:(x == ("__debug__" : Str))=false:=by decide) (hcd:(x == ("__classdict__" : Str))=false:=by decide):PE X (.Name x pos) (tVar i):=by
 intro pins s σ H Q I h
 obtain ⟨v,e,h⟩:=h
 obtain ⟨m,hn,hl⟩:=I.loc
 obtain ⟨u,r,l⟩:=hl i x v hN e hv
 have fin:EP X pins σ Q u s:=⟨v,H,I,r,h⟩
 rcases l with ⟨hk,hm⟩ | ⟨hk,c,hc,hcell⟩
 ·exact wpAny_Name (wpAny_loadName_local I.ok.kind hk hn hm fin) hd
 ·rcases hk with hk | hk
  ·exact wpAny_Name (wpAny_loadName_cell I.ok.kind hk hc hcell fin) hd
  ·exact wpAny_Name (wpAny_loadName_free I.ok.kind hk hc hcell fin hcd) hd
theorem xI {i j pos}:PE X (.Constant (.int i) j pos) (tC (.int i)):=λ_ _ _ H _ I h=>wpAny_Constant_int ⟨.int i,H,I.tok _,⟨_,rfl⟩,h⟩
theorem wD {b j pos}:PE X (.Constant (.bool b) j pos) (tC (.bl b)):=λ_ _ _ H _ I h=>Constant_bool ⟨.bl b,H,I,rfl,h⟩
theorem pe_non {j pos}:PE X (.Constant .none j pos) (tC .non):=λ_ _ _ H _ I h=>Constant_none ⟨.non,H,I,rfl,h⟩
theorem pe_str {x j pos}:PE X (.Constant (.str x) j pos) (tC (.str x)):=λ_ _ _ H _ I h=>Calls.Constant_str ⟨.str x,H,I.tok _,⟨_,rfl⟩,h⟩
def Gl (X:Cx) (x:Str):Prop:=X.env.kindOf x=some .globalImplicit
theorem ld_glob {E:Value->Shared->Prop}{pins:List (Addr×Obj)}{s:Shared}{σ:St}{H:Hp}{x:Str}{u:Value}{pos:Pos}{Q:Value->Shared->Prop} (I:Inv X pins σ H s) (hg:Gl X x) (hm:X.mg x=some u) (h:Q u s)
  (hd:(x == ("__debug__" : Str))=false:=by decide):wpAny (model X.prog X.w) X.A (eval (.Name x pos) X.env) Q E s:=
 Calls.Name_function_global I.ok.kind hg (Calls.loadGlobal_global (by rw [I.ok.glob];exact I.mod.glob.keeps I.bk) hm h) hd
theorem ld_blt {E:Value->Shared->Prop}{pins:List (Addr×Obj)}{s:Shared}{σ:St}{H:Hp}{x:Str}{u:Value}{pos:Pos}{Q:Value->Shared->Prop} (I:Inv X pins σ H s) (hg:Gl X x) (hm:X.mg x=none) (hv:bootBuiltins x=some u) (h:Q u s)
  (hn:x ≠ "__name__" := by decide) (hd:(x == ("__debug__" : Str))=false:=by decide):wpAny (model X.prog X.w) X.A (eval (.Name x pos) X.env) Q E s:=by
 obtain ⟨mb,h1,h2⟩:=I.mod.blt
 exact Calls.Name_function_global I.ok.kind hg (Calls.loadGlobal_builtin (by rw [I.ok.glob];exact I.mod.glob.keeps I.bk) hm (by rw [I.ok.blt];exact h1.keeps I.bk) ((h2 x hn).trans hv) h) hd
theorem xt {x:Str}{v:V}{u:Value}{pos:Pos} (hg:Gl X x) (hm:X.mg x=some u) (r:RelV v u) (hd:(x == ("__debug__" : Str))=false:=by decide):PE X (.Name x pos) (tC v):=
 λ_ _ _ H _ I h=>ld_glob I hg hm ⟨v,H,I,r,h⟩ hd
theorem wU {x:Str}{v:V}{u:Value}{pos:Pos} (hg:Gl X x) (hm:X.mg x=none) (hv:bootBuiltins x=some u) (r:RelV v u) (hn:x ≠ "__name__" := by decide) (hd:(x == ("__debug__" : Str))=false:=by decide):PE X (.Name x pos) (tC v):=
 λ_ _ _ H _ I h=>ld_blt I hg hm hv ⟨v,H,I,r,h⟩ hn hd
variable {a b:Expr}{ta tb:TE}{pos:Pos}
def PC (X:Cx) (op:CmpOp) (a b:Expr) (t:TE):Prop:=
 ∀ (pins:List (Addr×Obj)) (s:Shared) (σ:St) (H:Hp) (Q:VK),Inv X pins σ H s->t σ H Q ->
  wpAny (model X.prog X.w) X.A (eval a X.env) (λv s₁=>wpAny (model X.prog X.w) X.A (eval b X.env) (λu s₂=>wpAny (model X.prog X.w) X.A (compareOp op v u) (EP X pins σ Q) X.xe s₂) X.xe s₁) X.xe s
theorem nobehind (b:Expr) {op:CmpOp} (h:op≠.In) (h2:op≠.NotIn):behindInMarks op b=false:=by
 have e1:(op == CmpOp.In)=false:=by cases op <;> first | rfl | exact absurd rfl h
 have e2:(op == CmpOp.NotIn)=false:=by cases op <;> first | rfl | exact absurd rfl h2
 cases b <;> simp [behindInMarks,e1,e2]
def tIsN (ta:TE):TE:=fun σ H Q=>ta σ H λx H1=>Q (.bl (decide (x=.non))) H1
def tNotN (ta:TE):TE:=fun σ H Q=>ta σ H λx H1=>Q (.bl (!decide (x=.non))) H1
theorem RelV.none_iff {x:V}{v:Value} (r:RelV x v):(v == Value.none)=decide (x=.non):=by
 cases x with
 | non=>cases r;rfl
 | bl _=>cases r;rfl
 | int _=>obtain ⟨t,rfl⟩:=r;rfl
 | str _=>obtain ⟨t,rfl⟩:=r;rfl
 | byt _=>obtain ⟨t,rfl⟩:=r;rfl
 | flt _=>obtain ⟨t,rfl⟩:=r;rfl
 | ref _=>cases r;rfl
 | ty _=>cases r;rfl
theorem pc_isN {j pos'} (ha:PE X a ta):PC X .Is a (.Constant .none j pos') (tIsN ta):=by
 intro pins s σ H Q I h
 refine thn (ha pins s σ H _ I h) λv s1 ⟨x,H1,I1,r1,q1⟩=>?_
 exact Constant_none (is_none_gen ⟨.bl _,H1,I1,by rw [r1.none_iff];rfl,q1⟩)
theorem pc_notN {j pos'} (ha:PE X a ta):PC X .IsNot a (.Constant .none j pos') (tNotN ta):=by
 intro pins s σ H Q I h
 refine thn (ha pins s σ H _ I h) λv s1 ⟨x,H1,I1,r1,q1⟩=>?_
 exact Constant_none (isnot_none_gen ⟨.bl _,H1,I1,by rw [r1.none_iff];rfl,q1⟩)
def tB (t:TE):TT:=fun σ H Q=>t σ H λx H1=>∃ c,x=.bl c/\Q c H1
theorem pe_cmp {op:CmpOp}{t:TE} (h:PC X op a b t) (h1:behindInMarks op b=false:=by first | exact nobehind _ (by decide) (by decide) | rfl):PE X (.Compare a [op] [b] pos) t:=λpins s σ H Q I hw=>wpAny_Compare1 (h pins s σ H Q I hw) h1
theorem pt_cmp {op:CmpOp}{t:TE} (h:PC X op a b t) (h1:behindInMarks op b=false:=by first | exact nobehind _ (by decide) (by decide) | rfl):PT X (.Compare a [op] [b] pos) (tB t):=by
 intro pins s σ H Q I hw
 refine wpAny_isTrue_Compare1 (thn (h pins s σ H _ I hw) λv s1 h1=>thn h1 λu s2 h2=>thn h2 λc s3 ⟨x,H1,I1,r1,q1⟩=>?_) h1
 obtain ⟨d,rfl,q⟩:=q1
 cases r1
 exact wpAny_truthy_bool ⟨H1,I1,q⟩
theorem xo {e:Expr}{t:TE} (h:PE X e t) (he:∀ whole,isTrue e X.env whole=(do let v <- whole;standAt e.pos;holding [v] (truthy v)):=by intro _;rfl):PT X e (tB t):=by
 intro pins s σ H Q I hw
 refine isTrue_plain (thn (h pins s σ H _ I hw) λv s1 ⟨x,H1,I1,r1,q1⟩=>?_) (he _)
 obtain ⟨d,rfl,q⟩:=q1
 cases r1
 exact wpAny_truthy_bool ⟨H1,I1,q⟩
variable {tA tB':TT}{rest:List Expr}
def tAnd (t u:TT):TT:=fun σ H Q=>t σ H λc H1=>if c=true then u σ H1 Q else Q false H1
def tOr (t u:TT):TT:=fun σ H Q=>t σ H λc H1=>if c=true then Q true H1 else u σ H1 Q
def tNot (t:TT):TT:=fun σ H Q=>t σ H λc H1=>Q (!c) H1
theorem wa (ha:PT X a tA):PW X (.BoolOp .And [a] pos) tA:=by
 intro wh pins s σ H Q I h
 refine isTrue_and (thn (ha pins s σ H Q I h) λc s1 e=>?_)
 cases c with
 | true=>exact isTrue_and_nil e
 | false=>exact e
theorem pw_or1 (ha:PT X a tA):PW X (.BoolOp .Or [a] pos) tA:=by
 intro wh pins s σ H Q I h
 refine isTrue_or (thn (ha pins s σ H Q I h) λc s1 e=>?_)
 cases c with
 | false=>exact isTrue_or_nil e
 | true=>exact e
theorem pw_and (ha:PT X a tA) (hb:PW X (.BoolOp .And (b::rest) pos) tB'):PW X (.BoolOp .And (a::b::rest) pos) (tAnd tA tB'):=by
 intro wh pins s σ H Q I h
 refine isTrue_and (thn (ha pins s σ H _ I h) λc s1 ⟨H1,I1,q1⟩=>?_)
 cases c with
 | true=>exact hb wh pins s1 σ H1 Q I1 q1
 | false=>exact ⟨H1,I1,q1⟩
theorem pw_or (ha:PT X a tA) (hb:PW X (.BoolOp .Or (b::rest) pos) tB'):PW X (.BoolOp .Or (a::b::rest) pos) (tOr tA tB'):=by
 intro wh pins s σ H Q I h
 refine isTrue_or (thn (ha pins s σ H _ I h) λc s1 ⟨H1,I1,q1⟩=>?_)
 cases c with
 | true=>exact ⟨H1,I1,q1⟩
 | false=>exact hb wh pins s1 σ H1 Q I1 q1
theorem wE (ha:PT X a tA):PT X (.UnaryOp .Not a pos) (tNot tA):=by
 intro pins s σ H Q I h
 exact isTrue_not (ha pins s σ H (λc H1=>Q (!c) H1) I h)
def tAndV (ta tb:TE):TE:=fun σ H Q=>ta σ H λx H1=>∃ c,x=.bl c/\if c=true then tb σ H1 Q else Q (.bl false) H1
def tOrV (ta tb:TE):TE:=fun σ H Q=>ta σ H λx H1=>∃ c,x=.bl c/\if c=true then Q (.bl true) H1 else tb σ H1 Q
def tNotV (ta:TE):TE:=fun σ H Q=>ta σ H λx H1=>∃ c,x=.bl c/\Q (.bl (!c)) H1
theorem pe_one {op}{t:TE} (h:PE X a t):PE X (.BoolOp op [a] pos) t:=λpins s σ H Q I hw=>BoolOp_one (h pins s σ H Q I hw)
theorem pe_and (ha:PE X a ta) (hb:PE X (.BoolOp .And (b::rest) pos) tb):PE X (.BoolOp .And (a::b::rest) pos) (tAndV ta tb):=by
 intro pins s σ H Q I h
 refine BoolOp_and (thn (ha pins s σ H _ I h) λv s1 ⟨x,H1,I1,r1,q1⟩=>?_)
 obtain ⟨c,rfl,q1⟩:=q1
 cases r1
 refine wpAny_truthy_bool ?_
 cases c with
 | true=>exact hb pins s1 σ H1 Q I1 q1
 | false=>exact ⟨.bl false,H1,I1,rfl,q1⟩
theorem pe_not (ha:PE X a ta):PE X (.UnaryOp .Not a pos) (tNotV ta):=by
 intro pins s σ H Q I h
 refine UnaryOp_ (thn (ha pins s σ H _ I h) λv s1 ⟨x,H1,I1,r1,q1⟩=>?_)
 obtain ⟨c,rfl,q1⟩:=q1
 cases r1
 exact not_of (wpAny_truthy_bool ⟨.bl (!c),H1,I1,rfl,q1⟩)
def tIf (t:TT) (ta tb:TE):TE:=fun σ H Q=>t σ H λc H1=>if c=true then ta σ H1 Q else tb σ H1 Q
theorem pe_ifExp {c:Expr} (hc:PT X c tA) (ha:PE X a ta) (hb:PE X b tb):PE X (.IfExp c a b pos) (tIf tA ta tb):=by
 intro pins s σ H Q I h
 refine wpAny_IfExp (thn (hc pins s σ H _ I h) λd s1 ⟨H1,I1,q1⟩=>?_)
 cases d with
 | true=>exact ha pins s1 σ H1 Q I1 q1
 | false=>exact hb pins s1 σ H1 Q I1 q1
end
end L2
namespace L2
open PySem PySem.Spec PyProof.Rows
def SqL (K:PySem.W.Frag) (H:Hp) (a:Addr) (xs:List V):Prop:=
 Rd H a (.lst xs) \/
  ∃ (o:Obj) (its:Array Value) (n:Nat),K.lookup a=some o/\o.cls=.type "list" /\ o.dict=none/\o.data=.seq its n/\its.size<=sizeLine/\Vals xs its.toList
def SqT (K:PySem.W.Frag) (H:Hp) (a:Addr) (xs:List V):Prop:=
 Rd H a (.tup xs) \/
  ∃ (o:Obj) (its:Array Value) (n:Nat),K.lookup a=some o/\o.cls=.type "tuple" /\ o.data=.seq its n/\its.size<=sizeLine/\Vals xs its.toList
def absV:Value->Option V
 | .none=>some .non
 | .bool b=>some (.bl b)
 | .int i _=>some (.int i)
 | .str x _=>some (.str x)
 | .bytes b _=>some (.byt b)
 | .float b _=>some (.flt b)
 | .ref a=>some (.ref a)
 | .type n=>some (.ty n)
 | _=>none
theorem RelV.abs {x:V}{u:Value} (r:RelV x u):absV u=some x:=by
 cases x with
 | non=>cases r;rfl
 | bl _=>cases r;rfl
 | int _=>obtain ⟨t,rfl⟩:=r;rfl
 | str _=>obtain ⟨t,rfl⟩:=r;rfl
 | byt _=>obtain ⟨t,rfl⟩:=r;rfl
 | flt _=>obtain ⟨t,rfl⟩:=r;rfl
 | ref _=>cases r;rfl
 | ty _=>cases r;rfl
theorem RelV.inj {x y:V}{u:Value} (r:RelV x u) (q:RelV y u):x=y:=Option.some.inj (r.abs.symm.trans q.abs)
theorem Vals.inj:∀ {xs ys:List V}{us:List Value},Vals xs us->Vals ys us->xs=ys
 | _,_,_,.nil,.nil=>rfl
 | _,_,_,.cons r t,.cons r' t'=>by rw [r.inj r',Vals.inj t t']
section
variable {X:Cx}{pins:List (Addr×Obj)}{σ:St}{H:Hp}{s:Shared}{a:Addr}{xs ys:List V}
theorem SqL.of {K:PySem.W.Frag} (h:H a=some (.lst xs)):SqL K H a xs:=.inl (.inl h)
theorem SqT.of {K:PySem.W.Frag} (h:H a=some (.tup xs)):SqT K H a xs:=.inl (.inl h)
theorem Inv.list (I:Inv X pins σ H s) (h:SqL X.K H a xs):∃ its:List Value,Vals xs its/\PlainL s.heap a its.toArray/\xs.length<=sizeLine:=by
 rcases h with h | ⟨o,its,n,hk,hc,hd,hs,hz,r⟩
 ·obtain ⟨z,its,n,r,e⟩:=h.ok I.hok
  exact ⟨its,r,⟨_,n,e,rfl,rfl,rfl⟩,z⟩
 ·refine ⟨its.toList,r,⟨o,n,I.kIn a o hk,hc,hd,by simpa using hs⟩,?_⟩
  have e:=r.length
  simp only [Array.length_toList] at e
  omega
theorem Inv.tuple (I:Inv X pins σ H s) (h:SqT X.K H a xs):∃ its:List Value,Vals xs its/\IsTup s.heap a its.toArray/\xs.length<=sizeLine:=by
 rcases h with h | ⟨o,its,n,hk,hc,hs,hz,r⟩
 ·obtain ⟨z,its,r,p⟩:=h.ok I.hok
  exact ⟨its,r,p,z⟩
 ·refine ⟨its.toList,r,⟨o,I.kIn a o hk,hc,n,by simpa using hs⟩,?_⟩
  have e:=r.length
  simp only [Array.length_toList] at e
  omega
theorem Inv.list_inj (I:Inv X pins σ H s) (h:SqL X.K H a xs) (h':SqL X.K H a ys):xs=ys:=by
 obtain ⟨its,r,⟨o,n,e,_,_,d⟩,_⟩:=I.list h
 obtain ⟨its',r',⟨o',n',e',_,_,d'⟩,_⟩:=I.list h'
 rw [e] at e';cases e'
 rw [d] at d'
 injection d' with d1 _
 have:its=its':=by simpa using congrArg Array.toList d1
 subst this
 exact r.inj r'
theorem Inv.tuple_inj (I:Inv X pins σ H s) (h:SqT X.K H a xs) (h':SqT X.K H a ys):xs=ys:=by
 obtain ⟨its,r,⟨o,e,_,n,d⟩,_⟩:=I.tuple h
 obtain ⟨its',r',⟨o',e',_,n',d'⟩,_⟩:=I.tuple h'
 rw [e] at e';cases e'
 rw [d] at d'
 injection d' with d1 _
 have:its=its':=by simpa using congrArg Array.toList d1
 subst this
 exact r.inj r'
end
abbrev Cx.wish (X:Cx) (E:Value->Shared->Prop):Cx:={ X with xe:=E }
abbrev Cx.nox (X:Cx):Cx:=X.wish λ_ _=>False
theorem Cx.Ok.wish {X:Cx} (ok:X.Ok) (E:Value->Shared->Prop):(X.wish E).Ok:=
 ⟨ok.mod,ok.kind,ok.glob,ok.blt,ok.above,ok.inj,ok.has,ok.cab,ok.hd,ok.frames,ok.stk,ok.exf,ok.bs,ok.bsz,ok.noex,ok.exfs,ok.funs,ok.frf⟩
theorem Cx.Ok.unwish {X:Cx}{E:Value->Shared->Prop} (ok:(X.wish E).Ok):X.Ok:=
 ⟨ok.mod,ok.kind,ok.glob,ok.blt,ok.above,ok.inj,ok.has,ok.cab,ok.hd,ok.frames,ok.stk,ok.exf,ok.bs,ok.bsz,ok.noex,ok.exfs,ok.funs,ok.frf⟩
section
variable {X:Cx}{pins:List (Addr×Obj)}{σ:St}{H:Hp}{s:Shared}{E:Value->Shared->Prop}
theorem Inv.wish (I:Inv X pins σ H s) (E:Value->Shared->Prop):Inv (X.wish E) pins σ H s:=⟨I.ok.wish E,I.os,I.bare,I.base,I.loc,I.cell,I.free,I.freeC,I.pin,I.hok,I.len⟩
theorem Inv.unwish (I:Inv (X.wish E) pins σ H s):Inv X pins σ H s:=⟨I.ok.unwish,I.os,I.bare,I.base,I.loc,I.cell,I.free,I.freeC,I.pin,I.hok,I.len⟩
theorem SP.unwish {D:Ends}{f:Flow}{s':Shared} (h:SP (X.wish E) pins D f s'):SP X pins D f s':=by
 cases f with
 | next=>obtain ⟨σ',H',I,q⟩:=h;exact ⟨σ',H',I.unwish,q⟩
 | brk=>obtain ⟨σ',H',I,q⟩:=h;exact ⟨σ',H',I.unwish,q⟩
 | cont=>obtain ⟨σ',H',I,q⟩:=h;exact ⟨σ',H',I.unwish,q⟩
 | ret u=>obtain ⟨v,σ',H',I,r,q⟩:=h;exact ⟨v,σ',H',I.unwish,r,q⟩
theorem PSs.nox {st:List Stmt}{t:TS} (h:PSs X.nox st t):PSs X st t:=λpins s σ H D I hw=>
 wpAny_mono (h pins s σ H D (I.wish _) hw) (λ_ _ q=>q.unwish) λ_ _ z=>False.elim z
end
section
variable {X:Cx}{st:Stmt}{rest:List Stmt}{t u:TS}{e:Expr}{te:TE}{pos:Pos}
def tNext:TS:=λD σ H=>D.nx σ H
def tSeq (t u:TS):TS:=λD σ H=>t { D with nx:=u D } σ H
theorem xX:PSs X [] tNext:=λ_ _ σ H _ I h=>wpAny_execs_nil ⟨σ,H,I,h⟩
theorem pss_cons (h1:PS X st t) (h2:PSs X rest u):PSs X (st::rest) (tSeq t u):=by
 intro pins s σ H D I h
 refine wpAny_execs_cons (thn (h1 pins s σ H { D with nx:=u D } I h) λf s1 q=>?_)
 cases f with
 | next=>
  obtain ⟨σ',H',I',q⟩:=q
  exact h2 pins s1 σ' H' D I' q
 | ret v=>exact q
 | brk=>exact q
 | cont=>exact q
theorem pss_one (h1:PS X st t):PSs X [st] t:=by
 intro pins s σ H D I h
 refine wpAny_execs_cons (thn (h1 pins s σ H D I h) λf s1 q=>?_)
 cases f with
 | next=>exact wpAny_execs_nil q
 | ret v=>exact q
 | brk=>exact q
 | cont=>exact q
def tCont:TS:=λD σ H=>D.ct σ H
theorem ps_pass:PS X (.Pass pos) tNext:=λ_ _ σ H _ I h=>wpAny_Pass ⟨σ,H,I,h⟩
theorem ps_continue:PS X (.Continue pos) tCont:=λ_ _ σ H _ I h=>wpAny_Continue ⟨σ,H,I,h⟩
theorem Inv.quiet {pins:List (Addr×Obj)}{σ:St}{H:Hp}{s:Shared} (I:Inv X pins σ H s):interactive X.env=false:=by simp [interactive,I.ok.kind]
def tDrop (te:TE):TS:=λD σ H=>te σ H λ_ H1=>D.nx σ H1
theorem wc (he:PE X e te) (hs:swapsWith e none pos.line X.env=pure false:=by rfl):PS X (.Expr e pos) (tDrop te):=by
 intro pins s σ H D I h
 exact wpAny_Expr_any (thn (he pins s σ H _ I h) λv s1 ⟨x,H1,I1,r1,q1⟩=>⟨σ,H1,I1,q1⟩) I.quiet hs
def tRet (te:TE):TS:=λD σ H=>te σ H D.rt
theorem xY (he:PE X e te):PS X (.Return (some e) pos) (tRet te):=by
 intro pins s σ H D I h
 exact wpAny_Return_some (thn (he pins s σ H _ I h) λv s1 ⟨x,H1,I1,r1,q1⟩=>⟨x,σ,H1,I1,r1,q1⟩)
def tIfS (c:TT) (t u:TS):TS:=λD σ H=>c σ H λb H1=>if b=true then t D σ H1 else u D σ H1
theorem xi {c:Expr}{a b:List Stmt}{tc:TT} (hc:PT X c tc) (ha:PSs X a t) (hb:PSs X b u):PS X (.If c a b pos) (tIfS tc t u):=by
 intro pins s σ H D I h
 refine wpAny_If (thn (hc pins s σ H _ I h) λd s1 ⟨H1,I1,q1⟩=>?_)
 cases d with
 | true=>exact ha pins s1 σ H1 D I1 q1
 | false=>exact hb pins s1 σ H1 D I1 q1
end
abbrev TG:=V->St->Hp->(St->Hp->Prop)->Prop
abbrev TGs:=List V->St->Hp->(St->Hp->Prop)->Prop
def PG (X:Cx) (target:Expr) (t:TG):Prop:=
 ∀ (pins:List (Addr×Obj)) (s:Shared) (σ:St) (H:Hp) (v:V) (u:Value) (Q:St->Hp->Prop),Inv X pins σ H s->RelV v u->t v σ H Q ->
  wpAny (model X.prog X.w) X.A (assign target X.env u) (λ_ s'=>∃ σ' H',Inv X pins σ' H' s'/\Q σ' H') X.xe s
def PGs (X:Cx) (ts:List Expr) (t:TGs):Prop:=
 ∀ (pins:List (Addr×Obj)) (s:Shared) (σ:St) (H:Hp) (vs:List V) (us:List Value) (Q:St->Hp->Prop),Inv X pins σ H s->Vals vs us->t vs σ H Q ->
  wpAny (model X.prog X.w) X.A (assignInOrder ((assignEach ts X.env).map (·.2)) us) (λ_ s'=>∃ σ' H',Inv X pins σ' H' s'/\Q σ' H') X.xe s
abbrev TSet:=V->V->V->Hp->(Hp->Prop)->Prop
def PSet (X:Cx) (t:TSet):Prop:=
 ∀ (pins:List (Addr×Obj)) (s:Shared) (σ:St) (H:Hp) (o i v:V) (ov iv u:Value) (Q:Hp->Prop),Inv X pins σ H s->RelV o ov->RelV i iv->RelV v u->t o i v H Q ->
  wpAny (model X.prog X.w) X.A (setItem ov iv u) (λ_ s'=>∃ H',Inv X pins σ H' s'/\Q H') X.xe s
abbrev TIp:=V->V->Hp->VK->Prop
def PIp (X:Cx) (op:Operator) (t:TIp):Prop:=
 ∀ (pins:List (Addr×Obj)) (s:Shared) (σ:St) (H:Hp) (x y:V) (v u:Value) (Q:VK),Inv X pins σ H s->RelV x v->RelV y u->t x y H Q ->
  wpAny (model X.prog X.w) X.A (inplaceOp op v u) (EP X pins σ Q) X.xe s
section
variable {X:Cx}{pos:Pos}
def gName (i:Nat):TG:=λv σ H Q=>Q (σ.set i (some v)) H
theorem xR {i:Nat}{x:Str} (hN:X.N.Nodup) (hi:X.N[i]?=some x) (hx:Loc X.env.scope x) (hf:X.fn x=true\/X.env.scope.names.lookup x=some .local:=by first | exact .inl rfl | exact .inr rfl | assumption):PG X (.Name x pos) (gName i):=by
 intro pins s σ H v u Q I r h
 exact wpAny_assign_Name (store_ok I hN hi hx r (λs' I'=>⟨_,H,I',h⟩) hf)
def gNil:TGs:=λvs σ H Q=>vs=[]/\Q σ H
def gCons (t:TG) (u:TGs):TGs:=λvs σ H Q=>∃ v r,vs=v::r/\t v σ H fun σ' H'=>u r σ' H' Q
theorem xy:PGs X [] gNil:=by
 intro pins s σ H vs us Q I r h
 obtain ⟨e,h⟩:=h
 subst e
 cases r
 exact assignInOrder_nil ⟨σ,H,I,h⟩
theorem xT {e:Expr}{es:List Expr}{t:TG}{u:TGs} (h1:PG X e t) (h2:PGs X es u)
  (hs:(assignEach (e::es) X.env).map (·.2)=assign e X.env::(assignEach es X.env).map (·.2):=by rfl):PGs X (e::es) (gCons t u):=by
 intro pins s σ H vs us Q I r h
 obtain ⟨v,vr,e1,h⟩:=h
 subst e1
 cases r with
 | cons r rr=>
  rw [hs]
  refine assignInOrder_cons (thn (h1 pins s σ H _ _ _ I r h) λ_ s1 ⟨σ1,H1,I1,q1⟩=>?_)
  exact h2 pins s1 σ1 H1 _ _ Q I1 rr q1
def gTup (K:PySem.W.Frag) (n:Nat) (t:TGs):TG:=λv σ H Q=>∃ a xs,v=.ref a/\SqT K H a xs/\xs.length=n/\t xs σ H Q
theorem pg_tup {es:List Expr}{k:Nat}{t:TGs}{n:Nat} (hc:X.calm=true) (h:PGs X es t)
  (hn:(assignEach es X.env).length=n:=by rfl) (hst:(assignEach es X.env).findIdx? (·.1)=none:=by rfl):PG X (.Tuple es k pos) (gTup X.K n t):=by
 intro pins s σ H v u Q I r hw
 obtain ⟨a,xs,e1,hq,hl,hw⟩:=hw
 subst e1
 cases r
 obtain ⟨its,rv,ht,hz⟩:=I.tuple hq
 refine assign_Tuple_tuple (I.ok.hd hc) ht (by simp [hn,<- hl,rv.length]) hst λh' hx=>?_
 have I1:Inv X pins σ H { s with heap:=h' }:=I.kept (t':=s.toks) λb o e=>hx b o (zS (Heap.lt_size e)) e
 exact h pins _ σ H xs _ Q I1 (by simpa using rv) hw
def gSub (to ti:TE) (t:TSet):TG:=λv σ H Q=>to σ H λo H1=>ti σ H1 λi H2=>t o i v H2 λH3=>Q σ H3
theorem pg_sub {o i:Expr}{to ti:TE}{t:TSet} (ho:PE X o to) (hi:PE X i ti) (hs:PSet X t)
  (ha:∀ v,assign (.Subscript o i pos) X.env v=(do
   let ov <- holding [v] (eval o X.env)
   let iv <- holding [v,ov] (eval i X.env)
   standAt pos
   holding [v,ov,iv] (setItem ov iv v)
   release [v,ov,iv] []):=by intro _;rfl):PG X (.Subscript o i pos) (gSub to ti t):=by
 intro pins s σ H v u Q I r h
 rw [ha]
 refine wpAny_bind (wpAny_holding (thn (ho pins s σ H _ I h) λov s1 ⟨x,H1,I1,r1,q1⟩=>?_))
 refine wpAny_bind (wpAny_holding (thn (hi pins s1 σ H1 _ I1 q1) λiv s2 ⟨y,H2,I2,r2,q2⟩=>?_))
 refine wpAny_bind (wpAny_standAt (wpAny_bind (wpAny_holding (thn (hs pins s2 σ H2 x y v ov iv u _ I2 r1 r2 r q2) λ_ s3 ⟨H3,I3,q3⟩=>?_))))
 exact wpAny_release ⟨σ,H3,I3,q3⟩
def tAsg (te:TE) (g:TG):TS:=λD σ H=>te σ H λx H1=>g x σ H1 D.nx
theorem wW {tg e:Expr}{te:TE}{g:TG} (he:PE X e te) (hg:PG X tg g) (hs:swapsWithSole [tg] e pos.line X.env=pure false:=by rfl) (hw:swappedStores [tg] e X.env=pure none:=by rfl)
  (h1:(assignEach [tg] X.env).map (·.2)=[assign tg X.env]:=by rfl):PS X (.Assign [tg] e pos) (tAsg te g):=by
 intro pins s σ H D I h
 refine wpAny_Assign_stores (thn (he pins s σ H _ I h) λv s1 ⟨x,H1,I1,r1,q1⟩=>?_) hs hw
 rw [h1]
 exact thn (hg pins s1 σ H1 x v _ I1 r1 q1) λ_ s2 q=>q
theorem xf {i:Nat}{x:Str}{e:Expr}{te:TE}{pos':Pos} (hN:X.N.Nodup) (hi:X.N[i]?=some x) (hx:Loc X.env.scope x) (he:PE X e te) (hs:swapsWith e (some (.Name x pos')) pos.line X.env=pure false:=by rfl) (hf:X.fn x=true\/X.env.scope.names.lookup x=some .local:=by first | exact .inl rfl | exact .inr rfl | assumption) :
  PS X (.Assign [.Name x pos'] e pos) (tAsg te (gName i)):=by
 intro pins s σ H D I h
 refine wpAny_Assign_Name (thn (he pins s σ H _ I h) λv s1 ⟨y,H1,I1,r1,q1⟩=>?_) hs
 exact store_ok I1 hN hi hx r1 (λs2 I2=>⟨_,H1,I2,q1⟩) hf
def tAugS (to ti te:TE) (tget:V->V->Hp->VK->Prop) (tip:TIp) (tset:TSet):TS:=λD σ H=>to σ H λo H1=>ti σ H1 λi H2=>tget o i H2 λx H3=>te σ H3 λy H4=>tip x y H4 λz H5=>tset o i z H5 λH6=>D.nx σ H6
def PGet (X:Cx) (t:V->V->Hp->VK->Prop):Prop:=
 ∀ (pins:List (Addr×Obj)) (s:Shared) (σ:St) (H:Hp) (o i:V) (ov iv:Value) (Q:VK),Inv X pins σ H s->RelV o ov->RelV i iv->t o i H Q ->
  wpAny (model X.prog X.w) X.A (getItem ov iv) (EP X pins σ Q) X.xe s
theorem ps_augS {o i e:Expr}{to ti te:TE}{tget:V->V->Hp->VK->Prop}{tip:TIp}{tset:TSet}{op:Operator}{tpos:Pos} (ho:PE X o to) (hi:PE X i ti) (hg:PGet X tget) (he:PE X e te) (hp:PIp X op tip) (hs:PSet X tset)
  (ha:∀ ov iv new,augStore i ov iv new=(do holding [new,ov,iv] (setItem ov iv new);release [new,ov,iv] [];pure .next):=by intros;rfl):PS X (.AugAssign (.Subscript o i tpos) op e pos) (tAugS to ti te tget tip tset):=by
 intro pins s σ H D I h
 refine wpAny_AugAssign_SubscriptAny (thn (ho pins s σ H _ I h) λov s1 ⟨x1,H1,I1,r1,q1⟩=>?_) ha
 refine thn (hi pins s1 σ H1 _ I1 q1) λiv s2 ⟨x2,H2,I2,r2,q2⟩=>?_
 refine thn (hg pins s2 σ H2 x1 x2 ov iv _ I2 r1 r2 q2) λold s3 ⟨x3,H3,I3,r3,q3⟩=>?_
 refine thn (he pins s3 σ H3 _ I3 q3) λv s4 ⟨x4,H4,I4,r4,q4⟩=>?_
 refine thn (hp pins s4 σ H4 x3 x4 old v _ I4 r3 r4 q4) λnew s5 ⟨x5,H5,I5,r5,q5⟩=>?_
 exact thn (hs pins s5 σ H5 x1 x2 x5 ov iv new _ I5 r1 r2 r5 q5) λ_ s6 ⟨H6,I6,q6⟩=>⟨σ,H6,I6,q6⟩
def ipI (f:Int->Int->Int):TIp:=λx y H Q=>∃ i j,x=.int i/\y=.int j/\Q (.int (f i j)) H
theorem ip_add:PIp X .Add (ipI λi j=>i + j):=by
 intro pins s σ H x y v u Q I r1 r2 h
 obtain ⟨i,j,e1,e2,q⟩:=h
 subst e1;subst e2
 obtain ⟨t,rfl⟩:=r1
 obtain ⟨t',rfl⟩:=r2
 exact iadd_int ⟨.int _,H,I.tok _,⟨_,rfl⟩,q⟩
theorem ip_sub:PIp X .Sub (ipI λi j=>i - j):=by
 intro pins s σ H x y v u Q I r1 r2 h
 obtain ⟨i,j,e1,e2,q⟩:=h
 subst e1;subst e2
 obtain ⟨t,rfl⟩:=r1
 obtain ⟨t',rfl⟩:=r2
 exact isub_int ⟨.int _,H,I.tok _,⟨_,rfl⟩,q⟩
end
section
variable {X:Cx}{pos:Pos}
end
structure It where
 go:Nat->Hp->Prop
 yld:Nat->Hp->V->Hp->Prop
 stop:Nat->Hp->Prop
def FpOk (X:Cx) (pins:List (Addr×Obj)) (H:Hp) (b:Addr):Prop:=
 H b=none/\b≠X.env.locals/\b ∉ X.fs/\(b∈X.ex\/X.s₀.heap.objs.size<=b)/\(∀ x c,X.env.cells.lookup x=some c->c≠b)/\∀ p∈X.pn++pins,p.1≠b
theorem Inv.fpOk {X:Cx}{pins:List (Addr×Obj)}{σ:St}{H H':Hp}{s:Shared}{b:Addr} (I:Inv X pins σ H s) (hb:s.heap.objs.size<=b) (hn:H' b=none):FpOk X pins H' b:=by
 refine ⟨hn,xA (zU I.lt hb),I.nofs hb,.inr (zk I.sz hb),λx c e z=>?_,λp hp z=>?_⟩
 ·obtain ⟨v,q⟩:=I.cell x c e
  exact absurd (zU q.lt (by rw [z];exact hb)) (zu _)
 ·exact absurd (zU (Heap.lt_size (I.pin p hp).1) (by rw [z];exact hb)) (zu _)
structure Turn (P:Program) (w:World) (K:PySem.W.Frag) (tg:Expr) (J:It) (fp:List Addr) (it:Addr) (tn:Nat->Heap->Prop):Prop where
 mem:it∈fp
 obj:∀ i h,tn i h->∀ b∈fp,∃ o,h.get? b=some o/\∀ v,o.data≠.cell v
 keep:∀ i h h',tn i h->(∀ b∈fp,∀ o,h.get? b=some o->h'.get? b=some o)->tn i h'
 item:∀ (X:Cx),X.prog=P->X.w=w->X.K=K->X.calm=true->∀ (i:Nat) (pins:List (Addr×Obj)) (s:Shared) (σ:St) (H:Hp) (E:Value->Shared->Prop),Inv X pins σ H s->(∀ b∈fp,FpOk X pins H b)->tn i s.heap->J.go i H ->
  wpAny (model P w) X.A (pyNext (.ref it)) (λr s1=>∃ u,r=some u /\
   wpAny (model P w) X.A (letOwnedTupleGo tg (.ref it) u) (λ_ s2=>∃ x H',Inv X pins σ H' s2/\RelV x u/\J.yld i H x H'/\tn (i + 1) s2.heap/\∀ b∈fp,H' b=none) E s1) E s
 done:∀ (X:Cx),X.prog=P->X.w=w->X.K=K->X.calm=true->∀ (i:Nat) (pins:List (Addr×Obj)) (s:Shared) (σ:St) (H:Hp) (E:Value->Shared->Prop),Inv X pins σ H s->(∀ b∈fp,FpOk X pins H b)->tn i s.heap->J.stop i H ->
  wpAny (model P w) X.A (pyNext (.ref it)) (λr s1=>r=none/\Inv X pins σ H s1) E s
 self:∀ (A:Around) (i:Nat) (s:Shared) (Q:Value->Shared->Prop) (E:Value->Shared->Prop),tn i s.heap->Q (.ref it) s->wpAny (model P w) A (pyIter (.ref it)) Q E s
abbrev TI:=St->Hp->(It->Hp->Prop)->Prop
def PIE (X:Cx) (pins:List (Addr×Obj)) (σ:St) (tg:Expr) (R:It->Hp->Prop) (itv:Value) (s2:Shared):Prop:=
 ∃ (it:Addr) (fp:List Addr) (tn:Nat->Heap->Prop) (J:It) (H':Hp),itv=.ref it/\Inv X pins σ H' s2/\Turn X.prog X.w X.K tg J fp it tn/\tn 0 s2.heap/\(∀ b∈fp,FpOk X pins H' b)/\R J H'
def PI (X:Cx) (tg iter:Expr) (wi:TI):Prop:=
 ∀ (pins:List (Addr×Obj)) (s:Shared) (σ:St) (H:Hp) (R:It->Hp->Prop),Inv X pins σ H s->wi σ H R ->
  wpAny (model X.prog X.w) X.A (eval iter X.env) (λv s1=>wpAny (model X.prog X.w) X.A (pyIter v) (PIE X pins σ tg R) X.xe s1) X.xe s
theorem go_of {M:Model}{A:Around}{E:Value->Shared->Prop}{s:Shared}{tg:Expr}{it:Addr}{u:Value}{o:Obj}{n:String}{vs:Array Value}{Q:Unit->Shared->Prop} (ho:s.heap.get? it=some o) (hc:o.cls=.type n) (hd:o.data=.fields vs)
    (hn:["enumerate", "zip", "dict_itemiterator", "dict_reverseitemiterator", "odict_iterator", "itertools.zip_longest", "itertools.pairwise"].contains n=false) (hQ:Q () s):wpAny M A (letOwnedTupleGo tg (.ref it) u) Q E s:=by
  unfold letOwnedTupleGo
  cases tg <;> first
    | exact wpAny_pure hQ
    | (cases u <;> first
        | exact wpAny_pure hQ
        | (refine wpAny_bind (wpAny_load ho ?_)
           rw [hc,hd]
           show wpAny M A (if (["enumerate", "zip", "dict_itemiterator", "dict_reverseitemiterator", "odict_iterator", "itertools.zip_longest", "itertools.pairwise"].contains n && vs[0]? == some (rawInt _))=true then _ else _) Q E s
           rw [if_neg (by intro h;rw [hn,yJ] at h;cases h)]
           exact wpAny_pure hQ))
def Itl (K:PySem.W.Frag) (a:Addr):It:=
 ⟨λi H=>∃ xs x,SqL K H a xs/\xs[i]?=some x,λi H x H'=>H'=H/\∀ xs,SqL K H a xs->xs[i]?=some x,λi H=>∃ xs,SqL K H a xs/\xs.length<=i⟩
def Itt (K:PySem.W.Frag) (a:Addr):It:=
 ⟨λi H=>∃ xs x,SqT K H a xs/\xs[i]?=some x,λi H x H'=>H'=H/\∀ xs,SqT K H a xs->xs[i]?=some x,λi H=>∃ xs,SqT K H a xs/\xs.length<=i⟩
def Itr (lo:Int) (n:Nat):It:=⟨λi _=>i < n,λi H x H'=>H'=H/\x=.int (lo + i),λi _=>n<=i⟩
theorem turn_list {P:Program}{w:World}{K:PySem.W.Frag}{tg:Expr} (a it:Addr):Turn P w K tg (Itl K a) [it] it (λi h=>h.IsListIter it a i) where
 mem:=by simp
 obj:=λi h st b hb=>by
  have e:b=it:=by simpa using hb
  subst e
  obtain ⟨o,e,c,d⟩:=st
  exact ⟨o,e,λv z=>by rw [d] at z;cases z⟩
 keep:=λi h h' st k=>st.at λo e=>k it (by simp) o e
 item:=by
  intro X hP hw hK hc i pins s σ H E I hf st hg
  subst hP hw hK
  obtain ⟨xs,x,hq,hx⟩:=hg
  obtain ⟨its,rv,p,hz⟩:=I.list hq
  obtain ⟨u,hu,ru⟩:=rv.get hx
  obtain ⟨f0,f1,f2,f3,f4,f5⟩:=hf it (by simp)
  refine wpAny_pyNext_list_item st p.isList (x:=u) (by simpa using hu) λh' st' sb=>?_
  have I1:Inv X pins σ H { s with heap:=h' }:=I.turned (t':=s.toks) (λb o hb e=>(sb.2 b hb).trans e) f0 f1 f3 f4 f5
  obtain ⟨o,e,c,d⟩:=id st'
  exact ⟨u,rfl,go_of (s:={ s with heap:=h' }) e c d (by decide) ⟨x,H,I1,ru,⟨rfl,λys hy=>by rw [I.list_inj hy hq];exact hx⟩,st',λb hb=>(hf b hb).1⟩⟩
 done:=by
  intro X hP hw hK hc i pins s σ H E I hf st hg
  subst hP hw hK
  obtain ⟨xs,hq,hx⟩:=hg
  obtain ⟨its,rv,p,hz⟩:=I.list hq
  obtain ⟨f0,f1,f2,f3,f4,f5⟩:=hf it (by simp)
  have hl:=rv.length
  exact wpAny_pyNext_list_end (I.ok.hd hc) st p.isList (by simp;omega) λh' eb=>⟨rfl,I.turned (t':=s.toks) (λb o hb e=>eb b o hb e) f0 f1 f3 f4 f5⟩
 self:=λ_ _ _ _ _ st h=>wpAny_pyIter_listiter st h
theorem turn_tuple {P:Program}{w:World}{K:PySem.W.Frag}{tg:Expr} (a it:Addr):Turn P w K tg (Itt K a) [it] it (λi h=>h.IsTupleIter it a i) where
 mem:=by simp
 obj:=λi h st b hb=>by
  have e:b=it:=by simpa using hb
  subst e
  obtain ⟨o,e,c,d⟩:=st
  exact ⟨o,e,λv z=>by rw [d] at z;cases z⟩
 keep:=λi h h' st k=>st.at λo e=>k it (by simp) o e
 item:=by
  intro X hP hw hK hc i pins s σ H E I hf st hg
  subst hP hw hK
  obtain ⟨xs,x,hq,hx⟩:=hg
  obtain ⟨its,rv,p,hz⟩:=I.tuple hq
  obtain ⟨u,hu,ru⟩:=rv.get hx
  obtain ⟨f0,f1,f2,f3,f4,f5⟩:=hf it (by simp)
  refine wpAny_pyNext_tuple_item st (show s.heap.IsTuple a its.toArray from p) (x:=u) (by simpa using hu) λh' st' sb=>?_
  have I1:Inv X pins σ H { s with heap:=h' }:=I.turned (t':=s.toks) (λb o hb e=>(sb.2 b hb).trans e) f0 f1 f3 f4 f5
  obtain ⟨o,e,c,d⟩:=id st'
  exact ⟨u,rfl,go_of (s:={ s with heap:=h' }) e c d (by decide) ⟨x,H,I1,ru,⟨rfl,λys hy=>by rw [I.tuple_inj hy hq];exact hx⟩,st',λb hb=>(hf b hb).1⟩⟩
 done:=by
  intro X hP hw hK hc i pins s σ H E I hf st hg
  subst hP hw hK
  obtain ⟨xs,hq,hx⟩:=hg
  obtain ⟨its,rv,p,hz⟩:=I.tuple hq
  obtain ⟨f0,f1,f2,f3,f4,f5⟩:=hf it (by simp)
  have hl:=rv.length
  exact wpAny_pyNext_tuple_end (I.ok.hd hc) st (show s.heap.IsTuple a its.toArray from p) (by simp;omega) λh' eb=>⟨rfl,I.turned (t':=s.toks) (λb o hb e=>eb b o hb e) f0 f1 f3 f4 f5⟩
 self:=λ_ _ _ _ _ st h=>wpAny_pyIter_tupleiter st h
theorem turn_range {P:Program}{w:World}{K:PySem.W.Frag}{tg:Expr} (it:Addr) (lo:Int) (n:Nat):Turn P w K tg (Itr lo n) [it] it (λi h=>IsRangeIter h it (lo + (i:Nat) * 1) ((n:Int) - (i:Nat)) 1) where
 mem:=by simp
 obj:=λi h st b hb=>by
  have e:b=it:=by simpa using hb
  subst e
  exact ⟨_,st,λv z=>by
   have z':Data.fields _=Data.cell v:=z
   cases z'⟩
 keep:=λi h h' st k=>k it (by simp) _ st
 item:=by
  intro X hP hw hK hc i pins s σ H E I hf st hg
  subst hP hw hK
  obtain ⟨f0,f1,f2,f3,f4,f5⟩:=hf it (by simp)
  have W:=Walks.range (prog:=X.prog) (w:=X.w) (I.ok.hd hc) it lo 1 n
  refine W.item i s _ _ hg st λv h' tk hv st' kk=>?_
  obtain ⟨t,rfl⟩:=hv
  have I1:Inv X pins σ H { s with heap:=h',toks:=tk }:=I.turned (λb o hb e=>kk b o (by simpa using hb) e) f0 f1 f3 f4 f5
  refine ⟨_,rfl,go_of (s:={ s with heap:=h',toks:=tk }) (n := "range_iterator") st' rfl rfl (by decide) ⟨.int (lo + i),H,I1,⟨t,?_⟩,⟨rfl,rfl⟩,st',λb hb=>(hf b hb).1⟩⟩
  rw [Int.mul_one]
 done:=by
  intro X hP hw hK hc i pins s σ H E I hf st hg
  subst hP hw hK
  obtain ⟨f0,f1,f2,f3,f4,f5⟩:=hf it (by simp)
  exact wpAny_pyNext_range_end (I.ok.hd hc) st (by have:n<=i:=hg;omega) λh' eb=>⟨rfl,I.turned (t':=s.toks) (λb o hb e=>eb b o hb e) f0 f1 f3 f4 f5⟩
 self:=λ_ _ _ _ _ st h=>wpAny_pyIter_rangeiter st h
end L2
namespace L2
open PySem PySem.Spec PyProof.Rows
section
variable {X:Cx}{tg:Expr}
def iList (K:PySem.W.Frag) (tl:TE):TI:=fun σ H R=>tl σ H λx H1=>∃ a,x=.ref a/\(∃ xs,SqL K H1 a xs)/\R (Itl K a) H1
def iTup (K:PySem.W.Frag) (tl:TE):TI:=fun σ H R=>tl σ H λx H1=>∃ a,x=.ref a/\(∃ xs,SqT K H1 a xs)/\R (Itt K a) H1
theorem pi_list {l:Expr}{tl:TE} (hl:PE X l tl):PI X tg l (iList X.K tl):=by
 intro pins s σ H R I h
 refine thn (hl pins s σ H _ I h) λv s1 ⟨x,H1,I1,r1,q1⟩=>?_
 obtain ⟨a,e,⟨xs,hq⟩,q⟩:=q1
 subst e
 cases r1
 obtain ⟨its,rv,p,hz⟩:=I1.list hq
 refine wpAny_pyIter_list p.isList ?_
 refine ⟨s1.heap.objs.size,[s1.heap.objs.size],_,_,H1,rfl,I1.kept (t':=s1.toks) λb o e=>Heap.get?_push_of_some _ e,turn_list a _,⟨_,Heap.get?_push_size _ rfl,rfl,rfl⟩,λb hb=>?_,q⟩
 have e:b=s1.heap.objs.size:=by simpa using hb
 subst e
 exact I1.fpOk (zK _) (I1.hok.fresh (zK _))
theorem pi_tup {l:Expr}{tl:TE} (hl:PE X l tl):PI X tg l (iTup X.K tl):=by
 intro pins s σ H R I h
 refine thn (hl pins s σ H _ I h) λv s1 ⟨x,H1,I1,r1,q1⟩=>?_
 obtain ⟨a,e,⟨xs,hq⟩,q⟩:=q1
 subst e
 cases r1
 obtain ⟨its,rv,p,hz⟩:=I1.tuple hq
 refine wpAny_pyIter_tuple (show s1.heap.IsTuple a its.toArray from p) ?_
 refine ⟨s1.heap.objs.size,[s1.heap.objs.size],_,_,H1,rfl,I1.kept (t':=s1.toks) λb o e=>Heap.get?_push_of_some _ e,turn_tuple a _,⟨_,Heap.get?_push_size _ rfl,rfl,rfl⟩,λb hb=>?_,q⟩
 have e:b=s1.heap.objs.size:=by simpa using hb
 subst e
 exact I1.fpOk (zK _) (I1.hok.fresh (zK _))
theorem range_it {pins:List (Addr×Obj)}{σ:St}{H:Hp}{s:Shared}{R:It->Hp->Prop}{E:Value->Shared->Prop}{lo hi:Int}{t u v:Tok}{tk:Nat} (I:Inv X pins σ H s) (h1:-(2 ^ 62)<=lo) (h2:lo < 2 ^ 62) (h3:-(2 ^ 62)<=hi) (h4:hi < 2 ^ 62)
  (q:R (Itr lo (hi - lo).toNat) H):wpAny (model X.prog X.w) X.A (pyIter (.ref s.heap.objs.size)) (PIE X pins σ tg R) E { s with heap:=s.heap.push { cls:=.type "range", data:=.fields #[.int lo t,.int hi u,.int 1 v] },toks:=tk }:=by
 refine wpAny_pyIter_range (IsRange.new ..) (small_one h1 h2 h3 h4) ?_
 have I1:Inv X pins σ H { s with heap:=s.heap.push { cls:=.type "range", data:=.fields #[.int lo t,.int hi u,.int 1 v] },toks:=tk }:=I.kept λb o e=>Heap.get?_push_of_some _ e
 refine ⟨(s.heap.push { cls:=.type "range", data:=.fields #[.int lo t,.int hi u,.int 1 v] }).objs.size,[(s.heap.push { cls:=.type "range", data:=.fields #[.int lo t,.int hi u,.int 1 v] }).objs.size],_,_,H,rfl,
  I1.kept (t':=tk) λb o e=>Heap.get?_push_of_some _ e,turn_range _ lo (hi - lo).toNat,?_,λb hb=>?_,q⟩
 ·have e1:lo + ((0:Nat):Int) * 1=lo:=by simp
  have e2:(((hi - lo).toNat:Nat):Int) - ((0:Nat):Int)=Builtin.Range.rangeSize lo hi 1:=by rw [rangeSize_one];split <;> omega
  show IsRangeIter _ _ (lo + ((0:Nat):Int) * 1) ((((hi - lo).toNat:Nat):Int) - ((0:Nat):Int)) 1
  rw [e1,e2]
  exact Heap.get?_push_size _ rfl
 ·have e:b=(s.heap.push { cls:=.type "range", data:=.fields #[.int lo t,.int hi u,.int 1 v] }).objs.size:=by simpa using hb
  subst e
  exact I1.fpOk (zK _) (I1.hok.fresh (zK _))
def iRng1 (ta:TA):TI:=fun σ H R=>ta σ H λvs H1=>∃ j:Int,vs=[.int j]/\-(2 ^ 62)<=j/\j < 2 ^ 62/\R (Itr 0 j.toNat) H1
theorem wN {a:Expr}{ta:TA}{p pos:Pos} (hg:Gl X "range") (hm:X.mg "range" = none) (ha:PA X [a] ta) (hs:starEach [a] X.env=[(false,eval a X.env)]:=by rfl):PI X tg (.Call (.Name "range" p) [a] [] pos) (iRng1 ta):=by
 intro pins s σ H R I h
 refine Call_ (ld_blt I hg hm boot_range (PyProof.Rows.callWith_type1 (thn (ha pos pins s σ H _ I h) λus s1 ⟨vs,H1,I1,r1,q1⟩=>?_) hs rfl))
 obtain ⟨j,e,q1,q2,q⟩:=q1
 subst e
 cases r1 with
 | cons r rr=>
  cases rr
  obtain ⟨t,rfl⟩:=r
  exact call_range_1 (range_it I1 (by omega) (by omega) q1 q2 (by simpa using q))
def tFor (wi:TI) (g:TG) (tb:TS):TS:=λD σ H=>wi σ H λJ H1=>∃ W:Nat->Nat->St->Hp->Prop,(∃ m,W 0 m σ H1)/\∀ i m σ H,W i m σ H ->
 (J.stop i H/\D.nx σ H)\/(J.go i H/\∃ N:St->Hp->Prop,(∀ σ' H',N σ' H'->∃ m',m' < m/\W (i + 1) m' σ' H')/\∀ x H',J.yld i H x H'->g x σ H' fun σ2 H2=>tb { D with nx:=N,ct:=N,bk:=D.nx } σ2 H2)
def pinsAt (fp:List Addr) (h:Heap):List (Addr×Obj):=fp.filterMap λb=>(h.get? b).map λo=>(b,o)
theorem wX {fp:List Addr}{h:Heap}{b:Addr}{o:Obj} (hb:b∈fp) (e:h.get? b=some o):(b,o)∈pinsAt fp h:=yn.mpr ⟨b,hb,by rw [e];rfl⟩
theorem of_pinsAt {fp:List Addr}{h:Heap}{p:Addr×Obj} (hp:p∈pinsAt fp h):p.1∈fp/\h.get? p.1=some p.2:=by
 obtain ⟨b,hb,e⟩:=yn.mp hp
 cases q:h.get? b with
 | none=>rw [q] at e;cases e
 | some o=>
  rw [q] at e
  have e':(b,o)=p:=Option.some.inj e
  subst e'
  exact ⟨hb,q⟩
theorem Inv.pinned {pins:List (Addr×Obj)}{σ:St}{H:Hp}{s:Shared}{fp:List Addr} (I:Inv X pins σ H s) (hf:∀ b∈fp,FpOk X pins H b) (ho:∀ b∈fp,∃ o,s.heap.get? b=some o/\∀ v,o.data≠.cell v):Inv X (pins++pinsAt fp s.heap) σ H s:=
 I.pins_of λp hp=>(ze.mp hp).elim (λz=>I.pin p (zT _ z)) λz=>by
  obtain ⟨hb,e⟩:=of_pinsAt z
  obtain ⟨f0,f1,f2,_⟩:=hf p.1 hb
  obtain ⟨o,e',d⟩:=ho p.1 hb
  rw [e] at e';cases e'
  exact ⟨e,f0,f1,f2,d⟩
theorem Inv.unpinned {pins pl:List (Addr×Obj)}{σ:St}{H:Hp}{s:Shared} (I:Inv X (pins++pl) σ H s):Inv X pins σ H s:=I.pins_of λp hp=>I.pin p (zT _ (yd _ hp))
theorem wd {iter:Expr}{body:List Stmt}{wi:TI}{g:TG}{tb:TS}{pos:Pos} (hp:PassesOwn (model X.prog X.w) X.A X.env X.xe) (hc:X.calm=true) (hi:PI X tg iter wi) (hg:PG X tg g) (hb:PSs X body tb)
  (hs:∀ x,foldedSetIterable iter X.env x=pure x:=by intro _;rfl):PS X (.For tg iter body [] pos) (tFor wi g tb):=by
 intro pins s σ H D I h
 refine wpAny_For (thn (hi pins s σ H _ I h) λv s1 h1=>thn h1 λitv s2 h2=>?_) hs
 obtain ⟨it,fp,tn,J,H2,e,I2,T,st2,f2,W,⟨m0,w0⟩,turn⟩:=h2
 subst e
 -- what stays true of the iterator's objects through the loop
 have stat:∀ {H':Hp},(∀ b∈fp,H' b=none)->∀ b∈fp,FpOk X pins H' b:=λhn b hb=>⟨hn b hb,(f2 b hb).2⟩
 refine codeAny_forLoop_any (λn s'=>∃ i σ' H',Inv X pins σ' H' s'/\tn i s'.heap/\(∀ b∈fp,H' b=none)/\W i n σ' H') ?_ m0 ⟨0,σ,H2,I2,st2,λb hb=>(f2 b hb).1,w0⟩
 rintro n s3 ⟨i,σ3,H3,I3,st3,fr3,w3⟩
 rcases turn i n σ3 H3 w3 with ⟨stop,qn⟩ | ⟨go,N,hN,step⟩
 ·refine wpAny_passesOwn hp (thn (T.done X rfl rfl rfl hc i pins s3 σ3 H3 X.xe I3 (stat fr3) st3 stop) λr s4 ⟨hr,I4⟩=>?_)
  subst hr
  exact wpAny_execs_nil ⟨σ3,H3,I4,qn⟩
 ·refine wpAny_passesOwn hp (thn (T.item X rfl rfl rfl hc i pins s3 σ3 H3 X.xe I3 (stat fr3) st3 go) λr s4 ⟨u,hr,h4⟩=>?_)
  subst hr
  refine wpAny_passesOwn hp (thn h4 λ_ s5 ⟨x,H5,I5,r5,y5,st5,fr5⟩=>?_)
  have I5':=I5.pinned (stat fr5) (T.obj _ _ st5)
  refine wpAny_passesOwn hp (thn (hg _ s5 σ3 H5 x u _ I5' r5 (step x H5 y5)) λ_ s6 ⟨σ6,H6,I6,q6⟩=>?_)
  refine wpAny_passesOwn hp (thn (hb _ s6 σ6 H6 _ I6 q6) λf s7 q7=>?_)
  have again:∀ {σ7:St} {H7:Hp},Inv X (pins++pinsAt fp s5.heap) σ7 H7 s7->N σ7 H7->∃ m,m < n/\∃ i σ' H',Inv X pins σ' H' s7/\tn i s7.heap/\(∀ b∈fp,H' b=none)/\W i m σ' H':=λ{σ7 H7} I7 n7=>by
   obtain ⟨m',hm,w7⟩:=hN σ7 H7 n7
   refine ⟨m',hm,i + 1,σ7,H7,I7.unpinned,T.keep _ _ _ st5 λb hb o e=>(I7.pin (b,o) (zT _ (zT _ (wX hb e)))).1,λb hb=>?_,w7⟩
   obtain ⟨o,e,d⟩:=T.obj _ _ st5 b hb
   exact (I7.pin (b,o) (zT _ (zT _ (wX hb e)))).2.1
  cases f with
  | next=>obtain ⟨σ7,H7,I7,n7⟩:=q7;exact again I7 n7
  | cont=>obtain ⟨σ7,H7,I7,n7⟩:=q7;exact again I7 n7
  | brk=>obtain ⟨σ7,H7,I7,q7⟩:=q7;exact ⟨σ7,H7,I7.unpinned,q7⟩
  | ret v=>obtain ⟨x7,σ7,H7,I7,r7,q7⟩:=q7;exact ⟨x7,σ7,H7,I7.unpinned,r7,q7⟩
end
theorem for_list {K:PySem.W.Frag}{a:Addr}{xs:List V}{g:TG}{tb:TS}{D:Ends}{σ:St}{H:Hp} (Pv:Nat->St->Hp->Prop) (h0:Pv 0 σ H) (hl:∀ i σ H,i<=xs.length->Pv i σ H->SqL K H a xs)
  (hs:∀ i x σ H,xs[i]?=some x->Pv i σ H->g x σ H fun σ2 H2=>tb { D with nx:=Pv (i + 1),ct:=Pv (i + 1),bk:=D.nx } σ2 H2) (hd:∀ σ H,Pv xs.length σ H->D.nx σ H) :
  ∃ W:Nat->Nat->St->Hp->Prop,(∃ m,W 0 m σ H)/\∀ i m σ H,W i m σ H ->
   ((Itl K a).stop i H/\D.nx σ H)\/((Itl K a).go i H/\∃ N:St->Hp->Prop,(∀ σ' H',N σ' H'->∃ m',m' < m/\W (i + 1) m' σ' H')/\∀ x H',(Itl K a).yld i H x H'->g x σ H' fun σ2 H2=>tb { D with nx:=N,ct:=N,bk:=D.nx } σ2 H2):=by
 refine ⟨λi m σ H=>m=xs.length - i/\i<=xs.length/\Pv i σ H,⟨xs.length,by simp,zZ _,h0⟩,?_⟩
 rintro i m σ H ⟨rfl,hi,p⟩
 have q:=hl i σ H hi p
 by_cases hlt:i < xs.length
 ·refine .inr ⟨⟨xs,xs[i],q,by simp [hlt]⟩,Pv (i + 1),fun σ' H' p'=>⟨xs.length - (i + 1),by omega,rfl,hlt,p'⟩,λx H' y=>?_⟩
  obtain ⟨e,y⟩:=y
  subst e
  exact hs i x σ _ (y xs q) p
 ·have e:i=xs.length:=by omega
  subst e
  exact .inl ⟨⟨xs,q,zK _⟩,hd σ H p⟩
theorem for_tup {K:PySem.W.Frag}{a:Addr}{xs:List V}{g:TG}{tb:TS}{D:Ends}{σ:St}{H:Hp} (Pv:Nat->St->Hp->Prop) (h0:Pv 0 σ H) (hl:∀ i σ H,i<=xs.length->Pv i σ H->SqT K H a xs)
  (hs:∀ i x σ H,xs[i]?=some x->Pv i σ H->g x σ H fun σ2 H2=>tb { D with nx:=Pv (i + 1),ct:=Pv (i + 1),bk:=D.nx } σ2 H2) (hd:∀ σ H,Pv xs.length σ H->D.nx σ H) :
  ∃ W:Nat->Nat->St->Hp->Prop,(∃ m,W 0 m σ H)/\∀ i m σ H,W i m σ H ->
   ((Itt K a).stop i H/\D.nx σ H)\/((Itt K a).go i H/\∃ N:St->Hp->Prop,(∀ σ' H',N σ' H'->∃ m',m' < m/\W (i + 1) m' σ' H')/\∀ x H',(Itt K a).yld i H x H'->g x σ H' fun σ2 H2=>tb { D with nx:=N,ct:=N,bk:=D.nx } σ2 H2):=by
 refine ⟨λi m σ H=>m=xs.length - i/\i<=xs.length/\Pv i σ H,⟨xs.length,by simp,zZ _,h0⟩,?_⟩
 rintro i m σ H ⟨rfl,hi,p⟩
 have q:=hl i σ H hi p
 by_cases hlt:i < xs.length
 ·refine .inr ⟨⟨xs,xs[i],q,by simp [hlt]⟩,Pv (i + 1),fun σ' H' p'=>⟨xs.length - (i + 1),by omega,rfl,hlt,p'⟩,λx H' y=>?_⟩
  obtain ⟨e,y⟩:=y
  subst e
  exact hs i x σ _ (y xs q) p
 ·have e:i=xs.length:=by omega
  subst e
  exact .inl ⟨⟨xs,q,zK _⟩,hd σ H p⟩
theorem for_range {lo:Int}{n:Nat}{g:TG}{tb:TS}{D:Ends}{σ:St}{H:Hp} (Pv:Nat->St->Hp->Prop) (h0:Pv 0 σ H)
  (hs:∀ i σ H,i < n->Pv i σ H->g (.int (lo + i)) σ H fun σ2 H2=>tb { D with nx:=Pv (i + 1),ct:=Pv (i + 1),bk:=D.nx } σ2 H2) (hd:∀ σ H,Pv n σ H->D.nx σ H) :
  ∃ W:Nat->Nat->St->Hp->Prop,(∃ m,W 0 m σ H)/\∀ i m σ H,W i m σ H ->
   ((Itr lo n).stop i H/\D.nx σ H)\/((Itr lo n).go i H/\∃ N:St->Hp->Prop,(∀ σ' H',N σ' H'->∃ m',m' < m/\W (i + 1) m' σ' H')/\∀ x H',(Itr lo n).yld i H x H'->g x σ H' fun σ2 H2=>tb { D with nx:=N,ct:=N,bk:=D.nx } σ2 H2):=by
 refine ⟨λi m σ H=>m=n - i/\i<=n/\Pv i σ H,⟨n,by simp,zZ _,h0⟩,?_⟩
 rintro i m σ H ⟨rfl,hi,p⟩
 by_cases hlt:i < n
 ·refine .inr ⟨hlt,Pv (i + 1),fun σ' H' p'=>⟨n - (i + 1),by omega,rfl,hlt,p'⟩,λx H' y=>?_⟩
  obtain ⟨e,y⟩:=y
  subst e y
  exact hs i σ _ hlt p
 ·have e:i=n:=by omega
  subst e
  exact .inl ⟨zK _,hd σ H p⟩
end L2
namespace L2
open PySem PySem.Spec PyProof.Rows
abbrev R2:=V->V->Hp->VK->Prop
def OpR (X:Cx) (f:Value->Value->Sem Value) (r:R2):Prop:=
 ∀ (pins:List (Addr×Obj)) (s:Shared) (σ:St) (H:Hp) (x y:V) (v u:Value) (Q:VK),Inv X pins σ H s->RelV x v->RelV y u->r x y H Q ->
  wpAny (model X.prog X.w) X.A (f v u) (EP X pins σ Q) X.xe s
def UnR (X:Cx) (f:Value->Sem Value) (r:V->Hp->VK->Prop):Prop:=
 ∀ (pins:List (Addr×Obj)) (s:Shared) (σ:St) (H:Hp) (x:V) (v:Value) (Q:VK),Inv X pins σ H s->RelV x v->r x H Q ->
  wpAny (model X.prog X.w) X.A (f v) (EP X pins σ Q) X.xe s
def CallR (X:Cx) (f:Value) (r:List V->Hp->VK->Prop):Prop:=
 ∀ (pins:List (Addr×Obj)) (s:Shared) (σ:St) (H:Hp) (xs:List V) (us:List Value) (Q:VK),Inv X pins σ H s->Vals xs us->r xs H Q ->
  wpAny (model X.prog X.w) X.A (call f us) (EP X pins σ Q) X.xe s
def tOp (r:R2) (ta tb:TE):TE:=fun σ H Q=>ta σ H λx H1=>tb σ H1 λy H2=>r x y H2 Q
def tUn (r:V->Hp->VK->Prop) (ta:TE):TE:=fun σ H Q=>ta σ H λx H1=>r x H1 Q
def rI (C:Int->Int->Prop) (g:Int->Int->V):R2:=λx y H Q=>∃ i j,x=.int i/\y=.int j/\C i j/\Q (g i j) H
def rI0 (g:Int->Int->V):R2:=λx y H Q=>∃ i j,x=.int i/\y=.int j/\Q (g i j) H
def rU (g:Int->V):V->Hp->VK->Prop:=λx H Q=>∃ i,x=.int i/\Q (g i) H
section
variable {X:Cx}{a b c:Expr}{ta tb tc:TE}{pos:Pos}
theorem binT (ha:PE X a ta) (hb:PE X b tb) {pins:List (Addr×Obj)}{s:Shared}{σ:St}{H:Hp}{R:V->V->Hp->Prop} (I:Inv X pins σ H s)
  (h:ta σ H λx H1=>tb σ H1 λy H2=>R x y H2) {Q:Value->Shared->Prop}{f:Value->Value->Sem Value}
  (hf:∀ v u s2 x y H2,Inv X pins σ H2 s2->RelV x v->RelV y u->R x y H2->wpAny (model X.prog X.w) X.A (f v u) Q X.xe s2) :
  wpAny (model X.prog X.w) X.A (eval a X.env) (λv s₁=>wpAny (model X.prog X.w) X.A (eval b X.env) (λu s₂=>wpAny (model X.prog X.w) X.A (f v u) Q X.xe s₂) X.xe s₁) X.xe s:=by
 refine thn (ha pins s σ H _ I h) λv s1 ⟨x,H1,I1,r1,q1⟩=>?_
 refine thn (hb pins s1 σ H1 _ I1 q1) λu s2 ⟨y,H2,I2,r2,q2⟩=>?_
 exact hf v u s2 x y H2 I2 r1 r2 q2
theorem xh {op:Operator}{r:R2} (ho:OpR X (binaryOp op) r) (ha:PE X a ta) (hb:PE X b tb):PE X (.BinOp a op b pos) (tOp r ta tb):=by
 intro pins s σ H Q I h
 exact wpAny_BinOp (binT ha hb I h λv u s2 x y H2 I2 rx ry q=>ho pins s2 σ H2 x y v u Q I2 rx ry q)
theorem pe_un {op:UnaryOp}{r:V->Hp->VK->Prop} (ho:UnR X (unaryOp op) r) (ha:PE X a ta):PE X (.UnaryOp op a pos) (tUn r ta):=by
 intro pins s σ H Q I h
 exact UnaryOp_ (thn (ha pins s σ H _ I h) λv s1 ⟨x,H1,I1,r1,q1⟩=>ho pins s1 σ H1 x v Q I1 r1 q1)
theorem opI {f:Value->Value->Sem Value}{C:Int->Int->Prop}{g:Int->Int->Int}
  (rule:∀ (i j:Int) (t u:Tok) (s:Shared) (Q:Value->Shared->Prop) (E:Value->Shared->Prop),C i j->Q (.int (g i j) s.toks) { s with toks:=s.toks + 1 }->wpAny (model X.prog X.w) X.A (f (.int i t) (.int j u)) Q E s) :
  OpR X f (rI C λi j=>.int (g i j)):=by
 intro pins s σ H x y v u Q I rx ry h
 obtain ⟨i,j,rfl,rfl,hc,q⟩:=h
 obtain ⟨t,rfl⟩:=rx
 obtain ⟨t',rfl⟩:=ry
 exact rule i j t t' s _ _ hc ⟨.int (g i j),H,I.tok _,⟨_,rfl⟩,q⟩
theorem opI0 {f:Value->Value->Sem Value}{g:Int->Int->Int}
  (rule:∀ (i j:Int) (t u:Tok) (s:Shared) (Q:Value->Shared->Prop) (E:Value->Shared->Prop),Q (.int (g i j) s.toks) { s with toks:=s.toks + 1 }->wpAny (model X.prog X.w) X.A (f (.int i t) (.int j u)) Q E s) :
  OpR X f (rI0 λi j=>.int (g i j)):=by
 intro pins s σ H x y v u Q I rx ry h
 obtain ⟨i,j,rfl,rfl,q⟩:=h
 obtain ⟨t,rfl⟩:=rx
 obtain ⟨t',rfl⟩:=ry
 exact rule i j t t' s _ _ ⟨.int (g i j),H,I.tok _,⟨_,rfl⟩,q⟩
theorem opB0 {f:Value->Value->Sem Value}{g:Int->Int->Bool}
  (rule:∀ (i j:Int) (t u:Tok) (s:Shared) (Q:Value->Shared->Prop) (E:Value->Shared->Prop),Q (.bool (g i j)) s->wpAny (model X.prog X.w) X.A (f (.int i t) (.int j u)) Q E s) :
  OpR X f (rI0 λi j=>.bl (g i j)):=by
 intro pins s σ H x y v u Q I rx ry h
 obtain ⟨i,j,rfl,rfl,q⟩:=h
 obtain ⟨t,rfl⟩:=rx
 obtain ⟨t',rfl⟩:=ry
 exact rule i j t t' s _ _ ⟨.bl (g i j),H,I,rfl,q⟩
def CPow (i j:Int):Prop:=0<=j/\j<=1000000/\i.natAbs < 2 ^ 64
def CMul (i j:Int):Prop:=(-(2 ^ 64) < i/\i < 2 ^ 64)\/(-(2 ^ 64) < j/\j < 2 ^ 64)
theorem CMul.ok {i j:Int} (h:CMul i j):IntMulOk i j:=by
 rcases h with ⟨h1,h2⟩ | ⟨h1,h2⟩
 ·exact .of_left (intBits_le_64 h1 h2)
 ·exact .of_right (intBits_le_64 h1 h2)
theorem xr:OpR X (binaryOp .Add) (rI0 λi j=>.int (i + j)):=opI0 λ_ _ _ _ _ _ _ q=>add_int q
theorem op_sub:OpR X (binaryOp .Sub) (rI0 λi j=>.int (i - j)):=opI0 λ_ _ _ _ _ _ _ q=>sub_int q
theorem op_mul:OpR X (binaryOp .Mult) (rI CMul λi j=>.int (i * j)):=opI λ_ _ _ _ _ _ _ hc q=>mul_int q hc.ok
theorem op_mod:OpR X (binaryOp .Mod) (rI (λ_ j=>0 < j) λi j=>.int (i % j)):=opI λi j _ _ _ _ _ hc q=>by
 have h1:(0:Int) < j:=hc
 exact mod_int' (by omega) (by rw [Int.fmod_eq_emod_of_nonneg i (by omega)];exact q)
theorem op_pow:OpR X (binaryOp .Pow) (rI CPow λi j=>.int (i ^ j.toNat)):=opI λ_ _ _ _ _ _ _ hc q=>pow_int_small hc.1 hc.2.1 hc.2.2 q
theorem op_xor:OpR X (binaryOp .BitXor) (rI0 λi j=>.int (Builtin.bitXor i j)):=opI0 λ_ _ _ _ _ _ _ q=>xor_int q
theorem unI {f:Value->Sem Value}{g:Int->Int}
  (rule:∀ (i:Int) (t:Tok) (s:Shared) (Q:Value->Shared->Prop) (E:Value->Shared->Prop),Q (.int (g i) s.toks) { s with toks:=s.toks + 1 }->wpAny (model X.prog X.w) X.A (f (.int i t)) Q E s) :
  UnR X f (rU λi=>.int (g i)):=by
 intro pins s σ H x v Q I rx h
 obtain ⟨i,rfl,q⟩:=h
 obtain ⟨t,rfl⟩:=rx
 exact rule i t s _ _ ⟨.int (g i),H,I.tok _,⟨_,rfl⟩,q⟩
theorem un_neg:UnR X (unaryOp .USub) (rU λi=>.int (-i)):=unI λ_ _ _ _ _ q=>neg_int q
end
def scal:V->V->Bool
 | .non,.non=>true | .non,.int _=>true | .int _,.non=>true | .non,.bl _=>true | .bl _,.non=>true | .non,.str _=>true | .str _,.non=>true
 | .int _,.int _=>true | .bl _,.bl _=>true | .str _,.str _=>true | .byt _,.byt _=>true
 | .int _,.str _=>true | .str _,.int _=>true | .bl _,.str _=>true | .str _,.bl _=>true
 | _,_=>false
def rEq:R2:=λx y H Q=>scal x y=true/\Q (.bl (decide (x=y))) H
def rNe:R2:=λx y H Q=>scal x y=true/\Q (.bl (!decide (x=y))) H
theorem dec_int {i j:Int}:decide (V.int i=V.int j)=(i == j):=by
 rw [yp]
 simp
theorem dec_bl {i j:Bool}:decide (V.bl i=V.bl j)=(i == j):=by
 rw [yp]
 simp
theorem dec_str {i j:Str}:decide (V.str i=V.str j)=(i == j):=by
 rw [yp]
 simp
theorem dec_byt {i j:Array UInt8}:decide (V.byt i=V.byt j)=(i.toList == j.toList):=by
 rw [yp]
 cases i
 cases j
 simp
section
variable {X:Cx}{a b c:Expr}{ta tb tc:TE}{pos:Pos}
theorem xl {pins:List (Addr×Obj)}{σ:St}{H:Hp}{s:Shared}{Q:VK}{k k':Bool} (I:Inv X pins σ H s) (q:Q (.bl k) H) (e:k=k'):EP X pins σ Q (.bool k') s:=by
 subst e
 exact ⟨.bl k,H,I,rfl,q⟩
theorem wM:OpR X (compareOp .Eq) rEq:=by
 intro pins s σ H x y v u Q I rx ry h
 obtain ⟨hs,q⟩:=h
 cases x with
 | non=>
  cases rx
  cases y with
  | non=>cases ry;exact PySem.EqNone.eq_none_none (xl I q (by simp))
  | bl j=>cases ry;exact PySem.EqNone.eq_none_bool (xl I q (by simp))
  | int j=>obtain ⟨t',rfl⟩:=ry;exact PySem.EqNone.eq_none_int (xl I q (by simp))
  | str j=>obtain ⟨t',rfl⟩:=ry;exact PySem.EqNone.eq_none_str (xl I q (by simp))
  | _=>exact absurd (show false=true from hs) zG
 | bl i=>
  cases rx
  cases y with
  | non=>cases ry;exact PySem.EqNone.eq_bool_none (xl I q (by simp))
  | bl j=>cases ry;exact eq_bool (xl I q dec_bl)
  | str j=>obtain ⟨t',rfl⟩:=ry;exact PySem.EqMixed.eq_bool_str (xl I q (by simp))
  | _=>exact absurd (show false=true from hs) zG
 | int i=>
  obtain ⟨t,rfl⟩:=rx
  cases y with
  | non=>cases ry;exact PySem.EqNone.eq_int_none (xl I q (by simp))
  | int j=>obtain ⟨t',rfl⟩:=ry;exact eq_int (xl I q dec_int)
  | str j=>obtain ⟨t',rfl⟩:=ry;exact PySem.EqMixed.eq_int_str (xl I q (by simp))
  | _=>exact absurd (show false=true from hs) zG
 | str i=>
  obtain ⟨t,rfl⟩:=rx
  cases y with
  | non=>cases ry;exact PySem.EqNone.eq_str_none (xl I q (by simp))
  | bl j=>cases ry;exact PySem.EqMixed.eq_str_bool (xl I q (by simp))
  | int j=>obtain ⟨t',rfl⟩:=ry;exact PySem.EqMixed.eq_str_int (xl I q (by simp))
  | str j=>obtain ⟨t',rfl⟩:=ry;exact eq_str (xl I q dec_str)
  | _=>exact absurd (show false=true from hs) zG
 | byt i=>
  obtain ⟨t,rfl⟩:=rx
  cases y with
  | byt j=>obtain ⟨t',rfl⟩:=ry;exact PySem.W.eq_bytes (xl I q dec_byt)
  | _=>exact absurd (show false=true from hs) zG
 | _=>cases y <;> exact absurd (show false=true from hs) zG
theorem op_ne:OpR X (compareOp .NotEq) rNe:=by
 intro pins s σ H x y v u Q I rx ry h
 obtain ⟨hs,q⟩:=h
 cases x with
 | non=>
  cases rx
  cases y with
  | non=>cases ry;exact PySem.EqNone.ne_none_none (xl I q (by simp))
  | bl j=>cases ry;exact PySem.EqNone.ne_none_bool (xl I q (by simp))
  | int j=>obtain ⟨t',rfl⟩:=ry;exact PySem.EqNone.ne_none_int (xl I q (by simp))
  | str j=>obtain ⟨t',rfl⟩:=ry;exact PySem.EqNone.ne_none_str (xl I q (by simp))
  | _=>exact absurd (show false=true from hs) zG
 | bl i=>
  cases rx
  cases y with
  | non=>cases ry;exact PySem.EqNone.ne_bool_none (xl I q (by simp))
  | bl j=>cases ry;exact ne_bool (xl I q (congrArg not dec_bl))
  | str j=>obtain ⟨t',rfl⟩:=ry;exact PySem.EqMixed.ne_bool_str (xl I q (by simp))
  | _=>exact absurd (show false=true from hs) zG
 | int i=>
  obtain ⟨t,rfl⟩:=rx
  cases y with
  | non=>cases ry;exact PySem.EqNone.ne_int_none (xl I q (by simp))
  | int j=>obtain ⟨t',rfl⟩:=ry;exact ne_int (xl I q (congrArg not dec_int))
  | str j=>obtain ⟨t',rfl⟩:=ry;exact PySem.EqMixed.ne_int_str (xl I q (by simp))
  | _=>exact absurd (show false=true from hs) zG
 | str i=>
  obtain ⟨t,rfl⟩:=rx
  cases y with
  | non=>cases ry;exact PySem.EqNone.ne_str_none (xl I q (by simp))
  | bl j=>cases ry;exact PySem.EqMixed.ne_str_bool (xl I q (by simp))
  | int j=>obtain ⟨t',rfl⟩:=ry;exact PySem.EqMixed.ne_str_int (xl I q (by simp))
  | str j=>obtain ⟨t',rfl⟩:=ry;exact ne_str (xl I q (congrArg not dec_str))
  | _=>exact absurd (show false=true from hs) zG
 | byt i=>
  obtain ⟨t,rfl⟩:=rx
  cases y with
  | byt j=>obtain ⟨t',rfl⟩:=ry;exact PySem.W.ne_bytes (xl I q (congrArg not dec_byt))
  | _=>exact absurd (show false=true from hs) zG
 | _=>cases y <;> exact absurd (show false=true from hs) zG
theorem op_lt:OpR X (compareOp .Lt) (rI0 λi j=>.bl (decide (i < j))):=opB0 λ_ _ _ _ _ _ _ q=>lt_int q
theorem op_le:OpR X (compareOp .LtE) (rI0 λi j=>.bl (decide (i<=j))):=opB0 λ_ _ _ _ _ _ _ q=>le_int q
theorem op_gt:OpR X (compareOp .Gt) (rI0 λi j=>.bl (decide (j < i))):=opB0 λ_ _ _ _ _ _ _ q=>gt_int q
theorem op_ge:OpR X (compareOp .GtE) (rI0 λi j=>.bl (decide (j<=i))):=opB0 λ_ _ _ _ _ _ _ q=>ge_int q
theorem nomark (b:Expr) {op:CmpOp} (h:op≠.In:=by decide) (h2:op≠.NotIn:=by decide):behindInMarks op b=false:=by
 have e1:(op == CmpOp.In)=false:=by cases op <;> first | rfl | exact absurd rfl h
 have e2:(op == CmpOp.NotIn)=false:=by cases op <;> first | rfl | exact absurd rfl h2
 cases b <;> simp [behindInMarks,e1,e2]
theorem pe_cmpR {op:CmpOp}{r:R2} (ho:OpR X (compareOp op) r) (ha:PE X a ta) (hb:PE X b tb) (hm:behindInMarks op b=false):PE X (.Compare a [op] [b] pos) (tOp r ta tb):=by
 intro pins s σ H Q I h
 exact wpAny_Compare1 (binT ha hb I h λv u s2 x y H2 I2 rx ry q=>ho pins s2 σ H2 x y v u Q I2 rx ry q) hm
def tTest (t:TE):TT:=fun σ H Q=>t σ H λx H'=>∃ k,x=.bl k/\Q k H'
theorem xb {op:CmpOp}{r:R2} (ho:OpR X (compareOp op) r) (ha:PE X a ta) (hb:PE X b tb) (hm:behindInMarks op b=false):PT X (.Compare a [op] [b] pos) (tTest (tOp r ta tb)):=by
 intro pins s σ H Q I h
 refine wpAny_isTrue_Compare1 (thn (ha pins s σ H _ I h) λv s1 ⟨x,H1,I1,r1,q1⟩=>thn (hb pins s1 σ H1 _ I1 q1) λu s2 ⟨y,H2,I2,r2,q2⟩=>
  thn (ho pins s2 σ H2 x y v u _ I2 r1 r2 q2) λc s3 ⟨z,H3,I3,r3,k,e,q3⟩=>?_) hm
 subst e
 cases r3
 exact wpAny_truthy_bool ⟨H3,I3,q3⟩
def tChain (r r':R2) (ta tb tc:TE):TE:=fun σ H Q=>ta σ H λx H1=>tb σ H1 λy H2=>r x y H2 λz H3=>∃ k,z=.bl k /\
 (if k=true then tc σ H3 λw' H4=>r' y w' H4 Q else Q (.bl false) H3)
theorem pe_chain {op op':CmpOp}{r r':R2} (ho:OpR X (compareOp op) r) (ho':OpR X (compareOp op') r') (ha:PE X a ta) (hb:PE X b tb) (hc:PE X c tc)
  (hm:lastMarks [op,op'] [b,c]=false:=by with_unfolding_all rfl):PE X (.Compare a [op,op'] [b,c] pos) (tChain r r' ta tb tc):=by
 intro pins s σ H Q I h
 refine Compare_chain (thn (ha pins s σ H _ I h) λv s1 ⟨x,H1,I1,r1,q1⟩=>chain_link (thn (hb pins s1 σ H1 _ I1 q1) λu s2 ⟨y,H2,I2,r2,q2⟩=>
  thn (ho pins s2 σ H2 x y v u _ I2 r1 r2 q2) λd s3 ⟨z,H3,I3,r3,k,e,q3⟩=>?_)) hm
 subst e
 cases r3
 refine wpAny_truthy_bool ?_
 cases k with
 | false=>exact ite_ff ⟨.bl false,H3,I3,rfl,q3⟩
 | true=>exact ite_tt (chain_last (thn (hc pins s3 σ H3 _ I3 q3) λw' s4 ⟨z',H4,I4,r4,q4⟩=>ho' pins s4 σ H4 y z' u w' Q I4 r2 r4 q4))
theorem pt_chain {op op':CmpOp}{r r':R2} (ho:OpR X (compareOp op) r) (ho':OpR X (compareOp op') r') (ha:PE X a ta) (hb:PE X b tb) (hc:PE X c tc)
  (hm:lastMarks [op,op'] [b,c]=false:=by with_unfolding_all rfl):PT X (.Compare a [op,op'] [b,c] pos) (tTest (tChain r r' ta tb tc)):=by
 intro pins s σ H Q I h
 refine isTrue_chain (thn (ha pins s σ H _ I h) λv s1 ⟨x,H1,I1,r1,q1⟩=>test_link (thn (hb pins s1 σ H1 _ I1 q1) λu s2 ⟨y,H2,I2,r2,q2⟩=>
  thn (ho pins s2 σ H2 x y v u _ I2 r1 r2 q2) λd s3 ⟨z,H3,I3,r3,k,e,q3⟩=>?_)) hm
 subst e
 cases r3
 refine wpAny_truthy_bool ?_
 cases k with
 | false=>
  obtain ⟨k',e',q'⟩:=q3
  cases e'
  exact ite_ff ⟨H3,I3,q'⟩
 | true=>
  refine ite_tt (test_last (thn (hc pins s3 σ H3 _ I3 q3) λw' s4 ⟨z',H4,I4,r4,q4⟩=>thn (ho' pins s4 σ H4 y z' u w' _ I4 r2 r4 q4) λd' s5 ⟨z2,H5,I5,r5,k2,e2,q5⟩=>?_))
  subst e2
  cases r5
  exact wpAny_truthy_bool ⟨H5,I5,q5⟩
theorem line63:(sizeLine:Nat) < 2 ^ 63:=by rw [sizeLine_eq];decide
theorem vals1 {x:V}{us:List Value} (r:Vals [x] us):∃ u,us=[u]/\RelV x u:=by
 cases r with
 | cons r1 r2=>cases r2;exact ⟨_,rfl,r1⟩
theorem vals2 {x y:V}{us:List Value} (r:Vals [x,y] us):∃ u w',us=[u,w']/\RelV x u/\RelV y w':=by
 cases r with
 | cons r1 r2=>
  cases r2 with
  | cons r3 r4=>cases r4;exact ⟨_,_,rfl,r1,r3⟩
theorem call_max2 (hc:X.calm=true):CallR X (.builtin "max") (λxs H Q=>∃ i j,xs=[.int i,.int j]/\Q (.int (if j > i then j else i)) H):=by
 intro pins s σ H xs us Q I r h
 obtain ⟨i,j,rfl,q⟩:=h
 obtain ⟨u,w',rfl,⟨t,rfl⟩,⟨t',rfl⟩⟩:=vals2 r
 refine max_two_ints (I.ok.hd hc) λh' tk k=>⟨_,H,I.kept k,?_,q⟩
 by_cases hj:j > i
 ·rw [if_pos hj,if_pos hj];exact ⟨_,rfl⟩
 ·rw [if_neg hj,if_neg hj];exact ⟨_,rfl⟩
theorem call_min2 (hc:X.calm=true):CallR X (.builtin "min") (λxs H Q=>∃ i j,xs=[.int i,.int j]/\Q (.int (if j < i then j else i)) H):=by
 intro pins s σ H xs us Q I r h
 obtain ⟨i,j,rfl,q⟩:=h
 obtain ⟨u,w',rfl,⟨t,rfl⟩,⟨t',rfl⟩⟩:=vals2 r
 refine min_two_ints (I.ok.hd hc) λh' tk k=>⟨_,H,I.kept k,?_,q⟩
 by_cases hj:j < i
 ·rw [if_pos hj,if_pos hj];exact ⟨_,rfl⟩
 ·rw [if_neg hj,if_neg hj];exact ⟨_,rfl⟩
theorem call_int1:CallR X (.type "int") (λxs H Q=>(∃ i,xs=[.int i]/\Q (.int i) H)\/∃ k,xs=[.bl k]/\Q (.int (if k then 1 else 0)) H):=by
 intro pins s σ H xs us Q I r h
 rcases h with ⟨i,rfl,q⟩ | ⟨k,rfl,q⟩
 ·obtain ⟨u,rfl,t,rfl⟩:=vals1 r
  exact call_int_int ⟨.int i,H,I,⟨_,rfl⟩,q⟩
 ·obtain ⟨u,rfl,r1⟩:=vals1 r
  cases r1
  exact call_int_bool ⟨.int (if k then 1 else 0),H,I.tok _,⟨_,rfl⟩,q⟩
end
end L2
namespace L2
open PySem PySem.Spec PyProof.Rows
structure ObjM (h:Heap) (x dx C:Addr) (mA:Str->Option Value):Prop where
 obj:h.get? x=some (yM C dx)
 ns:h.Ns1 dx mA
 ne:dx≠x
theorem lookIn_ns {h:Heap}{dx:Addr}{mA:Str->Option Value} (n:h.Ns1 dx mA):∃ od,h.get? dx=some od/\∀ name,PySem.W.lookIn name od=some (mA name):=by
 obtain ⟨o,es,ep,ho,hd,hk,_,hm⟩:=n
 refine ⟨o,ho,λname=>?_⟩
 have e:=hm name
 unfold nsFind findBy at e
 rw [<-Array.find?_toList] at e
 unfold PySem.W.lookIn
 rw [hd]
 dsimp only
 split
 ·rename_i y q
  rw [q] at e
  exact congrArg some e
 ·rename_i q
  rw [q] at e
  have a:es.toList.any (·.refKey)=false:=by
   rw [List.any_eq_false]
   intro y hy
   obtain ⟨z,t,hkey⟩:=hk y (Array.mem_toList_iff.mp hy)
   simp [DictEntry.refKey,hkey]
  have a':¬ es.toList.any (·.refKey)=true:=by rw [a];exact zG
  rw [if_neg a']
  exact congrArg some e
theorem ObjM.look {h:Heap}{x dx C:Addr}{mA:Str->Option Value} (I:ObjM h x dx C mA):∃ od,PySem.W.InstAt h x (yM C dx) C (some od)/\∀ name,PySem.W.lookIn name od=some (mA name):=
 let ⟨od,ho,hl⟩:=lookIn_ns I.ns
 ⟨od,⟨I.obj,rfl,rfl,ho⟩,hl⟩
section
variable {prog:Program}{w:World}{A:Around}{E:Value->Shared->Prop}{s:Shared}{K:PySem.W.Frag}{x dx C f:Addr}{mA:Str->Option Value}{name:Str}{v:Value}
theorem get_map {expr:Bool}{Q:Value->Shared->Prop} (X:K.In s.heap) (I:ObjM s.heap x dx C mA) (hg:z4 K C name=true) (hh:yC K C=true)
  (ha:zL K (.ref C) name=some none) (hv:mA name=some v) (hv':PySem.W.handedIn v=true) (h:Q v { s with toks:=s.toks + 1 }) :
  wpAny (model prog w) A (getAttr (.ref x) name expr) Q E s:=by
 obtain ⟨od,J,hl⟩:=I.look
 exact PySem.W.get_value X J (PySem.W.plainGet_of hg).1 (PySem.W.findObj_own hh ha rfl (by rw [hl,hv])) hv' h
theorem get_meth {pl:Sem Bool}{Q:Value×List Value->Shared->Prop} (X:K.In s.heap) (I:ObjM s.heap x dx C mA) (hg:z4 K C name=true)
  (hf:zL K (.ref C) name=some (some (.ref f))) (ht:zb K (.ref f)=true) (hv:mA name=none) (h:Q (.ref f,[.ref x]) s) :
  wpAny (model prog w) A (getMethod (.ref x) name pl) Q E s:=by
 obtain ⟨od,J,hl⟩:=I.look
 exact PySem.W.method_fn X J (PySem.W.plainGet_of hg).1 (PySem.W.plainGet_of hg).2 hf (beq_iff_eq.mp ht) (by show (PySem.W.lookIn name od).map (·.isSome)=some false;rw [hl,hv];rfl) h
theorem set_map {ns:List Str}{Q:Unit->Shared->Prop} (X:K.In s.heap) (I:ObjM s.heap x dx C mA)
  (hs:zL K (.ref C) "__setattr__" = some (some (.builtin "object.__setattr__"))) (hp:yf K C=true) (ht:PySem.W.takerIn K C name=some none) (hh:yC K C=true)
  (hw:PySem.Within mA ns) (hsz:ns.length<=sizeLine)
  (h:∀ h',ObjM h' x dx C (λy=>if y=name then some v else mA y)->Heap.SameBut dx s.heap h'->Q () { s with heap:=h',toks:=s.toks + 2 }) :
  wpAny (model prog w) A (setAttr (.ref x) name v) Q E s:=by
 obtain ⟨od,J,hl⟩:=I.look
 refine PySem.W.set_plain X J hs (PySem.W.osa_open (s:={ s with toks:=s.toks + 1 }) (r:=none) X J hp ht λb=>?_)
 obtain ⟨cd,hc,hd'⟩:=PySem.W.any_some hh
 have hx:s.heap.get? x=some ⟨.ref C,some dx,.plain,#[]⟩:=I.obj
 refine wpAny_bind (wpAny_pure (wpAny_bind (wpAny_bind (wpAny_loadPart hx (wpAny_bind (PySem.W.Looks.here (s:={ s with toks:=s.toks + 1 }) (PySem.W.looks_clsIn X hc) ?_))))))
 rw [hd']
 refine wpAny_pure (a:=some dx) (wpAny_bind (wpAny_pure (wpAny_bind ?_)))
 refine wpAny_nsSet1 (s:={ s with toks:=s.toks + 1 }) I.ns λh' hn2 hs2=>?_
 obtain ⟨oD,esD,epD,hoD,hdD,hcD⟩:=hn2.count (PySem.Within.cons name v hw)
 refine wpAny_bind (wpAny_lookBehind hoD (by rw [hdD];exact pastItsLine_dict (zk hcD (by rw [zg];omega))) ?_)
 exact wpAny_pure (h _ ⟨(hs2.2 _ (Ne.symm I.ne)).trans I.obj,hn2,I.ne⟩ hs2)
theorem make_map {R:Result->Shared->Prop}{vs:List Value}{kw:List (Str×Value)} (X:K.In s.heap) (hm:yq K C=true)
  (hi:zL K (.ref C) "__init__" = some (some (.ref f))) (hf:PySem.W.typeIn K (.ref f)=some (.type "function"))
  (h:codeAny (model prog w) (A.under (.builtin "type.__call__" ⟨.ref C::vs,kw⟩)) (.call (.ref f) ⟨.ref (s.heap.objs.size + 1)::vs,kw⟩) (PySem.W.InitBack (s.heap.objs.size + 1) R)
   { s with heap:=(s.heap.push yD).push (yM C s.heap.objs.size) }) :
  codeAny (model prog w) A (.call (.ref C) ⟨vs,kw⟩) R s:=by
 obtain ⟨hh,g,d,t,os⟩:=s
 exact PySem.W.make_core (PySem.W.makes_of X hm) (PySem.W.looks_findIn X hi) (λself=>PySem.W.bind_fn X self hf) (.inl rfl) h
end
def putF (f:Str) (v:V):List (Str×V)->List (Str×V)
 | []=>[(f,v)]
 | (g,x)::r=>if g=f then (g,v)::r else (g,x)::putF f v r
theorem lookup_putF (f g:Str) (v:V):∀ fs:List (Str×V),(putF f v fs).lookup g=if g=f then some v else fs.lookup g
 | []=>by
  show yl g [(f,v)]=_
  by_cases h:g=f
  ·have hb:(g == f)=true:=beq_iff_eq.mpr h
   simp only [yl,hb,if_pos h]
  ·have hb:(g == f)=false:=beq_eq_false_iff_ne.mpr h
   simp only [yl,hb,if_neg h]
 | (k,x)::r=>by
  have ih:=lookup_putF f g v r
  rw [show putF f v ((k,x)::r)=(if k=f then (k,v)::r else (k,x)::putF f v r) from rfl]
  by_cases hk:k=f
  ·rw [if_pos hk]
   by_cases h:g=k
   ·have hb:(g == k)=true:=beq_iff_eq.mpr h
    simp only [yl,hb,if_pos (h.trans hk)]
   ·have hb:(g == k)=false:=beq_eq_false_iff_ne.mpr h
    simp only [yl,hb,if_neg (λe:g=f=>h (e.trans hk.symm))]
  ·rw [if_neg hk]
   by_cases h:g=k
   ·have hb:(g == k)=true:=beq_iff_eq.mpr h
    simp only [yl,hb,if_neg (λe:g=f=>hk (h.symm.trans e))]
   ·have hb:(g == k)=false:=beq_eq_false_iff_ne.mpr h
    simp only [yl,hb]
    exact ih
theorem keys_putF (f:Str) (v:V):∀ fs:List (Str×V),f∈(putF f v fs).map (·.1)/\∀ g,g∈fs.map (·.1)->g∈(putF f v fs).map (·.1)
 | []=>⟨by simp [putF],λg h=>by simp at h⟩
 | (k,x)::r=>by
  obtain ⟨i1,i2⟩:=keys_putF f v r
  rw [show putF f v ((k,x)::r)=(if k=f then (k,v)::r else (k,x)::putF f v r) from rfl]
  by_cases hk:k=f
  ·rw [if_pos hk]
   subst hk
   exact ⟨by simp,λg h=>by simpa using h⟩
  ·rw [if_neg hk]
   refine ⟨?_,λg h=>?_⟩
   ·rw [zf]
    exact zn _ i1
   ·rw [zf] at h ⊢
    rcases zV.mp h with e | e
    ·exact zV.mpr (.inl e)
    ·exact zn _ (i2 g e)
theorem length_putF (f:Str) (v:V):∀ fs:List (Str×V),(putF f v fs).length<=fs.length + 1
 | []=>by simp [putF]
 | (k,x)::r=>by
  have ih:=length_putF f v r
  rw [show putF f v ((k,x)::r)=(if k=f then (k,v)::r else (k,x)::putF f v r) from rfl]
  by_cases hk:k=f
  ·rw [if_pos hk,zg,zg];omega
  ·rw [if_neg hk,zg,zg];omega
theorem RelO.some_of {v:V}{o:Option Value} (r:RelO (some v) o):∃ u,o=some u/\RelV v u:=by
 cases o with
 | none=>exact (show False from r).elim
 | some u=>exact ⟨u,rfl,r⟩
theorem RelO.none_of {o:Option Value} (r:RelO none o):o=none:=by
 cases o with
 | none=>rfl
 | some u=>exact (show False from r).elim
theorem handed_of {v:V}{u:Value} (r:RelV v u):PySem.W.handedIn u=true:=by
 cases v with
 | non=>cases (show u=Value.none from r);rfl
 | bl b=>cases (show u=Value.bool b from r);rfl
 | int i=>obtain ⟨t,e⟩:=(show ∃ t,u=Value.int i t from r);cases e;rfl
 | str x=>obtain ⟨t,e⟩:=(show ∃ t,u=Value.str x t from r);cases e;rfl
 | byt b=>obtain ⟨t,e⟩:=(show ∃ t,u=Value.bytes b t from r);cases e;rfl
 | flt b=>obtain ⟨t,e⟩:=(show ∃ t,u=Value.float b t from r);cases e;rfl
 | ref a=>cases (show u=Value.ref a from r);rfl
 | ty n=>cases (show u=Value.type n from r);rfl
section
variable {P:Program}{w:World}{H H':Hp}{h h':Heap}{a C dx:Addr}{fs fs':List (Str×V)}
theorem ins_get (hok:HOk P w H h) (e:H a=some (.ins C dx fs)):∃ mA,ObjM h a dx C mA/\(∀ f,RelO (fs.lookup f) (mA f))/\PySem.Within mA (fs.map (·.1))/\fs.length<=1000/\H dx=some (.own a):=by
 obtain ⟨d,z,ne,ob,mA,n,r,q⟩:=(show ObjOk P w H h a (.ins C dx fs) from hok a _ e)
 exact ⟨mA,⟨ob,n,ne⟩,r,q,z,d⟩
end
structure Cls (K:PySem.W.Frag) (C:Addr):Prop where
 pg:z4 K C Str.empty=true
 hd:yC K C=true
 po:yf K C=true
 sa:zL K (.ref C) "__setattr__" = some (some (.builtin "object.__setattr__"))
theorem Cls.get {K:PySem.W.Frag}{C:Addr} (c:Cls K C) (f:Str):z4 K C f=true:=c.pg
def NoAttr (K:PySem.W.Frag) (C:Addr) (f:Str):Prop:=zL K (.ref C) f=some none
theorem NoAttr.taker {K:PySem.W.Frag}{C:Addr}{f:Str} (n:NoAttr K C f):PySem.W.takerIn K C f=some none:=by
 unfold PySem.W.takerIn
 rw [show zL K (.ref C) f=some none from n]
 rfl
structure Meth (K:PySem.W.Frag) (C:Addr) (m:Str) (f:Addr):Prop where
 at_:zL K (.ref C) m=some (some (.ref f))
 fn:zb K (.ref f)=true
 kp:zF K (.ref f)=true
section
variable {X:Cx}{pins:List (Addr×Obj)}{σ:St}{H:Hp}{s:Shared}{a C dx:Addr}{fs:List (Str×V)}{f:Str}{v:V}{A:Around}{E:Value->Shared->Prop}
theorem getattr_ok {b:Bool}{Q:Value->Shared->Prop} (I:Inv X pins σ H s) (e:H a=some (.ins C dx fs)) (c:Cls X.K C) (n:NoAttr X.K C f) (l:fs.lookup f=some v)
  (h:∀ u s',Inv X pins σ H s'->RelV v u->Q u s'):wpAny (model X.prog X.w) A (getAttr (.ref a) f b) Q E s:=by
 obtain ⟨mA,O,r,_,_,_⟩:=ins_get I.hok e
 obtain ⟨u,hu,ru⟩:=RelO.some_of (v:=v) (o:=mA f) (by rw [<-l];exact r f)
 exact get_map I.kIn O (c.get f) c.hd n hu (handed_of ru) (h u _ (I.tok _) ru)
theorem getmeth_ok {m:Str}{g:Addr}{pl:Sem Bool}{Q:Value×List Value->Shared->Prop} (I:Inv X pins σ H s) (e:H a=some (.ins C dx fs)) (c:Cls X.K C) (k:Meth X.K C m g) (l:fs.lookup m=none)
  (h:Q (.ref g,[.ref a]) s):wpAny (model X.prog X.w) A (getMethod (.ref a) m pl) Q E s:=by
 obtain ⟨mA,O,r,_,_,_⟩:=ins_get I.hok e
 have hn:mA m=none:=RelO.none_of (by rw [<-l];exact r m)
 exact get_meth I.kIn O (c.get m) k.at_ k.fn hn h
theorem setattr_ok {y:V}{u:Value}{Q:Unit->Shared->Prop} (I:Inv X pins σ H s) (e:H a=some (.ins C dx fs)) (c:Cls X.K C) (n:NoAttr X.K C f) (hl:fs.length < 1000) (ry:RelV y u)
  (h:∀ s',Inv X pins σ (upd H a (.ins C dx (putF f y fs))) s'->Q () s'):wpAny (model X.prog X.w) A (setAttr (.ref a) f u) Q E s:=by
 obtain ⟨mA,O,r,wi,_,ho⟩:=ins_get I.hok e
 have hz:(fs.map (·.1)).length<=sizeLine:=by rw [zA,sizeLine_eq];omega
 refine set_map I.kIn O c.sa c.po n.taker c.hd wi hz λh' O' sb=>h _ ?_
 have hd:∃ o,h'.get? dx=some o:=let ⟨o,_,_,e',_⟩:=O'.ns;⟨o,e'⟩
 refine I.write (x:=a) (e:=dx) (by rw [e];exact True.intro) (.inr ho) (λb q hb z=>(sb.2 b hb).trans z) hd ?_
 refine ⟨by rw [xO O.ne];exact ho,?_,O.ne,O'.obj,_,O'.ns,λg=>?_,λg hg=>?_⟩
 ·have:=length_putF f y fs;omega
 ·show RelO ((putF f y fs).lookup g) (if g=f then some u else mA g)
  rw [lookup_putF]
  by_cases q:g=f
  ·rw [if_pos q,if_pos q];exact ry
  ·rw [if_neg q,if_neg q];exact r g
 ·by_cases q:g=f
  ·rw [q];exact (keys_putF f y fs).1
  ·refine (keys_putF f y fs).2 g (wi g λz=>hg ?_)
   show (if g=f then some u else mA g)=none
   rw [if_neg q];exact z
theorem Inv.made (I:Inv X pins σ H s):Inv X pins σ (upd (upd H s.heap.objs.size (.own (s.heap.objs.size + 1))) (s.heap.objs.size + 1) (.ins C s.heap.objs.size []))
  { s with heap:=(s.heap.push yD).push (yM C s.heap.objs.size) }:=by
 have e1:(s.heap.push yD).get? s.heap.objs.size=some yD:=Heap.get?_push_size s.heap rfl
 have e2:((s.heap.push yD).push (yM C s.heap.objs.size)).get? (s.heap.objs.size + 1)=some (yM C s.heap.objs.size):=by
  have:=Heap.get?_push_size (s.heap.push yD) (o:=yM C s.heap.objs.size) rfl
  rwa [Heap.size_push] at this
 have e3:(s.heap.push yD).Ns s.heap.objs.size (λ_=>none):=⟨yD,#[],_,e1,rfl,(λe he=>absurd he (by simp)),λ_=>rfl⟩
 have I1:=I.laid (a:=s.heap.objs.size) (o:=.own (s.heap.objs.size + 1)) (h':=s.heap.push yD) (t':=s.toks) (λb u q=>Heap.get?_push_of_some _ q) (zK _) ⟨_,e1⟩
 refine I1.laid (a:=s.heap.objs.size + 1) (o:=.ins C s.heap.objs.size []) (t':=s.toks) (λb u q=>Heap.get?_push_of_some _ q) (Nat.le_of_eq (Heap.size_push _ _)) ?_
 have ne:s.heap.objs.size≠s.heap.objs.size + 1:=zS (xB _)
 refine ⟨by rw [xO ne,xJ],zZ _,ne,e2,λ_=>none,(Heap.Ns1.of_empty e3).at λo q=>Heap.get?_push_of_some _ q,λ_=>True.intro,λy hy=>absurd rfl hy⟩
theorem attr_of {prog:Program}{w:World}{env:Env}{e:Expr}{f:Str}{pos:Pos}{s:Shared}{Q:Value->Shared->Prop} (hb:attributeBase e f env (eval e env)=eval e env)
  (h:wpAny (model prog w) A (eval e env) (λo s₁=>wpAny (model prog w) A (getAttr o f true) Q E s₁) E s):wpAny (model prog w) A (eval (.Attribute e f pos) env) Q E s:=
 Attribute_any_ h (by rw [arm_eval_Attribute,hb])
end
def tFld (K:PySem.W.Frag) (ta:TE) (f:Str):TE:=fun σ H Q=>ta σ H λx H1=>∃ a C dx fs v,x=.ref a/\H1 a=some (.ins C dx fs)/\Cls K C/\NoAttr K C f/\fs.lookup f=some v/\Q v H1
def sFld (K:PySem.W.Frag) (ta tv:TE) (f:Str):TS:=λD σ H=>tv σ H λy H1=>ta σ H1 λx H2=>∃ a C dx fs,x=.ref a/\H2 a=some (.ins C dx fs)/\Cls K C/\NoAttr K C f/\fs.length < 1000 /\
 D.nx σ (upd H2 a (.ins C dx (putF f y fs)))
section
variable {X:Cx}{o e value:Expr}{f:Str}{pos pos' tpos:Pos}{ta tv:TE}
theorem xk (he:PE X e ta) (hb:attributeBase e f X.env (eval e X.env)=eval e X.env):PE X (.Attribute e f pos) (tFld X.K ta f):=by
 intro pins s σ H Q I h
 refine attr_of hb (thn (he pins s σ H _ I h) λu s1 ⟨x,H1,I1,rx,a,C,dx,fs,v,ex,ea,c,n,l,q⟩=>?_)
 subst ex
 obtain rfl:u=Value.ref a:=rx
 exact getattr_ok I1 ea c n l λu' s2 I2 ru=>⟨v,H1,I2,ru,q⟩
theorem ps_fld (ha:PE X o ta) (hv:PE X value tv) (hs:swapsWith value (some (.Attribute o f pos')) pos.line X.env=pure false):PS X (.Assign [.Attribute o f pos'] value pos) (sFld X.K ta tv f):=by
 intro pins s σ H D I h
 refine plainObj_wpAny_Assign_Attribute (thn (hv pins s σ H _ I h) λu s1 ⟨y,H1,I1,ry,q⟩=>thn (ha pins s1 σ H1 _ I1 q) λov s2 ⟨x,H2,I2,rx,a,C,dx,fs,ex,ea,c,n,l,q2⟩=>?_) hs
 subst ex
 obtain rfl:ov=Value.ref a:=rx
 exact setattr_ok I2 ea c n l ry λs3 I3=>⟨σ,_,I3,q2⟩
end
section
variable {X:Cx}{pins:List (Addr×Obj)}{σ:St}{H:Hp}{s:Shared}{A:Around}{E:Value->Shared->Prop}{Q:Value->Shared->Prop}{c:Value}{b:Bool}
inductive TyOf (K:PySem.W.Frag) (H:Hp):V->Value->Prop where
 | non:TyOf K H .non (.type "NoneType")
 | bl (x:Bool):TyOf K H (.bl x) (.type "bool")
 | int (i:Int):TyOf K H (.int i) (.type "int")
 | str (x:Str):TyOf K H (.str x) (.type "str")
 | flt (x:UInt64):TyOf K H (.flt x) (.type "float")
 | lst {a:Addr}{xs:List V} (e:H a=some (.lst xs)):TyOf K H (.ref a) (.type "list")
 | frz {a:Addr}{o:Obj}{xs:List V} (e:H a=some (.frz o (.lst xs))):TyOf K H (.ref a) (.type "list")
 | tup {a:Addr}{xs:List V} (e:H a=some (.tup xs)):TyOf K H (.ref a) (.type "tuple")
 | dK {a:Addr}{kvs:List (Key×V)} (e:H a=some (.dK kvs)):TyOf K H (.ref a) (.type "dict")
 | dT {a:Addr}{kvs:List (List Key×V)} (e:H a=some (.dT kvs)):TyOf K H (.ref a) (.type "dict")
 | ins {a C dx:Addr}{fs:List (Str×V)} (e:H a=some (.ins C dx fs)) (cl:Cls K C) (ha:zL K (.ref C) "__class__" = some (some (.builtin "object.__class__")))
   (hn:yw K (.builtin "object.__class__") "__get__" = some (some (.builtin "getset_descriptor.__get__"))) (htk:xE K (.builtin "object.__class__")=some true)
   (hm:yt K C (.type "object")=some true):TyOf K H (.ref a) (.ref C)
theorem isinst_ok {x:V}{u t:Value} (I:Inv X pins σ H s) (rx:RelV x u) (ty:TyOf X.K H x t) (e:zc X.K t c=some b) (h:∀ tk,Q (.bool b) { s with toks:=tk }) :
  wpAny (model X.prog X.w) A (call (.builtin "isinstance") [u,c]) Q E s:=by
 cases ty with
 | non=>cases (show u=Value.none from rx);exact zl PySem.W.kitx_none I.kIn True.intro e (λz=>nomatch z) h
 | bl y=>cases (show u=Value.bool y from rx);exact zl PySem.W.kitx_bool I.kIn True.intro e (λz=>nomatch z) h
 | int i=>obtain ⟨t,q⟩:=(show ∃ t,u=Value.int i t from rx);cases q;exact zl PySem.W.kitx_int I.kIn True.intro e (λz=>nomatch z) h
 | str y=>obtain ⟨t,q⟩:=(show ∃ t,u=Value.str y t from rx);cases q;exact zl PySem.W.kitx_str I.kIn True.intro e (λz=>nomatch z) h
 | flt y=>obtain ⟨t,q⟩:=(show ∃ t,u=Value.float y t from rx);cases q;exact zl PySem.W.kitx_float I.kIn True.intro e (λz=>nomatch z) h
 | @lst a xs ea=>
  cases (show u=Value.ref a from rx)
  obtain ⟨_,_,n,_,h1⟩:=(show ObjOk X.prog X.w H s.heap a (.lst xs) from I.hok a _ ea)
  exact zl PySem.W.kitx_list I.kIn ⟨_,h1,rfl⟩ e (λz=>nomatch z) h
 | @frz a ob xs ea=>
  cases (show u=Value.ref a from rx)
  obtain ⟨_,_,_,n,_,h1⟩:=(show ObjOk X.prog X.w H s.heap a (.frz ob (.lst xs)) from I.hok a _ ea)
  exact zl PySem.W.kitx_list I.kIn ⟨_,h1,rfl⟩ e (λz=>nomatch z) h
 | @tup a xs ea=>
  cases (show u=Value.ref a from rx)
  obtain ⟨_,_,_,p⟩:=(show ObjOk X.prog X.w H s.heap a (.tup xs) from I.hok a _ ea)
  obtain ⟨o,h1,h2,_⟩:=p
  exact zl PySem.W.kitx_tuple I.kIn ⟨o,h1,h2⟩ e (λz=>nomatch z) h
 | @dK a kvs ea=>
  cases (show u=Value.ref a from rx)
  obtain ⟨_,_,vs,_,p⟩:=(show ObjOk X.prog X.w H s.heap a (.dK kvs) from I.hok a _ ea)
  obtain ⟨o,es,ep,h1,h2,_⟩:=p
  exact zl PySem.W.kitx_dict I.kIn ⟨o,h1,h2.1⟩ e (λz=>nomatch z) h
 | @dT a kvs ea=>
  cases (show u=Value.ref a from rx)
  obtain ⟨_,_,xs,_,o,es,ep,h1,h2,_⟩:=(show ObjOk X.prog X.w H s.heap a (.dT kvs) from I.hok a _ ea)
  exact zl PySem.W.kitx_dict I.kIn ⟨o,h1,h2.1⟩ e (λz=>nomatch z) h
 | @ins a C dx fs ea cl ha hn htk hm=>
  cases (show u=Value.ref a from rx)
  obtain ⟨mA,O,_⟩:=ins_get I.hok ea
  obtain ⟨od,J,_⟩:=O.look
  exact zl (PySem.W.kitx_own (cl.get _) cl.hd ha hn htk hm) I.kIn J e (λz=>nomatch z) h
end
end L2
namespace L2
open PySem PySem.Spec PyProof.Rows
structure Room (k:Nat) (A:Around):Prop where
 hd:A.handled=none
 dp:A.depth + 3 * k + 5 < recursionLimit
 un:A.units + 16 * k + 200 < cLine
theorem Room.mono {j k:Nat}{A:Around} (r:Room k A) (h:j<=k):Room j A:=⟨r.hd,by have:=r.dp;omega,by have:=r.un;omega⟩
theorem Room.deeper {k:Nat}{A:Around} (r:Room (k + 1) A) (env:Env):Room k (A.deeper env):=
 ⟨r.hd,by have:=r.dp;show A.depth + 1 + 3 * k + 5 < _;omega,by have:=r.un;show A.units + 3 + 16 * k + 200 < _;omega⟩
theorem make_depth {A:Around}{C:Addr}{us:List Value}{kw:List (Str×Value)}:(A.under (.builtin "type.__call__" ⟨.ref C::us,kw⟩)).depth=A.depth + 1:=by
 first | rfl | simp [Around.under,Code.weight,Code.isCreation,Code.isGuard,Code.isCaller,Code.frames,Code.isFrame,guardIds]
theorem make_units {A:Around}{C:Addr}{us:List Value}{kw:List (Str×Value)}:(A.under (.builtin "type.__call__" ⟨.ref C::us,kw⟩)).units=A.units + 1:=by
 first | rfl | simp [Around.under,Code.cUnits,Code.frames,Code.isFrame]
theorem Room.make {k:Nat}{A:Around} (r:Room (k + 1) A) (C:Addr) (us:List Value) (kw:List (Str×Value)):Room k (A.under (.builtin "type.__call__" ⟨.ref C::us,kw⟩)):=
 ⟨r.hd,by have:=r.dp;rw [make_depth];omega,by have:=r.un;rw [make_units];omega⟩
theorem Room.depth {k:Nat}{A:Around} (r:Room k A):A.depth < recursionLimit:=by have:=r.dp;omega
theorem Room.units {k:Nat}{A:Around} (r:Room k A):A.units + 64 < cLine:=by have:=r.un;omega
def tNil:TA:=λ_ H Q=>Q [] H
def tCons (ta:TE) (tr:TA):TA:=fun σ H Q=>ta σ H λx H1=>tr σ H1 λxs H2=>Q (x::xs) H2
section
variable {X:Cx}{e:Expr}{es:List Expr}{te:TE}{t:TA}{pos:Pos}
theorem pa_nil:PA X [] tNil:=λ_ _ _ _ H Q I h=>Calls.spliced_nil ⟨[],H,I,.nil,h⟩
theorem pa_cons (ha:PE X e te) (hr:PA X es t) (hs:starEach (e::es) X.env=(false,eval e X.env)::starEach es X.env:=by rfl):PA X (e::es) (tCons te t):=by
 intro pos pins s σ H Q I h
 rw [hs]
 show wpAny _ _ (spliced ((false,eval e X.env)::backTo pos (starEach es X.env))) _ _ s
 refine Calls.spliced_cons (thn (ha pins s σ H _ I h) λu s1 ⟨x,H1,I1,r1,q1⟩=>?_)
 exact thn (hr pos pins s1 σ H1 _ I1 q1) λus s2 ⟨xs,H2,I2,r2,q2⟩=>⟨x::xs,H2,I2,.cons r1 r2,q2⟩
def tTup (t:TA):TE:=fun σ H Q=>t σ H λxs H1=>xs.length<=sizeLine/\∀ p,H1 p=none->Q (.ref p) (upd H1 p (.tup xs))
def tLst (t:TA):TE:=fun σ H Q=>t σ H λxs H1=>xs.length<=sizeLine/\∀ p,H1 p=none->Q (.ref p) (upd H1 p (.lst xs))
theorem wF {x1} (h:PA X es t):PE X (.Tuple es x1 pos) (tTup t):=by
 intro pins s σ H Q I hq
 refine wpAny_Tuple_spliced (thn (h pos pins s σ H _ I hq) λus s1 ⟨xs,H1,I1,r,z,q⟩=>⟨by rw [<-r.length];exact z,?_⟩)
 have hf:H1 s1.heap.objs.size=none:=I1.hok.fresh (zK _)
 refine ⟨.ref s1.heap.objs.size,upd H1 s1.heap.objs.size (.tup xs),I1.laid (t':=s1.toks) (λb u e=>Heap.get?_push_of_some _ e) (zK _) ?_,rfl,q _ hf⟩
 exact ⟨z,us,r,⟨_,Heap.get?_push_size _ rfl,rfl,_,rfl⟩⟩
theorem xw (h:PA X es t):PE X (.List es pos) (tLst t):=by
 intro pins s σ H Q I hq
 refine wpAny_List_spliced (thn (h pos pins s σ H _ I hq) λus s1 ⟨xs,H1,I1,r,z,q⟩=>⟨by rw [<-r.length];exact z,?_⟩)
 have hf:H1 s1.heap.objs.size=none:=I1.hok.fresh (zK _)
 refine ⟨.ref s1.heap.objs.size,upd H1 s1.heap.objs.size (.lst xs),I1.laid (t':=s1.toks) (λb u e=>Heap.get?_push_of_some _ e) (zK _) ?_,rfl,q _ hf⟩
 exact ⟨z,us,0,r,Heap.get?_push_size _ rfl⟩
end
abbrev Sp:=List V->Hp->VK->XK->Prop
abbrev CXT:=List Env->Hp->Shared->XK->Value->Shared->Prop
structure Env0 (P:Program) (w:World) (K:PySem.W.Frag) (mg:Str->Option Value) (base:Heap) (A:Around) (outer:List Env) (s:Shared) (H:Hp):Prop where
 frames:A.frames=some outer
 mod:Mod K mg base
 bs:∀ b o,base.get? b=some o->s.heap.get? b=some o/\H b=none
 bsz:base.objs.size<=s.heap.objs.size
 funs:s.heap.FunFrames base outer
 frf:∀ b∈frs outer,H b=none
 hok:HOk P w H s.heap
 bare:AllBare s.gens
def CE (outer:List Env) (P:Program) (w:World) (H:Hp) (s:Shared) (Q:VK) (u:Value) (s':Shared):Prop:=
 ∃ v H',s'.os=s.os/\AllBare s'.gens/\Un (frs outer) [] H H' s.heap s'.heap/\HOk P w H' s'.heap/\RelV v u/\Q v H'
def CR (CX:CXT) (outer:List Env) (P:Program) (w:World) (H:Hp) (s:Shared) (Q:VK) (E:XK) (r:Result) (s':Shared):Prop:=
 match r with
 | .ok (.ret u)=>CE outer P w H s Q u s'
 | .ok _=>False
 | .error e=>CX outer H s E e s'
structure FnOk (P:Program) (w:World) (K:PySem.W.Frag) (mg:Str->Option Value) (base:Heap) (CX:CXT) (k:Nat) (f:Addr) (fd:FuncData) (ps:List Str) (sp:Sp):Prop where
 len:∀ vs H Q E,sp vs H Q E->vs.length=ps.length
 run:∀ (A:Around) (outer:List Env) (s:Shared) (H:Hp) (args:Args) (us:List Value) (vs:List V) (Q:VK) (E:XK),Room k A->Env0 P w K mg base A outer s H->BindsTo s fd args (ps.zip us)->Vals vs us->sp vs H Q E ->
  codeAny (model P w) A (.call (.ref f) args) (CR CX outer P w H s Q E) s
theorem Env0.make {P:Program}{w:World}{K:PySem.W.Frag}{mg:Str->Option Value}{base:Heap}{A:Around}{outer:List Env}{s:Shared}{H:Hp} (e:Env0 P w K mg base A outer s H) (C:Addr) (us:List Value) (kw:List (Str×Value)) :
  Env0 P w K mg base (A.under (.builtin "type.__call__" ⟨.ref C::us,kw⟩)) outer s H:=⟨by first | exact e.frames | (simpa [Around.under,Code.envs,Code.isFrame,pushEnvs] using e.frames),e.mod,e.bs,e.bsz,e.funs,e.frf,e.hok,e.bare⟩
section
variable {X:Cx}{pins:List (Addr×Obj)}{σ:St}{H:Hp}{s s':Shared}
theorem Inv.env0 (I:Inv X pins σ H s):Env0 X.prog X.w X.K X.mg X.base X.A X.stack s H:=
 ⟨I.ok.frames,I.ok.mod,I.bs,zk I.ok.bsz I.sz,I.stack,I.stkFree,I.hok,I.bare⟩
theorem Inv.after {Q:VK}{u:Value} (I:Inv X pins σ H s) (h:CE X.stack X.prog X.w H s Q u s'):EP X pins σ Q u s':=by
 obtain ⟨v,H',os,bare,un,hok,r,q⟩:=h
 obtain ⟨hh,g,d,t,os'⟩:=s'
 obtain rfl:os'=s.os:=os
 exact ⟨v,H',I.call (h':=hh) (g':=g) (d':=d) (t':=t) (ch:=[]) un hok bare (λb z=>absurd z (by simp)),r,q⟩
end
def tCall (sp:Sp) (dvs:List V) (E:XK) (t:TA):TE:=fun σ H Q=>t σ H λvs H1=>sp (vs++dvs) H1 Q E
def tMeth (C:Addr) (m:Str) (sp:Sp) (dvs:List V) (E:XK) (ta:TE) (t:TA):TE:=fun σ H Q=>ta σ H λx H1=>∃ a dx fs,x=.ref a/\H1 a=some (.ins C dx fs)/\fs.lookup m=none /\
 t σ H1 λvs H2=>sp (x::(vs++dvs)) H2 Q E
def tMake (C:Addr) (sp:Sp) (dvs:List V) (E:XK) (t:TA):TE:=fun σ H Q=>t σ H λvs H1=>∀ x dx,H1 x=none->H1 dx=none->dx≠x ->
 sp (.ref x::(vs++dvs)) (upd (upd H1 dx (.own x)) x (.ins C dx [])) (λv H2=>v=.non/\Q (.ref x) H2) E
def Binds (K:PySem.W.Frag) (fd:FuncData) (ps:List Str) (ds:List Value):Prop:=
 ∀ (s:Shared) (us:List Value),K.In s.heap->(us++ds).length=ps.length->BindsTo s fd ⟨us,[]⟩ (ps.zip (us++ds))
theorem Binds.all {K:PySem.W.Frag}{fd:FuncData}{ps:List Str} (h:∀ us:List Value,us.length=ps.length->bindArgs fd ⟨us,[]⟩=pure (ps.zip us)):Binds K fd ps []:=λs us _ hl=>by
 rw [zj] at hl ⊢
 exact .of_eq (h us hl)
def Passes (CX:CXT) (X:Cx) (E:XK):Prop:=∀ (pins:List (Addr×Obj)) (σ:St) (H:Hp) (s:Shared) (e:Value) (s':Shared),Inv X pins σ H s->CX X.stack H s E e s'->X.xe e s'
section
variable {X:Cx}{CX:CXT}{k:Nat}{f C:Addr}{fd:FuncData}{ps:List Str}{sp:Sp}{dvs:List V}{ds:List Value}{E:XK}{x m:Str}{p pos apos:Pos}{e o:Expr}{es:List Expr}{ta:TE}{t:TA}
theorem run_fn {pins:List (Addr×Obj)}{σ:St}{H:Hp}{s:Shared}{Q:VK}{us:List Value}{vs:List V} (F:FnOk X.prog X.w X.K X.mg X.base CX k f fd ps sp) (hr:Room k X.A) (hb:Binds X.K fd ps ds) (hd:Vals dvs ds) (hx:Passes CX X E)
  (I:Inv X pins σ H s) (r:Vals vs us) (h:sp (vs++dvs) H Q E):wpAny (model X.prog X.w) X.A (call (.ref f) us) (EP X pins σ Q) X.xe s:=by
 have r2:Vals (vs++dvs) (us++ds):=r.append hd
 have hl:(us++ds).length=ps.length:=by rw [<-r2.length];exact F.len _ _ _ _ h
 refine wpAny_call (codeAny_mono (F.run X.A X.stack s H ⟨us,[]⟩ (us++ds) (vs++dvs) Q E hr I.env0 (hb s us I.kIn hl) r2 h) λr s' hq=>?_)
 cases r with
 | error e=>exact hx pins σ H s e s' I hq
 | ok fl=>
  cases fl with
  | ret u=>exact I.after hq
  | next=>exact False.elim hq
  | brk=>exact False.elim hq
  | cont=>exact False.elim hq
theorem xP (F:FnOk X.prog X.w X.K X.mg X.base CX k f fd ps sp) (hr:Room k X.A) (hg:Gl X x) (hm:X.mg x=some (.ref f)) (hk:zF X.K (.ref f)=true) (hb:Binds X.K fd ps ds) (hd:Vals dvs ds) (hx:Passes CX X E)
  (ha:PA X (e::es) t) (hdb:(x == ("__debug__" : Str))=false:=by decide) (he:starEach (e::es) X.env=(false,eval e X.env)::starEach es X.env:=by rfl) (hpl:(backTo pos (starEach es X.env)).any (·.1)=false:=by rfl) :
  PE X (.Call (.Name x p) (e::es) [] pos) (tCall sp dvs E t):=by
 intro pins s σ H Q I h
 refine wpAny_Call_Name_kw (ld_glob I hg hm ?_ hdb)
 refine yo (h₀:=X.base) I.ok.mod.kin hk (thn (ha pos pins s σ H _ I h) λus s1 ⟨vs,H1,I1,r,q⟩=>⟨I1.kIn,?_⟩) he hpl
 exact run_fn F hr hb hd hx I1 r q
theorem wK {pl:Sem Bool} (he:PE X o ta) (c:Cls X.K C) (hm:Meth X.K C m f) (F:FnOk X.prog X.w X.K X.mg X.base CX k f fd ps sp) (hr:Room k X.A) (hb:Binds X.K fd ps ds) (hd:Vals dvs ds) (hx:Passes CX X E) (ha:PA X (e::es) t)
  (hst:starEach (e::es) X.env=(false,eval e X.env)::starEach es X.env:=by rfl) (hpl:(backTo pos (starEach es X.env)).any (·.1)=false:=by rfl)
  (ht:eval (.Call (.Attribute o m apos) (e::es) [] pos) X.env=(do
   let ov <- eval o X.env
   standAt apos.atName
   let (f,first) <- holding [ov] (getMethod ov m pl)
   callWith pos f first (backTo pos (starEach (e::es) X.env)) (backToKw pos (keywordEach [] X.env))):=by rfl) :
  PE X (.Call (.Attribute o m apos) (e::es) [] pos) (tMeth C m sp dvs E ta t):=by
 intro pins s σ H Q I h
 refine PySem.W.methodCall_KW (pl:=pl) (thn (he pins s σ H _ I h) λu s1 ⟨x,H1,I1,rx,a,dx,fs,ex,ea,l,q⟩=>?_) ht
 subst ex
 obtain rfl:u=Value.ref a:=rx
 refine getmeth_ok I1 ea c hm l ?_
 refine yo (first:=[.ref a]) (h₀:=X.base) I.ok.mod.kin hm.kp (thn (ha pos pins s1 σ H1 _ I1 q) λus s2 ⟨vs,H2,I2,r,q2⟩=>⟨I2.kIn,?_⟩) hst hpl
 exact run_fn (us:=.ref a::us) (vs:=.ref a::vs) F hr hb hd hx I2 (.cons rfl r) q2
theorem pe_meth0 {pl:Sem Bool} (he:PE X o ta) (c:Cls X.K C) (hm:Meth X.K C m f) (F:FnOk X.prog X.w X.K X.mg X.base CX k f fd ps sp) (hr:Room k X.A) (hb:Binds X.K fd ps ds) (hd:Vals dvs ds) (hx:Passes CX X E)
  (ht:eval (.Call (.Attribute o m apos) [] [] pos) X.env=(do
   let ov <- eval o X.env
   standAt apos.atName
   let (f,first) <- holding [ov] (getMethod ov m pl)
   callWith pos f first (backTo pos (starEach [] X.env)) (backToKw pos (keywordEach [] X.env))):=by rfl) :
  PE X (.Call (.Attribute o m apos) [] [] pos) (tMeth C m sp dvs E ta tNil):=by
 intro pins s σ H Q I h
 refine PySem.W.methodCall_KW (pl:=pl) (thn (he pins s σ H _ I h) λu s1 ⟨x,H1,I1,rx,a,dx,fs,ex,ea,l,q⟩=>?_) ht
 subst ex
 obtain rfl:u=Value.ref a:=rx
 refine getmeth_ok I1 ea c hm l ?_
 exact PySem.W.callWith_K0 (first:=[.ref a]) I1.kIn hm.kp (run_fn (us:=[.ref a]) (vs:=[.ref a]) F hr hb hd hx I1 (.cons rfl .nil) q)
structure Mk (K:PySem.W.Frag) (C f:Addr):Prop where
 makes:yq K C=true
 init:zL K (.ref C) "__init__" = some (some (.ref f))
 fn:zb K (.ref f)=true
 kp:zF K (.ref C)=true
theorem run_make {pins:List (Addr×Obj)}{σ:St}{H:Hp}{s:Shared}{Q:VK}{us:List Value}{vs:List V} (M:Mk X.K C f) (F:FnOk X.prog X.w X.K X.mg X.base CX k f fd ps sp) (hr:Room (k + 1) X.A) (hb:Binds X.K fd ps ds) (hd:Vals dvs ds)
  (hx:Passes CX X E) (I:Inv X pins σ H s) (r:Vals vs us)
  (h:∀ x dx,H x=none->H dx=none->dx≠x->sp (.ref x::(vs++dvs)) (upd (upd H dx (.own x)) x (.ins C dx [])) (λv H2=>v=.non/\Q (.ref x) H2) E) :
  wpAny (model X.prog X.w) X.A (call (.ref C) us) (EP X pins σ Q) X.xe s:=by
 have hq:=h (s.heap.objs.size + 1) s.heap.objs.size (I.hok.fresh (yT _)) (I.hok.fresh (zK _)) (zS (xB _))
 have I2:=Inv.made (C:=C) I
 have r2:Vals (V.ref (s.heap.objs.size + 1)::(vs++dvs)) (Value.ref (s.heap.objs.size + 1)::(us++ds)):=.cons rfl (r.append hd)
 have hl:(Value.ref (s.heap.objs.size + 1)::us++ds).length=ps.length:=by
  have e:=r2.length
  rw [F.len _ _ _ _ hq] at e
  exact e.symm
 refine wpAny_call (make_map (f:=f) I.kIn M.makes M.init (beq_iff_eq.mp M.fn) (codeAny_mono (F.run _ X.stack _ _ ⟨Value.ref (s.heap.objs.size + 1)::us,[]⟩ (Value.ref (s.heap.objs.size + 1)::(us++ds)) _ _ E (hr.make C us [])
  (I2.env0.make C us []) (hb _ (Value.ref (s.heap.objs.size + 1)::us) I2.kIn hl) r2 hq) λr s' hq'=>?_))
 cases r with
 | error e=>exact hx pins σ _ _ e s' I2 hq'
 | ok fl=>
  cases fl with
  | ret u=>
   obtain ⟨v,H',I3,rv,ev,q3⟩:=I2.after hq'
   subst ev
   exact ⟨rv,⟨V.ref (s.heap.objs.size + 1),H',I3,rfl,q3⟩⟩
  | next=>exact False.elim hq'
  | brk=>exact False.elim hq'
  | cont=>exact False.elim hq'
theorem pe_make (M:Mk X.K C f) (F:FnOk X.prog X.w X.K X.mg X.base CX k f fd ps sp) (hr:Room (k + 1) X.A) (hg:Gl X x) (hm:X.mg x=some (.ref C)) (hb:Binds X.K fd ps ds) (hd:Vals dvs ds) (hx:Passes CX X E)
  (ha:PA X (e::es) t) (hdb:(x == ("__debug__" : Str))=false:=by decide) (he:starEach (e::es) X.env=(false,eval e X.env)::starEach es X.env:=by rfl) (hpl:(backTo pos (starEach es X.env)).any (·.1)=false:=by rfl) :
  PE X (.Call (.Name x p) (e::es) [] pos) (tMake C sp dvs E t):=by
 intro pins s σ H Q I h
 refine wpAny_Call_Name_kw (ld_glob I hg hm ?_ hdb)
 refine yo (h₀:=X.base) I.ok.mod.kin M.kp (thn (ha pos pins s σ H _ I h) λus s1 ⟨vs,H1,I1,r,q⟩=>⟨I1.kIn,?_⟩) he hpl
 exact run_make M F hr hb hd hx I1 r q
theorem pe_make0 (M:Mk X.K C f) (F:FnOk X.prog X.w X.K X.mg X.base CX k f fd ps sp) (hr:Room (k + 1) X.A) (hg:Gl X x) (hm:X.mg x=some (.ref C)) (hb:Binds X.K fd ps ds) (hd:Vals dvs ds) (hx:Passes CX X E)
  (hdb:(x == ("__debug__" : Str))=false:=by decide):PE X (.Call (.Name x p) [] [] pos) (tMake C sp dvs E tNil):=by
 intro pins s σ H Q I h
 refine wpAny_Call_Name_kw (ld_glob I hg hm ?_ hdb)
 exact PySem.W.callWith_K0 I.kIn M.kp (run_make (us:=[]) M F hr hb hd hx I .nil h)
end
section
variable {X:Cx}{CX:CXT}{k:Nat}{f C:Addr}{fd:FuncData}{ps ks:List Str}{sp:Sp}{E:XK}{x m:Str}{p pos apos kpos:Pos}{e o:Expr}{es:List Expr}{kws:List Keyword}{te ta:TE}{t tk:TA}{nm:Option Str}
variable {g:List Value->List Value->List Value}{gV:List V->List V->List V}
end
structure FnScope (N P:List Str) (sc:Scope):Prop where
 kind:sc.kind=.function
 co:sc.isCoroutine=false
 gen:sc.isGenerator=false
 nd:N.Nodup
 pre:N.take P.length=P
 par:∀ x∈P,sc.names.lookup x=some .local\/sc.names.lookup x=some .cell
 nofree:∀ y∈sc.names,y.2≠.free
theorem bindL_out {kindOf:Str->Option NameKind}{x:Str}:∀ {binds:List (Str×Value)}{m:Str->Option Value},(∀ v,(x,v) ∉ binds)->bindL kindOf binds m x=m x
 | [],_,_=>rfl
 | (n,v)::r,m,h=>by
  unfold bindL
  rw [bindL_out λw hw=>h w (zn _ hw)]
  split
  ·have:x≠n:=by rintro rfl;exact h v yN
   simp [this]
  ·rfl
theorem bindC_out {kindOf:Str->Option NameKind}{x:Str}:∀ {binds:List (Str×Value)}{m:Str->Option Value},(∀ v,(x,v) ∉ binds)->bindC kindOf binds m x=m x
 | [],_,_=>rfl
 | (n,v)::r,m,h=>by
  unfold bindC
  rw [bindC_out λw hw=>h w (zn _ hw)]
  split
  ·rfl
  ·have:x≠n:=by rintro rfl;exact h v yN
   simp [this]
theorem bindL_get {kindOf:Str->Option NameKind}{x:Str}{v:Value}:∀ {P:List Str}{vs:List Value}{i:Nat}{m:Str->Option Value},P.Nodup->P[i]?=some x->vs[i]?=some v->kindOf x=some .local ->
  bindL kindOf (P.zip vs) m x=some v
 | [],_,_,_,_,h,_,_=>by simp at h
 | _::_,[],_,_,_,_,h,_=>by simp at h
 | p::P,w::vs,0,m,nd,h1,h2,hk=>by
  simp at h1 h2;subst h1;subst h2
  show bindL kindOf ((p,w)::P.zip vs) m p=_
  unfold bindL
  rw [bindL_out λv hv=>(yQ.mp nd).1 (List.of_mem_zip hv).1,if_pos hk]
  simp
 | p::P,w::vs,i + 1,m,nd,h1,h2,hk=>by
  show bindL kindOf ((p,w)::P.zip vs) m x=_
  unfold bindL
  exact bindL_get (i:=i) (yQ.mp nd).2 (by simpa using h1) (by simpa using h2) hk
theorem bindC_get {kindOf:Str->Option NameKind}{x:Str}{v:Value}:∀ {P:List Str}{vs:List Value}{i:Nat}{m:Str->Option Value},P.Nodup->P[i]?=some x->vs[i]?=some v->kindOf x≠some .local ->
  bindC kindOf (P.zip vs) m x=some v
 | [],_,_,_,_,h,_,_=>by simp at h
 | _::_,[],_,_,_,_,h,_=>by simp at h
 | p::P,w::vs,0,m,nd,h1,h2,hk=>by
  simp at h1 h2;subst h1;subst h2
  show bindC kindOf ((p,w)::P.zip vs) m p=_
  unfold bindC
  rw [bindC_out λv hv=>(yQ.mp nd).1 (List.of_mem_zip hv).1,if_neg hk]
  simp
 | p::P,w::vs,i + 1,m,nd,h1,h2,hk=>by
  show bindC kindOf ((p,w)::P.zip vs) m x=_
  unfold bindC
  exact bindC_get (i:=i) (yQ.mp nd).2 (by simpa using h1) (by simpa using h2) hk
def start (N:List Str) (vs:List V):St:=vs.map some++List.replicate (N.length - vs.length) none
def cxOf (CX:CXT) (P:Program) (w:World) (K:PySem.W.Frag) (mg:Str->Option Value) (base:Heap) (N:List Str) (qual:Str) (scope:Scope) (f:Addr) (cd:Value) (A:Around) (outer:List Env) (s:Shared) (H:Hp) (E:XK):Cx where
 prog:=P
 w:=w
 K:=K
 mg:=mg
 base:=base
 A:=A.deeper (envOfC qual scope s.heap.objs.size f cd)
 N:=N
 s₀:=s
 H₀:=H
 env:=envOfC qual scope s.heap.objs.size f cd
 outer:=outer
 stack:=envOfC qual scope s.heap.objs.size f cd::outer
 ex:=[]
 calm:=true
 fn:=λ_=>true
 pn:=[]
 xe:=λe s'=>wpAny (model P w) (A.deeper (envOfC qual scope s.heap.objs.size f cd)) (leaving (envOfC qual scope s.heap.objs.size f cd) e) (λ_ s''=>CX outer H s E e s'') (λe' s''=>CX outer H s E e' s'') s'
theorem cell_has {sc:Scope}{n:Nat}{x:Str} (h:sc.names.lookup x=some .cell):∃ c,(cellsFrom n sc.names []).lookup x=some c:=by
 have q:=PySem.W.cellsFrom_some sc.names n [] (.inl h)
 exact zp.mp q
theorem inv_start {CX:CXT}{P:Program}{w:World}{K:PySem.W.Frag}{mg:Str->Option Value}{base:Heap}{N ps:List Str}{qual:Str}{scope:Scope}{f:Addr}{cd:Value}{A:Around}{outer:List Env} {s s1:Shared}{H:Hp}{E:XK}{us:List Value}{vs:List V}
  (S:FnScope N ps scope) (hd:A.handled=none) (e0:Env0 P w K mg base A outer s H) (hl:vs.length=ps.length) (r:Vals vs us)
  (x:InCallC s s.heap.objs.size (bindL (envOfC qual scope s.heap.objs.size f cd).kindOf (ps.zip us) λ_=>none) (cellsFrom (s.heap.objs.size + 1) scope.names []) (bindC (envOfC qual scope s.heap.objs.size f cd).kindOf (ps.zip us) λ_=>none) s1) :
  Inv (cxOf CX P w K mg base N qual scope f cd A outer s H E) [] (start N vs) H s1:=by
 have hpl:ps.length<=N.length:=by have:=congrArg List.length S.pre;rw [yV] at this;omega
 obtain ⟨h1,tk,rfl,hk⟩:=x.done
 have noA:∀ b:Addr,b ∉ (cxOf CX P w K mg base N qual scope f cd A outer s H E).ex:=λb z=>absurd (show b∈([]:List Addr) from z) (by simp)
 refine ⟨⟨e0.mod,S.kind,rfl,rfl,zK _,λy z c h1 h2=>?_,λy hy=>?_,λy c _ h=>?_,λ_=>hd,Around.frames_deeper e0.frames,.inr ⟨rfl,rfl⟩,λb z=>absurd z (noA b),e0.bs,e0.bsz,λb _ _=>noA b,λb z=>absurd z (noA b),e0.funs,e0.frf⟩,
  rfl,e0.bare,Un.kept hk,⟨_,x.toInCall.ns,λi y v h1 h2 h3=>?_⟩,λy c h=>⟨_,x.cell y c h⟩,e0.hok.fresh (zK _),λy c h=>?_,λp hp=>absurd (show p∈([]:List (Addr×Obj)) from hp) (by simp),e0.hok.kept hk,?_⟩
 ·exact name_of_addr x.apart (yB h1) (yB h2)
 ·have hy:scope.names.lookup y=some .cell\/scope.names.lookup y=some .free:=hy
  rcases hy with hy | hy
  ·exact cell_has hy
  ·exact absurd rfl (S.nofree _ (yB hy))
 ·exact yz (x.above y c (yB h))
 ·have hi:i < vs.length:=by
   unfold start at h2
   by_cases hi:i < vs.length
   ·exact hi
   ·rw [zy (by simpa using hi)] at h2
    rw [yO] at h2
    split at h2 <;> cases h2
  have ha:vs[i]?=some v:=by
   unfold start at h2
   rw [List.getElem?_append_left (by simpa using hi),zC] at h2
   cases e:vs[i]? with
   | none=>rw [e] at h2;cases h2
   | some a=>rw [e] at h2;cases h2;rfl
  obtain ⟨u,hu,rv⟩:=r.get ha
  have hp:ps[i]?=some y:=by
   rw [<-S.pre,List.getElem?_take_of_lt (by omega)];exact h1
  have ndP:ps.Nodup:=by rw [<-S.pre];exact S.nd.sublist (List.take_sublist _ _)
  refine ⟨u,rv,?_⟩
  rcases S.par y (zD hp) with k | k
  ·exact .inl ⟨k,bindL_get ndP hp hu k⟩
  ·obtain ⟨c,e⟩:=cell_has (n:=s.heap.objs.size + 1) k
   refine .inr ⟨.inl k,c,e,?_⟩
   have q:=x.cell y c e
   rw [bindC_get ndP hp hu (by show scope.names.lookup y≠_;rw [k];decide)] at q
   exact q
 ·exact e0.hok.fresh (yz (x.above y c (yB h)))
 ·unfold start
  show _=N.length
  rw [zW,zA,yF]
  omega
theorem fn_of {CX:CXT}{P:Program}{w:World}{K:PySem.W.Frag}{mg:Str->Option Value}{base:Heap}{k:Nat}{f:Addr}{name qual:Str}{params:Arguments}{body:List Stmt}{scope:Scope}{dV kV doc pm cdv ct oc:Value}{an od:Option Addr}
  {osl:Array (Option Value)}{N ps:List Str}{sp:Sp} (lk:K.lookup f=some ⟨oc,od,.func (xF name qual params body scope dV kV doc pm an cdv ct),osl⟩) (hcd:PySem.W.codeIn K cdv qual=true) (S:FnScope N ps scope)
  (len:∀ vs H Q E,sp vs H Q E->vs.length=ps.length)
  (hbody:∀ (A:Around) (outer:List Env) (s:Shared) (H:Hp) (vs:List V) (Q:VK) (E:XK),Room k (A.deeper (envOfC qual scope s.heap.objs.size f cdv))->sp vs H Q E ->
   ∃ t,PSs (cxOf CX P w K mg base N qual scope f cdv A outer s H E) body t/\t { nx:=λ_ H'=>Q .non H',rt:=Q } (start N vs) H) :
  FnOk P w K mg base CX (k + 1) f (xF name qual params body scope dV kV doc pm an cdv ct) ps sp:=by
 refine ⟨len,λA outer s H args us vs Q E hr e0 hb r hsp=>?_⟩
 have hl:=len _ _ _ _ hsp
 have KX:K.In s.heap:=e0.mod.kin.keeps λb o e=>(e0.bs b o e).1
 have lim:s.heap.NoLimit:=e0.mod.nolimit.keeps λb o e=>(e0.bs b o e).1
 have hkind:∀ y∈ps.zip us,scope.names.lookup y.1=some .local\/(scope.names.lookup y.1=some .cell/\((cellsFrom (s.heap.objs.size + 1) scope.names []).lookup y.1).isSome=true):=λ⟨n,v⟩ hy=>by
  rcases S.par n (List.of_mem_zip hy).1 with q | q
  ·exact .inl q
  ·exact .inr ⟨q,PySem.W.cellsFrom_some _ _ _ (.inl q)⟩
 refine codeAny_call_function hr.depth (KX _ _ lk) rfl S.co S.gen rfl (PySem.W.codeRec_of KX hcd) (hb _ _ _ _ ?_)
 refine wpAny_newFunctionEnv_cells S.kind hkind λenv he s1 x=>?_
 subst he
 refine ⟨lim.keeps x.toInCall.keep,codeAny_func ?_⟩
 obtain ⟨t,ht,hq⟩:=hbody A outer s H vs Q E (hr.deeper _) hsp
 have I:Inv (cxOf CX P w K mg base N qual scope f cdv A outer s H E) [] (start N vs) H s1:=inv_start S hr.hd e0 hl r x
 refine wpAny_mono (ht [] s1 (start N vs) H _ I hq) (λfl s' hs=>?_) λe s' hs=>hs
 have fin:∀ {σ':St}{H':Hp}{v:V}{u:Value},Inv (cxOf CX P w K mg base N qual scope f cdv A outer s H E) [] σ' H' s'->RelV v u->Q v H'->CE outer P w H s Q u s':=
  λ{σ' H' v u} J rv q=>⟨v,H',J.os,J.bare,J.base,J.hok,rv,q⟩
 cases fl with
 | ret u=>
  obtain ⟨v,σ',H',J,rv,q⟩:=hs
  exact fin J rv q
 | next=>
  obtain ⟨σ',H',J,q⟩:=hs
  exact fin (v:=V.non) (u:=Value.none) J rfl q
 | brk=>
  obtain ⟨_,_,_,q⟩:=hs
  exact False.elim q
 | cont=>
  obtain ⟨_,_,_,q⟩:=hs
  exact False.elim q
end L2
namespace L2
open PySem PySem.Spec PyProof.Rows
section
variable {X:Cx}{x:Str}{p pos:Pos}{e:Expr}{es:List Expr}{t:TA}{id T:String}{r:List V->Hp->VK->Prop}
def tCB (r:List V->Hp->VK->Prop) (t:TA):TE:=fun σ H Q=>t σ H λvs H1=>r vs H1 Q
theorem xS (hc:CallR X (.builtin id) r) (hg:Gl X x) (hm:X.mg x=none) (hv:bootBuiltins x=some (.builtin id)) (ha:PA X (e::es) t) (hn:x ≠ "__name__" := by decide) (hdb:(x == ("__debug__" : Str))=false:=by decide)
  (he:starEach (e::es) X.env=(false,eval e X.env)::starEach es X.env:=by rfl) (hpl:(backTo pos (starEach es X.env)).any (·.1)=false:=by rfl):PE X (.Call (.Name x p) (e::es) [] pos) (tCB r t):=by
 intro pins s σ H Q I h
 refine wpAny_Call_Name_kw (ld_blt I hg hm hv ?_ hn hdb)
 exact PyProof.Rows.callWith_builtin1 (thn (ha pos pins s σ H _ I h) λus s1 ⟨vs,H1,I1,r1,q1⟩=>hc pins s1 σ H1 vs us Q I1 r1 q1) he hpl
theorem wJ (hc:CallR X (.type T) r) (hg:Gl X x) (hm:X.mg x=none) (hv:bootBuiltins x=some (.type T)) (ha:PA X (e::es) t) (hn:x ≠ "__name__" := by decide) (hdb:(x == ("__debug__" : Str))=false:=by decide)
  (he:starEach (e::es) X.env=(false,eval e X.env)::starEach es X.env:=by rfl) (hpl:(backTo pos (starEach es X.env)).any (·.1)=false:=by rfl):PE X (.Call (.Name x p) (e::es) [] pos) (tCB r t):=by
 intro pins s σ H Q I h
 refine wpAny_Call_Name_kw (ld_blt I hg hm hv ?_ hn hdb)
 exact PyProof.Rows.callWith_type1 (thn (ha pos pins s σ H _ I h) λus s1 ⟨vs,H1,I1,r1,q1⟩=>hc pins s1 σ H1 vs us Q I1 r1 q1) he hpl
end
end L2
namespace L2
open PySem PySem.Spec PyProof.Rows
section
variable {κ:Type} [DecidableEq κ]
def valV (kvs:List (κ×V)) (k:κ):Option V:=(kvs.find? λkv=>decide (kv.1=k)).map (·.2)
def putK (kvs:List (κ×V)) (k:κ) (v:V):List (κ×V):=
 if (kvs.any λkv=>decide (kv.1=k))=true then kvs.map (λkv=>if kv.1=k then (kv.1,v) else kv) else kvs++[(k,v)]
def dropK (kvs:List (κ×V)) (k:κ):List (κ×V):=kvs.filter λkv=>decide (kv.1≠k)
theorem wG {p:κ×V}{r:List (κ×V)}{k:κ} (e:p.1=k):valV (p::r) k=some p.2:=by simp [valV,yR,e]
theorem wH {p:κ×V}{r:List (κ×V)}{k:κ} (e:¬ p.1=k):valV (p::r) k=valV r k:=by simp [valV,yR,e]
theorem valV_any (k:κ):∀ kvs:List (κ×V),(kvs.any λkv=>decide (kv.1=k))=(valV kvs k).isSome
 | []=>rfl
 | p::r=>by
  rw [yu]
  by_cases e:p.1=k
  ·simp only [wG e,decide_eq_true e,Bool.true_or,Option.isSome_some]
  ·rw [wH e,decide_eq_false e,Bool.false_or];exact valV_any k r
theorem valV_map (k j:κ) (y:V):∀ kvs:List (κ×V),valV (kvs.map λkv=>if kv.1=k then (kv.1,y) else kv) j=(valV kvs j).map λx=>if j=k then y else x
 | []=>rfl
 | p::r=>by
  have ih:=valV_map k j y r
  rw [zf]
  by_cases h:p.1=k
  ·rw [if_pos h]
   by_cases e:p.1=j
   ·rw [wG (p:=(p.1,y)) e,wG e,yb,if_pos (e.symm.trans h)]
   ·rw [wH (p:=(p.1,y)) e,wH e,ih]
  ·rw [if_neg h]
   by_cases e:p.1=j
   ·rw [wG (p:=p) e,wG e,yb,if_neg (λz=>h (e.trans z))]
   ·rw [wH (p:=p) e,wH e,ih]
theorem valV_snoc (k j:κ) (y:V):∀ kvs:List (κ×V),valV kvs k=none->valV (kvs++[(k,y)]) j=if j=k then some y else valV kvs j
 | [],_=>by
  by_cases e:k=j
  ·rw [if_pos e.symm];exact wG (p:=(k,y)) e
  ·rw [if_neg (λz=>e z.symm)];exact wH (p:=(k,y)) e
 | p::r,hn=>by
  rw [List.cons_append]
  have hk:¬ p.1=k:=λz=>by rw [wG z] at hn;cases hn
  rw [wH hk] at hn
  have ih:=valV_snoc k j y r hn
  by_cases e:p.1=j
  ·rw [wG e,wG e,if_neg (λz=>hk (e.trans z))]
  ·rw [wH e,wH e,ih]
theorem valV_put (kvs:List (κ×V)) (k j:κ) (y:V):valV (putK kvs k y) j=if j=k then some y else valV kvs j:=by
 unfold putK
 by_cases a:(kvs.any λkv=>decide (kv.1=k))=true
 ·rw [if_pos a,valV_map]
  rw [valV_any] at a
  by_cases e:j=k
  ·obtain ⟨x,hx⟩:=zp.mp a
   rw [if_pos e,e,hx,yb,if_pos rfl]
  ·rw [if_neg e]
   cases valV kvs j with
   | none=>rfl
   | some x=>rw [yb,if_neg e]
 ·rw [if_neg a]
  refine valV_snoc k j y kvs ?_
  rw [valV_any] at a
  cases q:valV kvs k with
  | none=>rfl
  | some x=>rw [q] at a;exact (a rfl).elim
theorem length_putK (kvs:List (κ×V)) (k:κ) (v:V):(putK kvs k v).length<=kvs.length + 1:=by
 unfold putK
 split
 ·rw [zA];omega
 ·rw [zW,zg,yc];omega
theorem RelO.isSome_eq {o:Option V}{u:Option Value} (r:RelO o u):o.isSome=u.isSome:=by
 cases o with
 | none=>cases u with
  | none=>rfl
  | some _=>exact (show False from r).elim
 | some _=>cases u with
  | none=>exact (show False from r).elim
  | some _=>rfl
theorem RelO.getD {o:Option V}{u:Option Value}{d:V}{d':Value} (r:RelO o u) (rd:RelV d d'):RelV (o.getD d) (u.getD d'):=by
 cases o with
 | none=>cases u with
  | none=>exact rd
  | some _=>exact (show False from r).elim
 | some _=>cases u with
  | none=>exact (show False from r).elim
  | some _=>exact r
theorem KV.val {kvs:List (κ×V)}{vs:List (κ×Value)} (r:KV kvs vs) (k:κ):RelO (valV kvs k) (valueAt vs k):=by
 unfold KV at r
 induction r with
 | nil=>exact True.intro
 | @cons p q ps qs h t ih=>
  obtain ⟨h1,h2⟩:=h
  by_cases e:p.1=k
  ·have e':q.1=k:=h1.symm.trans e
   have b:valueAt (q::qs) k=some q.2:=by simp [valueAt,yR,e']
   rw [wG e,b];exact h2
  ·have e':¬ q.1=k:=λz=>e (h1.trans z)
   have b:valueAt (q::qs) k=valueAt qs k:=by simp [valueAt,yR,e']
   rw [wH e,b];exact ih
theorem KV.any {kvs:List (κ×V)}{vs:List (κ×Value)} (r:KV kvs vs) (k:κ):(kvs.any λkv=>decide (kv.1=k))=vs.any λkv=>decide (kv.1=k):=by
 unfold KV at r
 induction r with
 | nil=>rfl
 | cons h t ih=>rw [yu,yu,ih,h.1]
theorem KV.repl {kvs:List (κ×V)}{vs:List (κ×Value)} (r:KV kvs vs) (k:κ) {y:V}{u:Value} (ry:RelV y u) :
  KV (kvs.map λkv=>if kv.1=k then (kv.1,y) else kv) (vs.map λkv=>if kv.1=k then (kv.1,u) else kv):=by
 unfold KV at r ⊢
 induction r with
 | nil=>exact .nil
 | @cons p q ps qs h t ih=>
  rw [zf,zf]
  refine .cons ?_ ih
  obtain ⟨h1,h2⟩:=h
  by_cases e:p.1=k
  ·rw [if_pos e,if_pos (h1.symm.trans e)];exact ⟨h1,ry⟩
  ·rw [if_neg e,if_neg (λz=>e (h1.trans z))];exact ⟨h1,h2⟩
theorem KV.put {kvs:List (κ×V)}{vs:List (κ×Value)} (r:KV kvs vs) (k:κ) {y:V}{u:Value} (ry:RelV y u):KV (putK kvs k y) (stored vs k u):=by
 unfold putK stored
 rw [r.any k]
 by_cases e:(vs.any λkv=>decide (kv.1=k))=true
 ·rw [if_pos e,if_pos e];exact r.repl k ry
 ·rw [if_neg e,if_neg e];exact Paired.snoc r ⟨rfl,ry⟩
theorem KV.drop {kvs:List (κ×V)}{vs:List (κ×Value)} (r:KV kvs vs) (k:κ):KV (dropK kvs k) (without vs k):=by
 unfold KV at r ⊢
 unfold dropK without
 induction r with
 | nil=>exact .nil
 | @cons p q ps qs h t ih=>
  obtain ⟨h1,h2⟩:=h
  rw [List.filter_cons,List.filter_cons]
  by_cases e:p.1=k
  ·have a:¬ decide (p.1≠k)=true:=by simp [e]
   have b:¬ decide (q.1≠k)=true:=by simp [h1.symm.trans e]
   rw [if_neg a,if_neg b];exact ih
  ·have e':¬ q.1=k:=λz=>e (h1.trans z)
   have a:decide (p.1≠k)=true:=by simp [e]
   have b:decide (q.1≠k)=true:=by simp [e']
   rw [if_pos a,if_pos b];exact .cons ⟨h1,h2⟩ ih
theorem KV.length {kvs:List (κ×V)}{vs:List (κ×Value)} (r:KV kvs vs):kvs.length=vs.length:=Paired.length r
theorem dropK_le (kvs:List (κ×V)) (k:κ):(dropK kvs k).length<=kvs.length:=List.length_filter_le _ _
end
theorem kV_is {P:Program}{w:World}{k:Key}{u:Value} (r:RelV (kV k) u):(mixKind P w).is k u=true:=by
 cases k with
 | inl i=>obtain ⟨t,e⟩:=(show ∃ t,u=Value.int i t from r);subst e;exact mixKind_int P w i t
 | inr x=>obtain ⟨t,e⟩:=(show ∃ t,u=Value.str x t from r);subst e;exact mixKind_str P w x t
theorem items_are {P:Program}{w:World}:∀ {ks:List Key}{us:List Value},Vals (ks.map kV) us->ItemsAre (mixKind P w) ks us
 | [],_,r=>by rw [xC] at r;cases r;exact .nil
 | k::ks,_,r=>by
  rw [zf] at r
  cases r with
  | cons h t=>exact .cons (kV_is h) (items_are t)
abbrev KT (H:Hp):List (List Key×V)->List (List Key×Addr×Value)->Prop:=Paired λp q=>p.1=q.1/\H q.2.1=some (.tup (p.1.map kV))/\RelV p.2 q.2.2
theorem KT.val {H:Hp}{kvs:List (List Key×V)}{xs:List (List Key×Addr×Value)} (r:KT H kvs xs) (k:List Key):RelO (valV kvs k) ((atKey xs k).map (·.2)):=by
 induction r with
 | nil=>exact True.intro
 | @cons p q ps qs h t ih=>
  obtain ⟨h1,_,h2⟩:=h
  by_cases e:p.1=k
  ·have e':q.1=k:=h1.symm.trans e
   have b:atKey (q::qs) k=some q.2:=by simp [atKey,yR,e']
   rw [wG e,b];exact h2
  ·have e':¬ q.1=k:=λz=>e (h1.trans z)
   have b:atKey (q::qs) k=atKey qs k:=by simp [atKey,yR,e']
   rw [wH e,b];exact ih
theorem KT.repl {H:Hp}{kvs:List (List Key×V)}{xs:List (List Key×Addr×Value)} (r:KT H kvs xs) (k:List Key) {y:V}{u:Value} (ry:RelV y u) :
  KT H (kvs.map λkv=>if kv.1=k then (kv.1,y) else kv) (xs.map (putAt k u)):=by
 induction r with
 | nil=>exact .nil
 | @cons p q ps qs h t ih=>
  rw [zf,zf]
  refine .cons ?_ ih
  obtain ⟨h1,h2,h3⟩:=h
  unfold putAt
  by_cases e:p.1=k
  ·rw [if_pos e,if_pos (h1.symm.trans e)];exact ⟨h1,h2,ry⟩
  ·rw [if_neg e,if_neg (λz=>e (h1.trans z))];exact ⟨h1,h2,h3⟩
theorem KT.put {H:Hp}{kvs:List (List Key×V)}{xs:List (List Key×Addr×Value)} (r:KT H kvs xs) (k:List Key) {b:Addr}{y:V}{u:Value} (hb:H b=some (.tup (k.map kV))) (ry:RelV y u) :
  KT H (putK kvs k y) (storedH xs k b u):=by
 have e:(kvs.any λkv=>decide (kv.1=k))=(atKey xs k).isSome:=by
  rw [valV_any,(r.val k).isSome_eq,yE]
 unfold putK storedH
 rw [e]
 by_cases q:(atKey xs k).isSome=true
 ·rw [if_pos q,if_pos q];exact r.repl k ry
 ·rw [if_neg q,if_neg q];exact Paired.snoc r ⟨rfl,hb,ry⟩
theorem KT.keeps {H H':Hp}{kvs:List (List Key×V)}{xs:List (List Key×Addr×Value)} (r:KT H kvs xs) (ht:∀ b ys,H b=some (.tup ys)->H' b=some (.tup ys)):KT H' kvs xs:=
 Paired.mapP r λ_ _ z=>⟨z.1,ht _ _ z.2.1,z.2.2⟩
section
variable {P:Program}{w:World}{H:Hp}{h:Heap}{a:Addr}
theorem rd_of {u:HO} (ok:HOk P w H h) (e:Rd H a u):ObjOk P w H h a u:=e.ok ok
theorem dk_rd {kvs:List (Key×V)} (ok:HOk P w H h) (e:Rd H a (.dK kvs)):kvs.length<=sizeLine/\(a == sysModules)=false/\∃ vs,KV kvs vs/\h.DictOf (mixKind P w) a vs:=
 show ObjOk P w H h a (.dK kvs) from rd_of ok e
theorem dk_of {kvs:List (Key×V)} (ok:HOk P w H h) (e:H a=some (.dK kvs)):kvs.length<=sizeLine/\(a == sysModules)=false/\∃ vs,KV kvs vs/\h.DictOf (mixKind P w) a vs:=dk_rd ok (.inl e)
theorem key_of {ks:List Key} (ok:HOk P w H h) (e:H a=some (.tup (ks.map kV))):(tupleKind (mixKind P w)).is h ks a:=by
 obtain ⟨_,its,r,o,h1,h2,n,h3⟩:=(show ObjOk P w H h a (.tup (ks.map kV)) from ok a _ e)
 exact ⟨o,its.toArray,n,h1,h2,h3,by simpa using items_are r⟩
theorem dt_rd {kvs:List (List Key×V)} (ok:HOk P w H h) (e:Rd H a (.dT kvs)):kvs.length<=sizeLine/\(a == sysModules)=false /\
  ∃ xs,KT H kvs xs/\h.DictOfH (tupleKind (mixKind P w)) a xs:=by
 obtain ⟨z,y,xs,r,o,es,ep,h1,h2,h3,h4,h5⟩:=(show ObjOk P w H h a (.dT kvs) from rd_of ok e)
 refine ⟨z,y,xs,r,o,es,ep,h1,h2,h3,h4,λx hx=>?_,h5⟩
 have all:∀ {l:List (List Key×V)}{m:List (List Key×Addr×Value)},KT H l m->∀ x∈m,(tupleKind (mixKind P w)).is h x.1 x.2.1:=by
  intro l m q
  induction q with
  | nil=>intro x hx;exact nomatch hx
  | @cons p q ps qs hq t ih=>
   intro x hx
   rcases zV.mp hx with e | hx
   ·subst e
    exact key_of ok (by rw [<-hq.1];exact hq.2.1)
   ·exact ih x hx
 exact all r x hx
theorem dt_of {kvs:List (List Key×V)} (ok:HOk P w H h) (e:H a=some (.dT kvs)):kvs.length<=sizeLine/\(a == sysModules)=false /\
  ∃ xs,KT H kvs xs/\h.DictOfH (tupleKind (mixKind P w)) a xs:=dt_rd ok (.inl e)
end
def DGet (H:Hp) (a:Addr) (y:V) (r:Option V):Prop:=
 (∃ kvs k,Rd H a (.dK kvs)/\y=kV k/\r=valV kvs k)\/∃ kvs k b,Rd H a (.dT kvs)/\y=.ref b/\H b=some (.tup (k.map kV))/\r=valV kvs k
def DPut (H:Hp) (a:Addr) (y v:V) (H':Hp):Prop:=
 (∃ kvs k,H a=some (.dK kvs)/\y=kV k/\kvs.length < sizeLine/\H'=upd H a (.dK (putK kvs k v))) \/
 ∃ kvs k b,H a=some (.dT kvs)/\y=.ref b/\H b=some (.tup (k.map kV))/\kvs.length < sizeLine/\H'=upd H a (.dT (putK kvs k v))
theorem DGet.k {H:Hp}{a:Addr}{kvs:List (Key×V)}{k:Key} (e:H a=some (.dK kvs)):DGet H a (kV k) (valV kvs k):=.inl ⟨kvs,k,.inl e,rfl,rfl⟩
theorem DPut.k {H:Hp}{a:Addr}{kvs:List (Key×V)}{k:Key}{v:V} (e:H a=some (.dK kvs)) (hl:kvs.length < sizeLine):DPut H a (kV k) v (upd H a (.dK (putK kvs k v))):=.inl ⟨kvs,k,e,rfl,hl,rfl⟩
section
variable {X:Cx}{pins:List (Addr×Obj)}{σ:St}{H:Hp}{s:Shared}{a:Addr}{y v:V}{u r:Value}{o:Option V}{A:Around}{E:Value->Shared->Prop}
theorem Inv.big (I:Inv X pins σ H s):sysModules < s.heap.objs.size:=by
 have h:mainGlobals < s.heap.objs.size:=(I.mod.glob.keeps I.bk).lt
 exact Nat.lt_trans (by decide) h
theorem d_in {Q:Value->Shared->Prop} (hu:A.units + 1 < cLine) (I:Inv X pins σ H s) (g:DGet H a y o) (ry:RelV y u) (h:∀ s',Inv X pins σ H s'->Q (.bool o.isSome) s') :
  wpAny (model X.prog X.w) A (compareOp .In u (.ref a)) Q E s:=by
 rcases g with ⟨kvs,k,e,ey,l⟩ | ⟨kvs,k,b,e,ey,eb,l⟩
 ·subst ey
  obtain ⟨z,hd,vs,rel,dd⟩:=dk_rd I.hok e
  refine wpAny_in_of (kV_is ry) hd dd.mapOf ?_
  rw [<-(rel.val k).isSome_eq,<- l]
  exact h _ (I.tok _)
 ·subst ey
  cases (show u=Value.ref b from ry)
  obtain ⟨z,hd,xs,rel,dd⟩:=dt_rd I.hok e
  refine wpAny_in_heap (tupleKind_room_in1 hu) (key_of I.hok eb) hd dd ?_
  have q:=(rel.val k).isSome_eq
  rw [yE] at q
  rw [<-q,<- l]
  exact h _ (I.tok _)
theorem d_notIn {Q:Value->Shared->Prop} (hu:A.units + 1 < cLine) (I:Inv X pins σ H s) (g:DGet H a y o) (ry:RelV y u) (h:∀ s',Inv X pins σ H s'->Q (.bool (!o.isSome)) s') :
  wpAny (model X.prog X.w) A (compareOp .NotIn u (.ref a)) Q E s:=by
 rcases g with ⟨kvs,k,e,ey,l⟩ | ⟨kvs,k,b,e,ey,eb,l⟩
 ·subst ey
  obtain ⟨z,hd,vs,rel,dd⟩:=dk_rd I.hok e
  refine wpAny_notIn_of (kV_is ry) hd dd.mapOf ?_
  rw [<-(rel.val k).isSome_eq,<- l]
  exact h _ (I.tok _)
 ·subst ey
  cases (show u=Value.ref b from ry)
  obtain ⟨z,hd,xs,rel,dd⟩:=dt_rd I.hok e
  refine wpAny_notIn_heap (tupleKind_room_in1 hu) (key_of I.hok eb) hd dd ?_
  have q:=(rel.val k).isSome_eq
  rw [yE] at q
  rw [<-q,<- l]
  exact h _ (I.tok _)
theorem d_write {h':Heap}{t':Nat}{ob:HO} (I:Inv X pins σ H s) (mu:Mut (H a)) (hs:Heap.SameBut a s.heap h') (he:∃ q,h'.get? a=some q) (new:ObjOk X.prog X.w (upd H a ob) h' a ob) :
  Inv X pins σ (upd H a ob) { s with heap:=h',toks:=t' }:=
 I.write (x:=a) (e:=a) mu (.inl rfl) (λb q hb z=>(hs.2 b hb).trans z) he new
theorem dk_new {P:Program}{w:World}{H':Hp}{h':Heap}{kvs:List (Key×V)}{vs:List (Key×Value)} (z:kvs.length<=sizeLine) (hd:(a == sysModules)=false) (rel:KV kvs vs) (dd:h'.DictOf (mixKind P w) a vs) :
  ObjOk P w H' h' a (.dK kvs):=⟨z,hd,vs,rel,dd⟩
theorem d_setItem {H':Hp}{Q:Unit->Shared->Prop} (hu:A.units + 1 < cLine) (I:Inv X pins σ H s) (g:DPut H a y v H') (ry:RelV y u) (rv:RelV v r) (h:∀ s',Inv X pins σ H' s'->Q () s') :
  wpAny (model X.prog X.w) A (setItem (.ref a) u r) Q E s:=by
 rcases g with ⟨kvs,k,e,ey,l,eH⟩ | ⟨kvs,k,b,e,ey,eb,l,eH⟩
 ·subst ey eH
  obtain ⟨z,hd,vs,rel,dd⟩:=dk_of I.hok e
  have hz:vs.length<=sizeLine:=by rw [<-rel.length];exact z
  have hl:(putK kvs k v).length<=sizeLine:=by have:=length_putK kvs k v;omega
  refine wpAny_setItem_pairs (hsz:=hz) (kV_is ry) dd λh' dd' hs=>h _ ?_
  have he:∃ q,h'.get? a=some q:=let ⟨q,_,_,hq,_⟩:=dd';⟨q,hq⟩
  exact d_write I (by rw [e];exact True.intro) hs he (dk_new hl hd (rel.put k rv) dd')
 ·subst ey eH
  cases (show u=Value.ref b from ry)
  obtain ⟨z,hd,xs,rel,dd⟩:=dt_of I.hok e
  have hz:xs.length<=sizeLine:=by rw [<-Paired.length rel];exact z
  have hl:(putK kvs k v).length<=sizeLine:=by have:=length_putK kvs k v;omega
  refine wpAny_setItem_heap (hsz:=hz) (tupleKind_room_in1 hu) (key_of I.hok eb) dd λh' dd' hs=>h _ ?_
  obtain ⟨q,es,ep,hq,h2,h3,h4,_,h5⟩:=dd'
  refine d_write I (by rw [e];exact True.intro) hs ⟨q,hq⟩ ⟨hl,hd,_,(rel.put k eb rv).keeps λc ys ec=>?_,q,es,ep,hq,h2,h3,h4,h5⟩
  rw [xO (wP ec e (λz=>nomatch z))]
  exact ec
end
section
variable {X:Cx}{pins:List (Addr×Obj)}{σ:St}{H:Hp}{s:Shared}{a:Addr}{kvs:List (Key×V)}{k:Key}{u:Value}{A:Around}{E:Value->Shared->Prop}
theorem d_delItem {Q:Unit->Shared->Prop} (I:Inv X pins σ H s) (e:H a=some (.dK kvs)) (ry:RelV (kV k) u) (l:(valV kvs k).isSome=true) (h:∀ s',Inv X pins σ (upd H a (.dK (dropK kvs k))) s'->Q () s') :
  wpAny (model X.prog X.w) A (delItem (.ref a) u) Q E s:=by
 obtain ⟨z,hd,vs,rel,dd⟩:=dk_of I.hok e
 refine wpAny_delItem_slot dd.typeIs (by decide) PySem.F.slot_dict_delitem
  (call_meetsIn PySem.F.slot_dict_delitem dd.typeIs PySem.F.entry_dict_delitem (PySem.F.args_dict_delitem_2 _ _) (meets_dict_delitem_pairs (mixKind X.prog X.w) a (kV_is ry)) ⟨vs,dd,by rw [<-rel.length];exact z,by rw [<-(rel.val k).isSome_eq];exact l,λh' dd' hs=>h _ ?_⟩)
 have he:∃ q,h'.get? a=some q:=let ⟨q,_,_,hq,_⟩:=dd';⟨q,hq⟩
 exact d_write I (by rw [e];exact True.intro) hs he (dk_new (zk (dropK_le kvs k) z) hd (rel.drop k) dd')
end
def sDPut (td ty tv:TE):TS:=λD σ H=>tv σ H λv H1=>td σ H1 λx H2=>ty σ H2 λy H3=>∃ a H4,x=.ref a/\DPut H3 a y v H4/\D.nx σ H4
def sDDel (td ty:TE):TS:=λD σ H=>td σ H λx H1=>ty σ H1 λy H2=>∃ a kvs k,x=.ref a/\H2 a=some (.dK kvs)/\y=kV k/\(valV kvs k).isSome=true/\D.nx σ (upd H2 a (.dK (dropK kvs k)))
section
variable {X:Cx}{o i e value:Expr}{pos pos' tpos:Pos}{td ty tv:TE}
theorem ps_dput (hu:X.A.units + 1 < cLine) (ho:PE X o td) (hi:PE X i ty) (hv:PE X value tv) (hs:swapsWith value (some (.Subscript o i pos')) pos.line X.env=pure false) :
  PS X (.Assign [.Subscript o i pos'] value pos) (sDPut td ty tv):=by
 intro pins s σ H D I h
 refine wpAny_Assign_Subscript (thn (hv pins s σ H _ I h) λr s1 ⟨v,H1,I1,rv,q1⟩=>thn (ho pins s1 σ H1 _ I1 q1) λu s2 ⟨x,H2,I2,rx,q2⟩=>thn (hi pins s2 σ H2 _ I2 q2) λiv s3 ⟨y,H3,I3,ry,a,H4,ex,g,q3⟩=>?_) hs
 subst ex
 obtain rfl:u=Value.ref a:=rx
 exact d_setItem hu I3 g ry rv λs4 I4=>⟨σ,H4,I4,q3⟩
theorem ps_ddel (ho:PE X o td) (hi:PE X i ty):PS X (.Delete [.Subscript o i tpos] pos) (sDDel td ty):=by
 intro pins s σ H D I h
 refine wpAny_Delete (wpAny_deleteEach_cons (wpAny_delete_Subscript (thn (ho pins s σ H _ I h) λu s1 ⟨x,H1,I1,rx,q1⟩=>thn (hi pins s1 σ H1 _ I1 q1) λiv s2 ⟨y,H2,I2,ry,a,kvs,k,ex,e,ey,l,q2⟩=>?_)))
 subst ex ey
 obtain rfl:u=Value.ref a:=rx
 exact d_delItem I2 e ry l λs3 I3=>wpAny_deleteEach_nil ⟨σ,_,I3,q2⟩
end
theorem dk_empty {P:Program}{w:World}{H:Hp} (h:Heap) (hb:sysModules < h.objs.size):ObjOk P w H (h.push { cls:=.type "dict", data:=.dict #[] }) h.objs.size (.dK []):=
 ⟨zZ _,beq_eq_false_iff_ne.mpr (Ne.symm (zS hb)),[],.nil,Heap.DictOf.new h⟩
section
variable {X:Cx}{pos:Pos}
end
def tPairs:List (TE×TE)->St->Hp->(List (V×V)->Hp->Prop)->Prop
 | [],_,H,Q=>Q [] H
 | (tk,tv)::r,σ,H,Q=>tk σ H λx H1=>tv σ H1 λy H2=>tPairs r σ H2 λps H3=>Q ((x,y)::ps) H3
abbrev VV:List (V×V)->List (Value×Value)->Prop:=Paired λp q=>RelV p.1 q.1/\RelV p.2 q.2
def PPs (X:Cx) (pos:Pos) (keys:List (Option Expr)) (values:List Expr) (trs:List (TE×TE)):Prop:=
 ∀ (pins:List (Addr×Obj)) (s:Shared) (σ:St) (H:Hp) (Q:List (V×V)->Hp->Prop),Inv X pins σ H s->tPairs trs σ H Q ->
  wpAny (model X.prog X.w) X.A (evalPairs (pairTrees keys values X.env pos)) (λvs s'=>∃ ps H',Inv X pins σ H' s'/\VV ps vs/\Q ps H') X.xe s
theorem pps_nil {X:Cx}{pos:Pos}:PPs X pos [] [] []:=λpins s σ H Q I h=>pairTrees_nil_walk ⟨[],H,I,.nil,h⟩
theorem pps_cons {X:Cx}{pos:Pos}{k v:Expr}{ks:List (Option Expr)}{vs:List Expr}{tk tv:TE}{trs:List (TE×TE)} (hk:PE X k tk) (hv:PE X v tv) (hr:PPs X pos ks vs trs) :
  PPs X pos (some k::ks) (v::vs) ((tk,tv)::trs):=λpins s σ H Q I h=>
 pairTrees_cons_walk (thn (hk pins s σ H _ I h) λu s1 ⟨x,H1,I1,rx,q1⟩=>thn (hv pins s1 σ H1 _ I1 q1) λw2 s2 ⟨y,H2,I2,ry,q2⟩=>
  thn (hr pins s2 σ H2 _ I2 q2) λws s3 ⟨ps,H3,I3,rel,q3⟩=>⟨(x,y)::ps,H3,I3,.cons ⟨rx,ry⟩ rel,q3⟩)
def mergeK (kvs more:List (Key×V)):List (Key×V):=more.foldl (λacc kv=>putK acc kv.1 kv.2) kvs
theorem KV.merge:∀ {more:List (Key×V)}{rs:List (Key×Value)}{kvs:List (Key×V)}{vs:List (Key×Value)},KV more rs->KV kvs vs->KV (mergeK kvs more) (merged vs rs):=by
 intro more rs kvs vs r
 unfold KV at r
 induction r generalizing kvs vs with
 | nil=>intro q;exact q
 | @cons p q ps qs h t ih=>
  intro r0
  have e:KV (putK kvs p.1 p.2) (stored vs q.1 q.2):=by
   have:=r0.put p.1 h.2
   rw [<-h.1];exact this
  exact ih e
theorem length_mergeK:∀ (more kvs:List (Key×V)),(mergeK kvs more).length<=kvs.length + more.length
 | [],kvs=>by show kvs.length<=kvs.length + 0;omega
 | p::r,kvs=>by
  have h1:=length_mergeK r (putK kvs p.1 p.2)
  have h2:=length_putK kvs p.1 p.2
  show (mergeK (putK kvs p.1 p.2) r).length<=_
  rw [zg];omega
theorem carries_of {P:Program}{w:World}:∀ {kvs:List (Key×V)}{ws:List (Value×Value)},VV (kvs.map λkv=>(kV kv.1,kv.2)) ws->∃ rs,Carries (mixKind P w) ws rs/\KV kvs rs
 | [],_,r=>by rw [xC] at r;cases r;exact ⟨[],True.intro,.nil⟩
 | p::kvs,_,r=>by
  rw [zf] at r
  cases r with
  | @cons a b as bs h t=>
   obtain ⟨rs,c,q⟩:=carries_of (P:=P) (w:=w) t
   obtain ⟨b1,b2⟩:=b
   exact ⟨(p.1,b2)::rs,⟨kV_is h.1,rfl,c⟩,.cons ⟨rfl,h.2⟩ q⟩
def tDisp (trs:List (TE×TE)):TE:=fun σ H Q=>∀ p,H p=none->tPairs trs σ (upd H p (.dK [])) λps H2=>H2 p=some (.dK [])/\∃ kvs:List (Key×V),ps=kvs.map (λkv=>(kV kv.1,kv.2))/\kvs.length<=15/\Q (.ref p) (upd H2 p (.dK (mergeK [] kvs)))
theorem pe_disp {X:Cx}{pos:Pos}{keys:List (Option Expr)}{values:List Expr}{trs:List (TE×TE)} (h:PPs X pos keys values trs) (hall:keys.all (·.isSome)=true) (hl:keys.length=values.length) (h0:keys≠[])
  (h15:keys.length<=15):PE X (.Dict keys values pos) (tDisp trs):=by
 intro pins s σ H Q I q
 have hn:=I.hok.fresh (zK s.heap.objs.size)
 have I1:=I.laid (a:=s.heap.objs.size) (o:=.dK []) (h':=s.heap.push { cls:=.type "dict", data:=.dict #[] }) (t':=s.toks) (λ_ _ q=>Heap.get?_push_of_some _ q) (zK _) (dk_empty s.heap I.big)
 refine wpAny_Dict_walk (knd:=mixKind X.prog X.w) hall hl h0 h15 (thn (h pins _ σ _ _ I1 (q _ hn)) λws s2 ⟨ps,H2,I2,rel,e,kvs,ep,lk,q2⟩=>?_)
 subst ep
 obtain ⟨rs,c,rk⟩:=carries_of (P:=X.prog) (w:=X.w) rel
 obtain ⟨z,hd,vs0,r0,dd⟩:=dk_of I2.hok e
 cases r0
 refine ⟨rs,c,dd,λh' dd' hs=>⟨.ref s.heap.objs.size,_,?_,rfl,q2⟩⟩
 have hz:(mergeK [] kvs).length<=sizeLine:=by
  have h1:=length_mergeK kvs []
  rw [yc] at h1
  rw [sizeLine_eq];omega
 have he:∃ q,h'.get? s.heap.objs.size=some q:=let ⟨q,_,_,hq,_⟩:=dd';⟨q,hq⟩
 exact d_write I2 (by rw [e];exact True.intro) hs he (dk_new hz hd (rk.merge .nil) dd')
section
variable {X:Cx}{pins:List (Addr×Obj)}{σ:St}{H:Hp}{s:Shared}{a:Addr}{y d:V}{u r:Value}{o:Option V}{A:Around}{E:Value->Shared->Prop}
theorem d_get1 {Q:Value->Shared->Prop} (hu:A.units + 1 < cLine) (I:Inv X pins σ H s) (g:DGet H a y o) (ry:RelV y u) (h:∀ w' s',Inv X pins σ H s'->RelV (o.getD .non) w'->Q w' s') :
  wpAny (model X.prog X.w) A (call (.builtin "dict.get") [.ref a,u]) Q E s:=by
 rcases g with ⟨kvs,k,e,ey,l⟩ | ⟨kvs,k,b,e,ey,eb,l⟩
 ·subst ey
  obtain ⟨z,hd,vs,rel,dd⟩:=dk_rd I.hok e
  refine call_meetsIn PySem.F.slot_dict_get dd.typeIs PySem.F.entry_dict_get (PySem.F.args_dict_get_2 _ _) (meets_dict_get (mixKind X.prog X.w) a (kV_is ry) hd) ⟨_,dd.mapOf,h _ _ (I.tok _) ?_⟩
  rw [l]
  exact (rel.val k).getD rfl
 ·subst ey
  cases (show u=Value.ref b from ry)
  obtain ⟨z,hd,xs,rel,dd⟩:=dt_rd I.hok e
  refine call_meetsIn PySem.F.slot_dict_get dd.typeIs PySem.F.entry_dict_get (PySem.F.args_dict_get_2 _ _) (meetsH_dict_get (tupleKind (mixKind X.prog X.w)) a b hd) ⟨tupleKind_room_in1 hu,k,xs,key_of I.hok eb,dd,h _ _ (I.tok _) ?_⟩
  rw [l]
  exact (rel.val k).getD rfl
end
section
variable {X:Cx}{o e f:Expr}{apos cpos:Pos}{td ty tx:TE}
end
section
variable {X:Cx}{pins:List (Addr×Obj)}{σ:St}{H:Hp}{s:Shared}{a:Addr}{kvs:List (Key×V)}{A:Around}{E:Value->Shared->Prop}
end
section
variable {X:Cx}{pins:List (Addr×Obj)}{σ:St}{H:Hp}{s:Shared}{a:Addr}{y:V}{u:Value}{A:Around}{E:Value->Shared->Prop}
end
end L2
namespace HT
open PySem PyProof.Rows
section
open PySem.SeqAt
open PySem.AutoSeq1 (wpAny_loadPart')
open PySem.MeetsSeq PySem.MeetsSeq2 PySem.MeetsSeq3
end
section
variable {prog:Program}{w:World}{A:Around}{E:Value->Shared->Prop}{s:Shared}
def sIx (n d:Nat):Option Int->Nat
 | none=>d
 | some v=>if v < 0 then (v + (n:Int)).toNat else min v.toNat n
theorem sIx_le (n d:Nat) (hd:d<=n) (o:Option Int):sIx n d o<=n:=by
 cases o with
 | none=>exact hd
 | some v=>
  show (if v < 0 then (v + (n:Int)).toNat else min v.toNat n)<=n
  by_cases hv:v < 0
  ·rw [if_pos hv];omega
  ·rw [if_neg hv];exact Nat.min_le_right _ _
theorem clip_eq (v:Int) (n d:Nat):(if v < 0 then max (v + (n:Int)) 0 else min v (n:Int))=((sIx n d (some v):Nat):Int):=by
 show (if v < 0 then max (v + (n:Int)) 0 else min v (n:Int))=(((if v < 0 then (v + (n:Int)).toNat else min v.toNat n):Nat):Int)
 by_cases hv:v < 0
 ·simp only [if_pos hv];omega
 ·simp only [if_neg hv];omega
theorem adjust_gen (lo hi:Option Int) (n:Nat):Builtin.Slice.sliceAdjust lo hi 1 (n:Int)=(((sIx n 0 lo:Nat):Int),((sIx n n hi:Nat):Int)):=by
 have h1:¬ ((1:Int) < 0):=by omega
 unfold Builtin.Slice.sliceAdjust
 simp only [h1,if_false]
 refine Prod.ext ?_ ?_
 ·cases lo with
  | none=>rfl
  | some v=>exact clip_eq v n 0
 ·cases hi with
  | none=>rfl
  | some v=>exact clip_eq v n n
theorem places_gen (i j:Nat):Builtin.Slice.slicePlaces (i:Int) (j:Int) 1=j - i:=by
 unfold Builtin.Slice.slicePlaces
 have h1:(1:Int) > 0:=by omega
 simp only [h1,if_true,Int.ediv_one]
 split <;> omega
theorem slicePart_ {v:Value}{o:Option Int}{Q:Option Int->Shared->Prop} (p:IsPart v o) (h:Q o s):wpAny (model prog w) A (Builtin.Slice.slicePartIndex v) Q E s:=by
 cases p with
 | none=>exact slicePart_none h
 | int i t=>exact slicePart_int h
theorem sliceApplied_gen {sl:Addr}{vl vu:Value}{lo hi:Option Int}{n:Nat}{Q:Int×Int×Nat->Shared->Prop} (hs:s.heap.IsSliceOf sl vl vu .none) (pl:IsPart vl lo) (pu:IsPart vu hi)
  (h:Q (((sIx n 0 lo:Nat):Int),1,sIx n n hi - sIx n 0 lo) s):wpAny (model prog w) A (Builtin.Slice.sliceApplied (.ref sl) (pure (n:Int))) Q E s:=by
 obtain ⟨os,hos,hcs,hds⟩:=id hs
 unfold Builtin.Slice.sliceApplied Builtin.Slice.sliceFields
 refine wpAny_bind (wpAny_bind (wpAny_field hos hds (x:=vl) rfl (wpAny_bind (wpAny_field hos hds (x:=vu) rfl (wpAny_bind (wpAny_field hos hds (x:=.none) rfl (wpAny_pure ?_)))))))
 refine wpAny_bind (slicePart_none ?_)
 show wpAny _ _ (if ((1:Int) == 0)=true then _ else _) _ _ s
 rw [if_neg (by decide)]
 refine wpAny_bind (slicePart_ pl (wpAny_bind (slicePart_ pu (wpAny_bind (wpAny_pure ?_)))))
 show wpAny _ _ (match Builtin.Slice.sliceAdjust lo hi 1 (n:Int) with | (lo,hi)=>pure (lo,(1:Int),Builtin.Slice.slicePlaces lo hi 1)) _ _ s
 rw [adjust_gen lo hi n]
 show wpAny _ _ (pure (((sIx n 0 lo:Nat):Int),(1:Int),Builtin.Slice.slicePlaces ((sIx n 0 lo:Nat):Int) ((sIx n n hi:Nat):Int) 1)) _ _ s
 rw [places_gen]
 exact wpAny_pure h
theorem pick_gen (xs:Array Value) (i k:Nat):((List.range k).filterMap λ(m:Nat)=>xs[((i:Int) + (m:Int) * 1).toNat]?).toArray=((xs.toList.drop i).take k).toArray:=by
 have e:(λ(m:Nat)=>xs[((i:Int) + (m:Int) * 1).toNat]?)=λm=>xs[i + m]?:=by
  funext m
  have:((i:Int) + (m:Int) * 1).toNat=i + m:=by omega
  rw [this]
 rw [e]
 have:=pick_run xs i k
 rw [List.filterMap_map] at this
 have e2:((λx=>xs[x]?) ∘ λx=>i + x)=λm=>xs[i + m]?:=rfl
 rw [e2] at this
 rw [this]
theorem getItem_tuple_cut {t sl:Addr}{items:Array Value}{vl vu:Value}{lo hi:Option Int}{Q:Value->Shared->Prop} (ht:IsTup s.heap t items) (hs:s.heap.IsSliceOf sl vl vu .none) (pl:IsPart vl lo) (pu:IsPart vu hi)
  (hw:¬ (sIx items.size 0 lo=0/\sIx items.size items.size hi=items.size))
  (h:Q (.ref s.heap.objs.size) { s with heap:=s.heap.push { cls:=.type "tuple", data:=.seq ((items.toList.drop (sIx items.size 0 lo)).take (sIx items.size items.size hi - sIx items.size 0 lo)).toArray } })
  (hsz:items.size<=sizeLine):wpAny (model prog w) A (getItem (.ref t) (.ref sl)) Q E s:=by
 have htake:sizeOk (.seq ((items.toList.drop (sIx items.size 0 lo)).take (sIx items.size items.size hi - sIx items.size 0 lo)).toArray):=by
  show ((items.toList.drop (sIx items.size 0 lo)).take (sIx items.size items.size hi - sIx items.size 0 lo)).toArray.size<=sizeLine
  rw [zP,yV,List.length_drop,Array.length_toList]
  omega
 have hj:sIx items.size items.size hi<=items.size:=sIx_le _ _ (zK _) hi
 obtain ⟨os,hos,hcs,hds⟩:=id hs
 have hTs:s.TypeIs (.ref sl) "slice" := ⟨os,hos,hcs⟩
 unfold getItem
 try with_reducible refine wpAny_holding ?_
 first | refine wpAny_bind (wpAny_pure ?_) | skip
 refine wpAny_bind (wpAny_sequenceKey ht.typeIs (by decide) ?_)
 refine wpAny_bind (wpAny_callSpecial?_slot (name:=Str.ofString "__getitem__") ht.typeIs PyProof.Rows.slot_tuple_getitem
  (wpAny_call_entry PyProof.Rows.slot_tuple_getitem ht.typeIs entry_tuple_getitem ?_ (args_tuple_getitem _ _)))
 show wpAny _ _ (Builtin.Tuple.tupleItemsOf (.ref t) >>= _) _ _ s
 refine wpAny_bind (tupleItemsOf_ ht ?_)
 refine wpAny_bind (wpAny_typeOf hTs ?_)
 rw [if_pos (by decide)]
 refine wpAny_bind (sliceApplied_gen hs pl pu ?_)
 have hno:¬ ((((sIx items.size 0 lo:Nat):Int) == 0 && (1:Int) == 1 && (sIx items.size items.size hi - sIx items.size 0 lo) == items.size)=true):=by
  intro q
  rw [zh,zh] at q
  have q1:((sIx items.size 0 lo:Nat):Int)=0:=eq_of_beq q.1.1
  have q2:sIx items.size items.size hi - sIx items.size 0 lo=items.size:=eq_of_beq q.2
  exact hw ⟨by omega,by omega⟩
 show wpAny _ _ (if (((sIx items.size 0 lo:Nat):Int) == 0 && (1:Int) == 1 && (sIx items.size items.size hi - sIx items.size 0 lo) == items.size)=true then _ else _) _ _ s
 rw [if_neg hno,pick_gen]
 first
  | exact wpAny_bind (m:=Builtin.Tuple.tupleExact _) (wpAny_newObj_type (wpAny_pure ⟨_,rfl,wpAny_pure h⟩) htake)
  | exact wpAny_bind (m:=Builtin.Tuple.tupleExact _) (wpAny_newObj_type (wpAny_bind (wpAny_pure (wpAny_pure ⟨_,rfl,wpAny_pure h⟩))) htake)
  | exact wpAny_bind (wpAny_bind (m:=Builtin.Tuple.tupleExact _) (wpAny_newObj_type (wpAny_pure (wpAny_pure ⟨_,rfl,wpAny_pure h⟩)) htake))
  | exact wpAny_bind (wpAny_bind (m:=Builtin.Tuple.tupleExact _) (wpAny_newObj_type (wpAny_pure ⟨_,rfl,wpAny_pure h⟩) htake))
end
end HT
namespace L2
open PySem PySem.Spec PyProof.Rows
abbrev TO:=St->Hp->(Option Int->Hp->Prop)->Prop
def PO (X:Cx) (e:Option Expr) (t:TO):Prop:=
 ∀ (pins:List (Addr×Obj)) (s:Shared) (σ:St) (H:Hp) (Q:Option Int->Hp->Prop),Inv X pins σ H s->t σ H Q ->
  wpAny (model X.prog X.w) X.A (evalPart e X.env) (λu s'=>∃ o H',Inv X pins σ H' s'/\IsPart u o/\Q o H') X.xe s
def tNoPart:TO:=λ_ H Q=>Q none H
def tPart (t:TE):TO:=fun σ H Q=>t σ H λx H1=>∃ i,x=.int i/\Q (some i) H1
theorem intsAre_of {ns:List Int}:∀ {us:List Value},Vals (ns.map V.int) us->IntsAre us ns:=by
 induction ns with
 | nil=>intro us r;rw [xC] at r;cases r;exact .nil
 | cons n ns ih=>
  intro us r
  rw [zf] at r
  cases r with
  | cons r1 r2=>
   obtain ⟨t,e⟩:=r1
   subst e
   exact .cons n t (ih r2)
section
variable {X:Cx}{e:Expr}{te:TE}{lo hi:Option Expr}{tl th:TO} {pos p2:Pos}
theorem po_none:PO X none tNoPart:=by
 intro pins s σ H Q I h
 rw [evalPart_none]
 exact wpAny_pure ⟨none,H,I,.none,h⟩
theorem po_some (h:PE X e te):PO X (some e) (tPart te):=by
 intro pins s σ H Q I hw
 rw [evalPart_some]
 refine thn (h pins s σ H _ I hw) λu s1 ⟨x,H1,I1,r1,q1⟩=>?_
 obtain ⟨i,rfl,q⟩:=q1
 obtain ⟨t,rfl⟩:=r1
 exact ⟨some i,H1,I1,.int i t,q⟩
def SlR (X:Cx) (r:V->Option Int->Option Int->Hp->VK->Prop):Prop:=
 ∀ (pins:List (Addr×Obj)) (s:Shared) (σ:St) (H:Hp) (x:V) (v vl vu:Value) (lo hi:Option Int) (sl:Addr) (Q:VK),Inv X pins σ H s->RelV x v->s.heap.IsSliceOf sl vl vu .none->IsPart vl lo->IsPart vu hi->r x lo hi H Q ->
  ∃ T id,typeLookup (.type T) "__getitem__" = pure (some (.builtin id))/\s.TypeIs v T/\wpAny (model X.prog X.w) X.A (getItem v (.ref sl)) (EP X pins σ Q) X.xe s
def tSl (r:V->Option Int->Option Int->Hp->VK->Prop) (te:TE) (tl th:TO):TE:=fun σ H Q=>te σ H λx H1=>tl σ H1 λl H2=>th σ H2 λu H3=>r x l u H3 Q
theorem pe_slice {r:V->Option Int->Option Int->Hp->VK->Prop} (hr:SlR X r) (he:PE X e te) (hl:PO X lo tl) (hu:PO X hi th):PE X (.Subscript e (.Slice lo hi none p2) pos) (tSl r te tl th):=by
 intro pins s σ H Q I h
 refine Subscript_ (thn (he pins s σ H _ I h) λv s1 ⟨x,H1,I1,r1,q1⟩=>?_)
 refine wpAny_Slice (thn (hl pins s1 σ H1 _ I1 q1) λvl s2 ⟨l,H2,I2,pl,q2⟩=>thn (hu pins s2 σ H2 _ I2 q2) λvu s3 ⟨u,H3,I3,pu,q3⟩=>?_)
 rw [evalPart_none]
 refine wpAny_pure ?_
 have I4:Inv X pins σ H3 { s3 with heap:=s3.heap.push { cls:=.type "slice", data:=.fields #[vl,vu,.none] } }:=I3.kept (t':=s3.toks) λb ob q=>Heap.get?_push_of_some _ q
 obtain ⟨T,id,hT,ht,hg⟩:=hr pins { s3 with heap:=s3.heap.push { cls:=.type "slice", data:=.fields #[vl,vu,.none] } } σ H3 x v vl vu l u s3.heap.objs.size Q I4 r1 (Heap.IsSliceOf.new ..) pl pu q3
 show wpAny (model X.prog X.w) X.A (subscriptTail e (.Slice lo hi none p2) v (.ref s3.heap.objs.size)) (EP X pins σ Q) X.xe { s3 with heap:=s3.heap.push { cls:=.type "slice", data:=.fields #[vl,vu,.none] } }
 exact tail_any (ops:=[.ref s3.heap.objs.size,v]) ht hT hg (by with_unfolding_all rfl)
def cutV (xs:List V) (lo hi:Option Int):List V:=(xs.drop (HT.sIx xs.length 0 lo)).take (HT.sIx xs.length xs.length hi - HT.sIx xs.length 0 lo)
theorem cutV_length (xs:List V) (lo hi:Option Int):(cutV xs lo hi).length<=xs.length:=by
 unfold cutV
 rw [yV,List.length_drop]
 omega
def rSlT (K:PySem.W.Frag):V->Option Int->Option Int->Hp->VK->Prop:=λx lo hi H Q=>∃ a xs,x=.ref a/\SqT K H a xs /\
 ¬ (HT.sIx xs.length 0 lo=0/\HT.sIx xs.length xs.length hi=xs.length)/\∀ p,H p=none->Q (.ref p) (upd H p (.tup (cutV xs lo hi)))
theorem sl_tup:SlR X (rSlT X.K):=by
 intro pins s σ H x v vl vu lo hi sl Q I rx hs pl pu h
 obtain ⟨a,xs,rfl,hx,hw,q⟩:=h
 cases rx
 obtain ⟨its,r,ht,hz⟩:=I.tuple hx
 have hlen:its.toArray.size=xs.length:=by rw [zP];exact r.length.symm
 refine ⟨"tuple", _,PyProof.Rows.slot_tuple_getitem.lookup,ht.typeIs,?_⟩
 refine HT.getItem_tuple_cut ht hs pl pu (by rw [hlen];exact hw) ?_ (by rw [hlen];exact hz)
 rw [hlen]
 refine ⟨.ref s.heap.objs.size,_,I.laid (t':=s.toks) (o:=.tup (cutV xs lo hi)) (λb ob q=>Heap.get?_push_of_some _ q) (zK _) ?_,rfl,q _ (I.hok.fresh (zK _))⟩
 exact ⟨zk (cutV_length xs lo hi) hz,_,(r.drop (HT.sIx xs.length 0 lo)).take (HT.sIx xs.length xs.length hi - HT.sIx xs.length 0 lo),IsTup.new _ _⟩
end
end L2
namespace L2
open PySem PySem.Spec PyProof.Rows
def ixN (n:Nat) (i:Int):Option Nat:=if 0<=i then (if i < n then some i.toNat else none) else if -(n:Int)<=i then some (i + n).toNat else none
def atI {α:Type} (xs:List α) (i:Int):Option α:=(ixN xs.length i).bind λj=>xs[j]?
theorem ixN_seq {n:Nat}{i:Int}{j:Nat} (h:ixN n i=some j):seqIndex? i n=some j/\j < n/\-(n:Int)<=i/\i < n:=by
 unfold ixN at h
 by_cases h0:0<=i
 ·rw [if_pos h0] at h
  by_cases h1:i < n
  ·rw [if_pos h1] at h
   have e:i.toNat=j:=Option.some.inj h
   exact ⟨by rw [seqIndex_of h0 h1,e],by omega,by omega,h1⟩
  ·rw [if_neg h1] at h;cases h
 ·rw [if_neg h0] at h
  by_cases h1:-(n:Int)<=i
  ·rw [if_pos h1] at h
   have e:(i + n).toNat=j:=Option.some.inj h
   exact ⟨by rw [seqIndex_neg (by omega) h1,e],by omega,h1,by omega⟩
  ·rw [if_neg h1] at h;cases h
theorem atI_get {α:Type}{xs:List α}{i:Int}{v:α} (h:atI xs i=some v):∃ j,seqIndex? i xs.length=some j/\xs[j]?=some v/\j < xs.length/\-(xs.length:Int)<=i/\i < xs.length:=by
 unfold atI at h
 cases e:ixN xs.length i with
 | none=>rw [e] at h;cases h
 | some j=>
  rw [e] at h
  obtain ⟨h1,h2,h3,h4⟩:=ixN_seq e
  exact ⟨j,h1,h,h2,h3,h4⟩
theorem xj {α:Type}{xs:List α}{j:Nat}{v:α} (h:xs[j]?=some v):atI xs (j:Int)=some v:=by
 have hj:j < xs.length:=(zB.mp h).1
 have e:ixN xs.length (j:Int)=some j:=by
  unfold ixN
  rw [if_pos (by omega),if_pos (by omega)];simp
 unfold atI;rw [e];exact h
def PlainIx (b:Expr):Prop:=∀ o i,subscripted b false o i=operate [o,i] (getItem o i)
def IxR (X:Cx) (r:R2):Prop:=
 ∀ (value slice:Expr) (pins:List (Addr×Obj)) (s:Shared) (σ:St) (H:Hp) (x y:V) (v u:Value) (Q:VK),Inv X pins σ H s->RelV x v->RelV y u->r x y H Q ->
  subscripted slice false v u=operate [v,u] (getItem v u)->wpAny (model X.prog X.w) X.A (subscriptTail value slice v u) (EP X pins σ Q) X.xe s
def MtR (X:Cx) (id:String) (r:V->List V->Hp->VK->Prop):Prop:=
 ∀ (pins:List (Addr×Obj)) (s:Shared) (σ:St) (H:Hp) (x:V) (xs:List V) (v:Value) (us:List Value) (Q:VK),Inv X pins σ H s->RelV x v->Vals xs us->r x xs H Q ->
  wpAny (model X.prog X.w) X.A (call (.builtin id) (v::us)) (EP X pins σ Q) X.xe s
section
variable {X:Cx}{a b:Expr}{ta tb:TE}{pos:Pos}
theorem xU {r:R2} (hr:IxR X r) (ha:PE X a ta) (hb:PE X b tb) (hs:PlainIx b):PE X (.Subscript a b pos) (tOp r ta tb):=by
 intro pins s σ H Q I h
 exact Subscript_ (binT ha hb I h λv u s2 x y H2 I2 rx ry q=>hr a b pins s2 σ H2 x y v u Q I2 rx ry q (hs _ _))
def rIxL (K:PySem.W.Frag):R2:=λx y H Q=>∃ p xs i v,x=.ref p/\y=.int i/\SqL K H p xs/\atI xs i=some v/\Q v H
def rIxT (K:PySem.W.Frag):R2:=λx y H Q=>∃ p xs i v,x=.ref p/\y=.int i/\SqT K H p xs/\atI xs i=some v/\Q v H
theorem ix_list:IxR X (rIxL X.K):=by
 intro value slice pins s σ H x y v u Q I rx ry h hs
 obtain ⟨p,xs,i,z,rfl,rfl,hq,he,q⟩:=h
 cases rx
 obtain ⟨t,rfl⟩:=ry
 obtain ⟨its,r,pl,hz⟩:=I.list hq
 obtain ⟨j,h1,h2,h3,h4,h5⟩:=atI_get he
 obtain ⟨w,ew,rw'⟩:=r.get h2
 have hl:=r.length
 have hn:=line63
 have fin:EP X pins σ Q w s:=⟨z,H,I,rw',q⟩
 by_cases h0:0<=i
 ·have hj:i.toNat=j:=by
   rw [seqIndex_of h0 h5] at h1
   exact Option.some.inj h1
  exact item_listR pl.isList h0 (by omega) (by rw [hj];simpa using ew) fin hs
 ·have hj:(i + (its.toArray.size:Int)).toNat=j:=by
   rw [seqIndex_neg (by omega) h4] at h1
   rw [zP,<- hl]
   exact Option.some.inj h1
  exact subscriptTail_builtinR (x:=w) pl.isList.typeIs slot_list_getitem.lookup
   (wpAny_getItem_list_neg (Q:=λr s'=>r=w/\EP X pins σ Q r s') pl.isList (by omega) (by rw [zP] <;> omega) (by omega) (by rw [hj];simpa using ew) ⟨rfl,fin⟩) hs
theorem ix_tup:IxR X (rIxT X.K):=by
 intro value slice pins s σ H x y v u Q I rx ry h hs
 obtain ⟨p,xs,i,z,rfl,rfl,hq,he,q⟩:=h
 cases rx
 obtain ⟨t,rfl⟩:=ry
 obtain ⟨its,r,pl,hz⟩:=I.tuple hq
 obtain ⟨j,h1,h2,h3,h4,h5⟩:=atI_get he
 obtain ⟨w,ew,rw'⟩:=r.get h2
 have hl:=r.length
 have hn:=line63
 have fin:EP X pins σ Q w s:=⟨z,H,I,rw',q⟩
 exact subscriptTail_builtinR (x:=w) pl.typeIs slot_tuple_getitem.lookup
  (getItem_tuple (j:=j) (Q:=λr s'=>r=w/\EP X pins σ Q r s') pl (by omega) (by omega) (by rw [zP,<- hl];exact h1) (by simpa using ew) ⟨rfl,fin⟩) hs
theorem mapSeq_set (its:List Value) (n j:Nat) (u:Value):Obj.mapSeq (·.setIfInBounds j u) { cls:=.type "list", data:=.seq its.toArray n }={ cls:=.type "list", data:=.seq (its.set j u).toArray n }:=by
 simp [Obj.mapSeq]
theorem Inv.lst {pins:List (Addr×Obj)}{σ:St}{H:Hp}{s:Shared}{p:Addr}{xs:List V} (I:Inv X pins σ H s) (h:H p=some (.lst xs)) :
  ∃ (its:List Value) (n:Nat),Vals xs its/\s.heap.get? p=some { cls:=.type "list", data:=.seq its.toArray n }/\xs.length<=sizeLine:=by
 obtain ⟨z,its,n,r,e⟩:=I.hok p _ h
 exact ⟨its,n,r,e,z⟩
theorem Inv.lstUpd {pins:List (Addr×Obj)}{σ:St}{H:Hp}{s:Shared}{p:Addr}{xs ys:List V}{its its':List Value}{n n':Nat}{f:Obj->Obj} (I:Inv X pins σ H s) (h:H p=some (.lst xs))
  (ho:s.heap.get? p=some { cls:=.type "list", data:=.seq its.toArray n }) (hf:f { cls:=.type "list", data:=.seq its.toArray n }={ cls:=.type "list", data:=.seq its'.toArray n' }) (r:Vals ys its') (hz:ys.length<=sizeLine) (t:Nat) :
  Inv X pins σ (upd H p (.lst ys)) { s with heap:=s.heap.update p f,toks:=t }:=by
 have e:(s.heap.update p f).get? p=some { cls:=.type "list", data:=.seq its'.toArray n' }:=by
  rw [Heap.get?_update_self f ho (by rw [hf] <;> rfl),hf]
 refine I.write (x:=p) (e:=p) (by rw [h];trivial) (.inl rfl) (λb u hb q=>(Heap.get?_update_other _ _ (Ne.symm hb)).trans q) ⟨_,e⟩ ?_
 exact ⟨hz,its',n',r,e⟩
def rSetL:V->V->V->Hp->(Hp->Prop)->Prop:=λo i v H Q=>∃ p xs k j,o=.ref p/\i=.int k/\H p=some (.lst xs)/\ixN xs.length k=some j/\Q (upd H p (.lst (xs.set j v)))
theorem wT:PSet X rSetL:=by
 intro pins s σ H o i v ov iv u Q I ro ri rv h
 obtain ⟨p,xs,k,j,rfl,rfl,hp,hj,q⟩:=h
 cases ro
 obtain ⟨t,rfl⟩:=ri
 obtain ⟨its,n,r,ho,hz⟩:=I.lst hp
 obtain ⟨h1,h2,h3,h4⟩:=ixN_seq hj
 have hl:=r.length
 have hn:=line63
 have I':Inv X pins σ (upd H p (.lst (xs.set j v))) { s with heap:=s.heap.update p (Obj.mapSeq (·.setIfInBounds j u)) }:=
  I.lstUpd hp ho (mapSeq_set its n j u) (r.set rv j) (by rw [zm];exact hz) s.toks
 by_cases h0:0<=k
 ·have hk:k.toNat=j:=by
   rw [seqIndex_of h0 h4] at h1
   exact Option.some.inj h1
  exact PySem.W.ki_setAt ho h0 (by omega) (by rw [zP,<- hl];exact h4) (by rw [hk];exact ⟨_,I',q⟩)
 ·have hk:(k + (its.toArray.size:Int)).toNat=j:=by
   rw [seqIndex_neg (by omega) h3] at h1
   rw [zP,<- hl]
   exact Option.some.inj h1
  exact PySem.W.ki_setBack ho (by omega) (by rw [zP,<- hl];exact h3) (by omega) (by rw [hk];exact ⟨_,I',q⟩)
theorem slice_bounds (lo hi:Option Int) (n:Nat):(sliceBounds lo hi none n).1=((HT.sIx n 0 lo:Nat):Int)/\(sliceBounds lo hi none n).2.1=((HT.sIx n n hi:Nat):Int)/\(sliceBounds lo hi none n).2.2=1:=by
 refine ⟨?_,?_,rfl⟩
 ·cases lo with
  | none=>simp [sliceBounds,HT.sIx]
  | some i=>
   simp only [sliceBounds,HT.sIx,Option.getD_none,show (1:Int) > 0 by decide,if_true]
   by_cases h:i < 0
   ·simp only [h,if_true] <;> omega
   ·simp only [h,if_false] <;> omega
 ·cases hi with
  | none=>simp [sliceBounds,HT.sIx]
  | some i=>
   simp only [sliceBounds,HT.sIx,Option.getD_none,show (1:Int) > 0 by decide,if_true]
   by_cases h:i < 0
   ·simp only [h,if_true] <;> omega
   ·simp only [h,if_false] <;> omega
theorem slicePick_cut (its:List Value) (lo hi:Option Int):slicePick its.toArray lo hi none=((its.drop (HT.sIx its.length 0 lo)).take (HT.sIx its.length its.length hi - HT.sIx its.length 0 lo)).toArray:=by
 obtain ⟨h1,h2,h3⟩:=slice_bounds lo hi its.toArray.size
 unfold slicePick
 rw [h1,h2,h3]
 simp only [sliceRange_one,pick_run,zP] <;> rfl
def rSlL (K:PySem.W.Frag):V->Option Int->Option Int->Hp->VK->Prop:=λx lo hi H Q=>∃ a xs,x=.ref a/\SqL K H a xs/\∀ p,H p=none->Q (.ref p) (upd H p (.lst (cutV xs lo hi)))
theorem sl_list:SlR X (rSlL X.K):=by
 intro pins s σ H x v vl vu lo hi sl Q I rx hs pl pu h
 obtain ⟨a,xs,rfl,hx,q⟩:=h
 cases rx
 obtain ⟨its,r,ht,hz⟩:=I.list hx
 have hlen:=r.length
 refine ⟨"list", _,slot_list_getitem.lookup,ht.isList.typeIs,?_⟩
 refine wpAny_getItem_list_slice ht.isList hs pl pu .none (by simp) ?_ (by rw [zP] <;> omega)
 rw [slicePick_cut,<- hlen]
 refine ⟨.ref s.heap.objs.size,_,I.laid (t':=s.toks) (o:=.lst (cutV xs lo hi)) (λb ob q=>Heap.get?_push_of_some _ q) (zK _) ?_,rfl,q _ (I.hok.fresh (zK _))⟩
 exact ⟨zk (cutV_length xs lo hi) hz,_,0,(r.drop (HT.sIx xs.length 0 lo)).take (HT.sIx xs.length xs.length hi - HT.sIx xs.length 0 lo),Heap.get?_push_size _ rfl⟩
def flatV:V->Bool
 | .non=>true
 | .bl _=>true
 | .int _=>true
 | .str _=>true
 | _=>false
def eqV:V->V->Bool
 | .non,.non=>true
 | .bl a,.bl b=>a == b
 | .bl a,.int b=>(if a then 1 else 0) == b
 | .int a,.bl b=>a == (if b then 1 else 0)
 | .int a,.int b=>a == b
 | .str a,.str b=>a == b
 | _,_=>false
theorem eqAt_V {A:Around}{s:Shared}{y x:V}{u v:Value} (ry:RelV y u) (rx:RelV x v) (fy:flatV y=true) (fx:flatV x=true):SeqAt.EqAt A s u v (eqV y x):=by
 cases y with
 | non=>
  cases ry
  cases x with
  | non=>cases rx;exact SeqAt.EqAt.same _
  | bl b=>cases rx;exact SeqAt.EqAt.none_bool b
  | int b=>obtain ⟨t,rfl⟩:=rx;exact SeqAt.EqAt.none_int b t
  | str b=>obtain ⟨t,rfl⟩:=rx;exact SeqAt.EqAt.none_str b t
  | _=>exact absurd (show false=true from fx) zG
 | bl a=>
  cases ry
  cases x with
  | non=>cases rx;exact SeqAt.EqAt.bool_none a
  | bl b=>cases rx;exact SeqAt.EqAt.bool_bool a b
  | int b=>obtain ⟨t,rfl⟩:=rx;exact SeqAt.EqAt.bool_int a b t
  | str b=>obtain ⟨t,rfl⟩:=rx;exact SeqAt.EqAt.bool_str a b t
  | _=>exact absurd (show false=true from fx) zG
 | int a=>
  obtain ⟨t',rfl⟩:=ry
  cases x with
  | non=>cases rx;exact SeqAt.EqAt.int_none a t'
  | bl b=>cases rx;exact SeqAt.EqAt.int_bool a t' b
  | int b=>obtain ⟨t,rfl⟩:=rx;exact SeqAt.EqAt.int_int a t' b t
  | str b=>obtain ⟨t,rfl⟩:=rx;exact SeqAt.EqAt.int_str a t' b t
  | _=>exact absurd (show false=true from fx) zG
 | str a=>
  obtain ⟨t',rfl⟩:=ry
  cases x with
  | non=>cases rx;exact SeqAt.EqAt.str_none a t'
  | bl b=>cases rx;exact SeqAt.EqAt.str_bool a t' b
  | int b=>obtain ⟨t,rfl⟩:=rx;exact SeqAt.EqAt.str_int a t' b t
  | str b=>obtain ⟨t,rfl⟩:=rx;exact SeqAt.EqAt.str_str a t' b t
  | _=>exact absurd (show false=true from fx) zG
 | _=>exact absurd (show false=true from fy) zG
def eqU (x:V) (u:Value):Bool:=match u with
 | .none=>eqV .non x
 | .bool b=>eqV (.bl b) x
 | .int i _=>eqV (.int i) x
 | .str z _=>eqV (.str z) x
 | _=>false
theorem eqU_of {x y:V}{u:Value} (r:RelV y u) (f:flatV y=true):eqU x u=eqV y x:=by
 cases y with
 | non=>cases r;rfl
 | bl b=>cases r;rfl
 | int i=>obtain ⟨t,rfl⟩:=r;rfl
 | str z=>obtain ⟨t,rfl⟩:=r;rfl
 | _=>exact absurd (show false=true from f) zG
theorem any_eqU {x:V}:∀ {xs:List V}{us:List Value},Vals xs us->xs.all flatV=true->us.any (eqU x)=xs.any λy=>eqV y x
 | _,_,.nil,_=>rfl
 | y::xs,u::us,.cons r t,f=>by
  rw [List.all_cons,zh] at f
  rw [yu,yu,eqU_of r f.1,any_eqU t f.2]
theorem mem_eqAt {A:Around}{s:Shared}{x:V}{v:Value} (rx:RelV x v) (fx:flatV x=true):∀ {xs:List V}{us:List Value},Vals xs us->xs.all flatV=true->∀ u∈us,SeqAt.EqAt A s u v (eqU x u)
 | _,_,.nil,_=>λu hu=>by cases hu
 | y::xs,u::us,.cons r t,f=>λu' hu=>by
  rw [List.all_cons,zh] at f
  rcases zV.mp hu with rfl | hu
  ·rw [eqU_of r f.1];exact eqAt_V r rx f.1 fx
  ·exact mem_eqAt rx fx t f.2 u' hu
def inV (x:V) (xs:List V):Bool:=xs.any λy=>eqV y x
def rIn (K:PySem.W.Frag) (neg:Bool):R2:=λx y H Q=>∃ p xs,y=.ref p/\(SqL K H p xs\/SqT K H p xs)/\flatV x=true/\xs.all flatV=true/\Q (.bl (if neg then !inV x xs else inV x xs)) H
theorem op_in_seq:OpR X (compareOp .In) (rIn X.K false):=by
 intro pins s σ H x y v u Q I rx ry h
 obtain ⟨p,xs,rfl,hq,fx,fs,q⟩:=h
 cases ry
 rcases hq with hq | hq
 ·obtain ⟨its,r,pl,hz⟩:=I.list hq
  refine SeqAt.in_listAt (eqU x) pl.isList (λw hw=>mem_eqAt rx fx r fs w (by simpa using hw)) ⟨.bl _,H,I,rfl,?_⟩
  rw [show its.toArray.any (eqU x)=its.any (eqU x) by simp,any_eqU r fs]
  exact q
 ·obtain ⟨its,r,pl,hz⟩:=I.tuple hq
  refine SeqAt.in_tupleAt (eqU x) pl (λw hw=>mem_eqAt rx fx r fs w (by simpa using hw)) ⟨.bl _,H,I,rfl,?_⟩
  rw [show its.toArray.any (eqU x)=its.any (eqU x) by simp,any_eqU r fs]
  exact q
theorem op_notIn_seq:OpR X (compareOp .NotIn) (rIn X.K true):=by
 intro pins s σ H x y v u Q I rx ry h
 obtain ⟨p,xs,rfl,hq,fx,fs,q⟩:=h
 cases ry
 rcases hq with hq | hq
 ·obtain ⟨its,r,pl,hz⟩:=I.list hq
  refine SeqAt.notIn_listAt (eqU x) pl.isList (λw hw=>mem_eqAt rx fx r fs w (by simpa using hw)) ⟨.bl _,H,I,rfl,?_⟩
  rw [show its.toArray.any (eqU x)=its.any (eqU x) by simp,any_eqU r fs]
  exact q
 ·obtain ⟨its,r,pl,hz⟩:=I.tuple hq
  refine SeqAt.notIn_tupleAt (eqU x) pl (λw hw=>mem_eqAt rx fx r fs w (by simpa using hw)) ⟨.bl _,H,I,rfl,?_⟩
  rw [show its.toArray.any (eqU x)=its.any (eqU x) by simp,any_eqU r fs]
  exact q
theorem call_len_seq:CallR X (.builtin "len") (λxs H Q=>∃ p ys,xs=[.ref p]/\(SqL X.K H p ys\/SqT X.K H p ys)/\Q (.int ys.length) H):=by
 intro pins s σ H xs us Q I r h
 obtain ⟨p,ys,rfl,hq,q⟩:=h
 obtain ⟨u,rfl,rx⟩:=vals1 r
 cases rx
 have hn:=line63
 rcases hq with hq | hq
 ·obtain ⟨its,r',pl,hz⟩:=I.list hq
  have hlen:=r'.length
  exact Calls.call_len_list pl.isList (by simp only [zP] <;> omega) ⟨.int ys.length,H,I.tok _,⟨s.toks + 1,by rw [zP,hlen]⟩,q⟩
 ·obtain ⟨its,r',pl,hz⟩:=I.tuple hq
  have hlen:=r'.length
  exact len_tuple pl (by simp only [zP] <;> omega) ⟨.int ys.length,H,I.tok _,⟨s.toks + 1,by rw [zP,hlen]⟩,q⟩
theorem call_list_of:CallR X (.type "list") (λxs H Q=>∃ p ys,xs=[.ref p]/\(SqL X.K H p ys\/SqT X.K H p ys)/\∀ l,H l=none->Q (.ref l) (upd H l (.lst ys))):=by
 intro pins s σ H xs us Q I r h
 obtain ⟨p,ys,rfl,hq,q⟩:=h
 obtain ⟨u,rfl,rx⟩:=vals1 r
 cases rx
 have fin:∀ (its:List Value),Vals ys its->ys.length<=sizeLine->∀ (h':Heap) (c':Nat),(∀ b o',s.heap.get? b=some o'->h'.get? b=some o') ->
   h'.get? s.heap.objs.size=some { cls:=.type "list", dict:=none,data:=.seq its.toArray c',slots:=#[] }->EP X pins σ Q (.ref s.heap.objs.size) { s with heap:=h' }:=λits r' hz h' c' kp e=>
  ⟨.ref s.heap.objs.size,_,I.laid (t':=s.toks) kp (zK _) (show ObjOk X.prog X.w _ h' _ (.lst ys) from ⟨hz,its,c',r',e⟩),rfl,q _ (I.hok.fresh (zK _))⟩
 rcases hq with hq | hq
 ·obtain ⟨its,r',pl,hz⟩:=I.list hq
  have hlen:=r'.length
  obtain ⟨o,ho,hc,n,hd⟩:=pl.isList
  exact call_list_seq p (.inl rfl) ho hc hd (λh' c' kp e=>fin its r' hz h' c' kp e) (by simp only [zP] <;> omega)
 ·obtain ⟨its,r',pl,hz⟩:=I.tuple hq
  have hlen:=r'.length
  obtain ⟨o,ho,hc,n,hd⟩:=pl
  exact call_list_seq p (.inr rfl) ho hc hd (λh' c' kp e=>fin its r' hz h' c' kp e) (by simp only [zP] <;> omega)
theorem call_tuple_of:CallR X (.type "tuple") (λxs H Q=>∃ p ys,xs=[.ref p]/\((SqL X.K H p ys/\∀ l,H l=none->Q (.ref l) (upd H l (.tup ys)))\/(SqT X.K H p ys/\Q (.ref p) H))):=by
 intro pins s σ H xs us Q I r h
 obtain ⟨p,ys,rfl,h⟩:=h
 obtain ⟨u,rfl,rx⟩:=vals1 r
 cases rx
 rcases h with ⟨hq,q⟩ | ⟨hq,q⟩
 ·obtain ⟨its,r',pl,hz⟩:=I.list hq
  have hlen:=r'.length
  refine call_tuple_list pl.isList (λh' kp=>?_) (by simp only [zP] <;> omega)
  have I1:Inv X pins σ H { s with heap:=h' }:=I.kept (t':=s.toks) kp
  have I2:Inv X pins σ (upd H h'.objs.size (.tup ys)) { s with heap:=h'.push { cls:=.type "tuple", data:=.seq its.toArray } }:=
   I1.laid (t':=s.toks) (λb o e=>Heap.get?_push_of_some _ e) (zK _) (show ObjOk X.prog X.w _ _ _ (.tup ys) from ⟨hz,its,r',IsTup.new _ _⟩)
  exact ⟨.ref h'.objs.size,_,I2,rfl,q _ (I1.hok.fresh (zK _))⟩
 ·obtain ⟨its,r',pl,hz⟩:=I.tuple hq
  exact call_tuple_same pl ⟨.ref p,H,I,rfl,q⟩
def tyV (K:PySem.W.Frag) (T:String) (x:V) (H:Hp):Prop:=match x with
 | .str _=>T = "str"
 | .int _=>T = "int"
 | .ref p=>(T = "list" /\ ∃ xs,SqL K H p xs)\/(T = "tuple" /\ ∃ o,K.lookup p=some o/\o.cls=.type "tuple" /\ o.dict=none) \/
   (T = "dict" /\ ((∃ kvs,H p=some (.dK kvs))\/∃ kvs,H p=some (.dT kvs)))\/(T = "set" /\ ∃ S n,H p=some (.set S n))
 | _=>False
theorem tyV_is {pins:List (Addr×Obj)}{σ:St}{H:Hp}{s:Shared}{T:String}{x:V}{v:Value} (I:Inv X pins σ H s) (r:RelV x v) (ty:tyV X.K T x H) :
  s.TypeIs v T/\∀ a,v=.ref a->∃ ob,s.heap.get? a=some ob/\ob.dict=none:=by
 cases x with
 | str z=>
  obtain ⟨t,rfl⟩:=r
  cases (show T = "str" from ty)
  exact ⟨typeIs_str s z t,λ_ e=>nomatch e⟩
 | int i=>
  obtain ⟨t,rfl⟩:=r
  cases (show T = "int" from ty)
  exact ⟨typeIs_int s i t,λ_ e=>nomatch e⟩
 | ref p=>
  cases r
  rcases ty with ⟨rfl,xs,hq⟩ | ⟨rfl,o,hk,hc,hd⟩ | ⟨rfl,hk⟩ | ⟨rfl,S,n,hk⟩
  ·obtain ⟨its,_,pl,_⟩:=I.list hq
   refine ⟨pl.isList.typeIs,λa e=>?_⟩
   cases e
   obtain ⟨o,n,e,c,hd,_⟩:=pl
   exact ⟨o,e,hd⟩
  ·refine ⟨⟨o,I.kIn p o hk,hc⟩,λa e=>?_⟩
   cases e
   exact ⟨o,I.kIn _ o hk,hd⟩
  ·have z:∃ o,s.heap.get? p=some o/\o.ExactDict:=by
    rcases hk with ⟨kvs,hk⟩ | ⟨kvs,hk⟩
    ·obtain ⟨_,_,_,_,o,_,_,e,ex,_⟩:=I.hok p _ hk
     exact ⟨o,e,ex⟩
    ·obtain ⟨_,_,_,_,o,_,_,e,ex,_⟩:=I.hok p _ hk
     exact ⟨o,e,ex⟩
   obtain ⟨o,e,ex⟩:=z
   refine ⟨⟨o,e,ex.1⟩,λa e2=>?_⟩
   cases e2
   exact ⟨o,e,ex.2.1⟩
  ·obtain ⟨o,_,_,_,e,ex,_⟩:=I.hok p _ hk
   refine ⟨⟨o,e,ex.1⟩,λa e2=>?_⟩
   cases e2
   exact ⟨o,e,ex.2.1⟩
 | _=>exact False.elim ty
def tBM0 (K:PySem.W.Frag) (T:String) (r:V->List V->Hp->VK->Prop) (to:TE):TE:=fun σ H Q=>to σ H λx H1=>tyV K T x H1/\r x [] H1 Q
def tBM (K:PySem.W.Frag) (T:String) (r:V->List V->Hp->VK->Prop) (to:TE) (t:TA):TE:=fun σ H Q=>to σ H λx H1=>tyV K T x H1/\t σ H1 λxs H2=>r x xs H2 Q
variable {o e:Expr}{es:List Expr}{to:TE}{t:TA}{name:Str}{apos cpos:Pos}{T id:String}{r:V->List V->Hp->VK->Prop}
theorem pe_bm0 (pa:PlainAttrs T) (slot:Slot T name id) (hty:typeOf (.builtin id)=pure (.type "method_descriptor")) (hm:MtR X id r) (ho:PE X o to)
  (hbase:attributeBase o name X.env (eval o X.env)=eval o X.env:=by rfl) (hline:(apos.endLine == cpos.line)=true:=by rfl):PE X (.Call (.Attribute o name apos) [] [] cpos) (tBM0 X.K T r to):=by
 intro pins s σ H Q I h
 refine wpAny_Call_method0_late hbase hline (thn (ho pins s σ H _ I h) λv s1 ⟨x,H1,I1,r1,ty,q1⟩=>?_)
 obtain ⟨h1,h2⟩:=tyV_is I1 r1 ty
 exact ⟨T,id,pa,slot,hty,h1,h2,Calls.callWith_builtin rfl (PySem.evalArgs_none (hm pins s1 σ H1 x [] v [] Q I1 r1 .nil q1))⟩
theorem pe_bm (pa:PlainAttrs T) (slot:Slot T name id) (hty:typeOf (.builtin id)=pure (.type "method_descriptor")) (hm:MtR X id r) (ho:PE X o to) (ha:PA X (e::es) t)
  (hbase:attributeBase o name X.env (eval o X.env)=eval o X.env:=by rfl)
  (hfew:((backTo cpos (starEach (e::es) X.env)).all (λx=>!x.1) && (backToKw cpos (keywordEach [] X.env)).all (λx=>x.1.isSome)
   && decide ((e::es).length + ([]:List Keyword).length + (if ([]:List Keyword).isEmpty then 0 else 1) < 30))=true:=by rfl)
  (hline:(apos.endLine == cpos.line)=true:=by rfl) (hs:starEach (e::es) X.env=(false,eval e X.env)::starEach es X.env:=by rfl) (hplain:(backTo cpos (starEach es X.env)).any (·.1)=false:=by rfl) :
  PE X (.Call (.Attribute o name apos) (e::es) [] cpos) (tBM X.K T r to t):=by
 intro pins s σ H Q I h
 refine wpAny_Call_method_late hbase hfew hline rfl (thn (ho pins s σ H _ I h) λv s1 ⟨x,H1,I1,r1,ty,q1⟩=>?_)
 obtain ⟨h1,h2⟩:=tyV_is I1 r1 ty
 refine ⟨T,id,pa,slot,hty,h1,h2,?_⟩
 have hA:=ha cpos pins s1 σ H1 _ I1 q1
 rw [hs] at hA ⊢
 refine Calls.callWith_builtin (by show (false || (backTo cpos (starEach es X.env)).any (·.1))=false;rw [hplain] <;> rfl) (Calls.evalArgs_plain ?_)
 exact thn hA λus s2 ⟨vs,H2,I2,r2,q2⟩=>hm pins s2 σ H2 x vs v us Q I2 r1 r2 q2
/- xs.append(e),list.index on a module's tuple .. are MtR facts of 06m -/
end
end L2
namespace L2
open PySem PySem.Spec PyProof.Rows
def MtM (X:Cx) (id:String) (r:V->List V->Hp->VK->Prop):Prop:=
 ∀ (pins:List (Addr×Obj)) (s:Shared) (σ:St) (H:Hp) (x:V) (xs:List V) (v:Value) (us:List Value) (Q:VK),Inv X pins σ H s->RelV x v->Vals xs us->r x xs H Q ->
  wpAny (model X.prog X.w) X.A (call (.builtin id) (v::us)) (EP X pins σ Q) X.xe s
theorem Vals.one:∀ {x:V}{us:List Value},Vals [x] us->∃ u,us=[u]/\RelV x u
 | _,_,.cons r .nil=>⟨_,rfl,r⟩
theorem Vals.rep {xs:List V}{us:List Value} (h:Vals xs us):∀ k:Nat,Vals (List.replicate k xs).flatten (List.replicate k us).flatten
 | 0=>.nil
 | k + 1=>by
  rw [yK,yK,yx,yx]
  exact Vals.append h (Vals.rep h k)
theorem foldl_rep (its:List Value):∀ (k:Nat) (acc:List Value),
  List.foldl (λx1 x2=>x1++x2) acc.toArray (List.replicate k its.toArray)=(acc++(List.replicate k its).flatten).toArray
 | 0,acc=>by simp
 | k + 1,acc=>by
  have e:acc.toArray++its.toArray=(acc++its).toArray:=by simp
  have e2:(acc++its)++(List.replicate k its).flatten=acc++(List.replicate (k + 1) its).flatten:=by
   rw [yK,yx,List.append_assoc]
  rw [<-e2,<- foldl_rep its k (acc++its),<- e,yK,List.foldl_cons]
section
variable {X:Cx}{pins:List (Addr×Obj)}{σ:St}{H:Hp}{s:Shared}{l b:Addr}{xs ys zs:List V}
theorem Inv.lset {its its':List Value}{n:Nat}{f:Array Value->Array Value}{t':Nat} (I:Inv X pins σ H s) (hH:H l=some (.lst xs))
  (e:s.heap.get? l=some { cls:=.type "list", data:=.seq its.toArray n }) (hf:f its.toArray=its'.toArray) (hv:Vals ys its') (hz:ys.length<=sizeLine) :
  Inv X pins σ (upd H l (.lst ys)) { s with heap:=s.heap.update l (Obj.mapSeq f),toks:=t' }:=by
 have q:=PySem.IsL.update e f
 rw [hf] at q
 refine I.write (x:=l) (e:=l) (by rw [hH];exact trivial) (.inl rfl) (λb' u hb hu=>(Heap.get?_update_other s.heap (Obj.mapSeq f) (Ne.symm hb)).trans hu) ⟨_,q⟩ ?_
 exact ⟨hz,its',_,hv,q⟩
theorem Inv.lnew {its:List Value}{t':Nat} (I:Inv X pins σ H s) (hv:Vals ys its) (hz:ys.length<=sizeLine) :
  Inv X pins σ (upd H s.heap.objs.size (.lst ys)) { s with heap:=s.heap.push { cls:=.type "list", data:=.seq its.toArray },toks:=t' }:=
 I.laid (λ_ _ q=>Heap.get?_push_of_some _ q) (zK _) ⟨hz,its,0,hv,Heap.get?_push_size _ rfl⟩
theorem Inv.fresh (I:Inv X pins σ H s):H s.heap.objs.size=none:=I.hok.fresh (zK _)
theorem Inv.lstM (I:Inv X pins σ H s) (hH:H l=some (.lst xs)):xs.length<=sizeLine/\∃ (its:List Value) (n:Nat),Vals xs its/\xs.length=its.length/\s.heap.get? l=some { cls:=.type "list", data:=.seq its.toArray n }:=by
 obtain ⟨z,its,n,r,e⟩:=I.hok l _ hH
 exact ⟨z,its,n,r,r.length,e⟩
theorem notLongL {n:Nat} (h:n<=sizeLine):Builtin.List.listTooLong n=false:=by
 unfold Builtin.List.listTooLong
 exact decide_eq_false (by omega)
end
section
variable {X:Cx}
def rAppend:V->List V->Hp->VK->Prop:=λx vs H Q=>∃ l xs y,x=.ref l/\vs=[y]/\H l=some (.lst xs)/\xs.length < sizeLine/\Q .non (upd H l (.lst (xs++[y])))
theorem mt_append:MtM X "list.append" rAppend:=by
 intro pins s σ H x vs v us Q I rx rv h
 obtain ⟨l,xs,y,rfl,rfl,hH,hz,q⟩:=h
 cases rx
 obtain ⟨u,rfl,ru⟩:=rv.one
 obtain ⟨z,its,n,r,hl,e⟩:=I.lstM hH
 refine call_meets F.slot_list_append ⟨_,e,rfl⟩ F.entry_list_append (F.args_list_append_2 _ _) (PySem.list_append l its.toArray n u (by rw [zP];omega)) ⟨e,?_⟩
 refine ⟨.non,_,I.lset (its':=its++[u]) hH e (by simp) (r.append (.cons ru .nil)) ?_,rfl,q⟩
 rw [zW,List.length_singleton]
 omega
def rCat:R2:=λx y H Q=>∃ l b xs zs,x=.ref l/\y=.ref b/\H l=some (.lst xs)/\H b=some (.lst zs)/\xs.length + zs.length<=sizeLine/\∀ p,H p=none->Q (.ref p) (upd H p (.lst (xs++zs)))
theorem op_cat:OpR X (binaryOp .Add) rCat:=by
 intro pins s σ H x y v u Q I rx ry h
 obtain ⟨l,b,xs,zs,rfl,rfl,hH,hB,hz,q⟩:=h
 cases rx
 cases ry
 obtain ⟨z,its,n,r,hl,e⟩:=I.lstM hH
 obtain ⟨z2,its2,n2,r2,hl2,e2⟩:=I.lstM hB
 refine PySem.P.add_list e e2 ?_ (by rw [zP,zP];omega)
 have ea:its.toArray++its2.toArray=(its++its2).toArray:=by simp
 rw [ea]
 exact ⟨.ref _,_,I.lnew (t':=s.toks) (r.append r2) (by rw [zW];omega),rfl,q _ I.fresh⟩
def rRep:R2:=λx y H Q=>∃ l k xs,x=.ref l/\y=.int k/\H l=some (.lst xs)/\-(2 ^ 63)<=k/\k < 2 ^ 63/\xs.length * k.toNat<=sizeLine /\
 ∀ p,H p=none->Q (.ref p) (upd H p (.lst (List.replicate k.toNat xs).flatten))
theorem len_rep {α:Type} (xs:List α) (k:Nat):(List.replicate k xs).flatten.length=k * xs.length:=by
 induction k with
 | zero=>simp
 | succ k ih=>rw [yK,yx,zW,ih,Nat.succ_mul,Nat.add_comm]
theorem op_rep:OpR X (binaryOp .Mult) rRep:=by
 intro pins s σ H x y v u Q I rx ry h
 obtain ⟨l,k,xs,rfl,rfl,hH,h1,h2,hz,q⟩:=h
 cases rx
 obtain ⟨t,rfl⟩:=ry
 obtain ⟨z,its,n,r,hl,e⟩:=I.lstM hH
 have hlen:its.toArray.size * k.toNat<=sizeLine:=by rw [zP,<- hl];exact hz
 have hcap:¬ its.toArray.size * k.toNat > (2 ^ 63 - 1) / 8:=by
  have:(sizeLine:Nat)<=(2 ^ 63 - 1) / 8:=by decide
  omega
 have hfit:¬ (!Builtin.List.listFitsIndex k)=true:=by
  rw [fitsIndex_both h1 h2]
  exact zG
 have hlong:¬ Builtin.List.listTooLong (its.toArray.size * k.toNat)=true:=by
  rw [notLongL hlen]
  exact zG
 have hnew:List.foldl (λx1 x2=>x1++x2) #[] (List.replicate (if its.toArray.isEmpty=true then 0 else k.toNat) its.toArray)=(List.replicate k.toNat its).flatten.toArray:=by
  have f0:∀ m:Nat,List.foldl (λx1 x2=>x1++x2) #[] (List.replicate m its.toArray)=(List.replicate m its).flatten.toArray:=λm=>by
   have:=foldl_rep its m []
   rw [List.nil_append] at this
   exact this
  rw [f0]
  cases its with
  | nil=>simp
  | cons a r'=>rw [if_neg (by simp)]
 refine wpAny_binaryOp_repeat_ref (T := "list") (U := "int") (by decide) ⟨_,e,rfl⟩ (λs'=>typeIs_int s' k t) noFill_list_mul F.fills_int_mul F.slot_int_rmul repeat_list F.slot_int_index.lookup
  (call_meets F.slot_int_rmul (typeIs_int s k t) F.entry_int_rmul (F.args_int_rmul_2 _ _) (int___rmul___int_list k t l its.toArray n)
   ⟨e,rfl,⟨_,e,rfl⟩,call_meets F.slot_list_mul ⟨_,e,rfl⟩ F.entry_list_mul (F.args_list_mul_2 _ _) (AutoListH.list___mul___list_int_3 l its.toArray n k t hfit hcap hlong) ⟨e,?_⟩⟩)
 rw [hnew]
 exact ⟨.ref _,_,I.lnew (t':=s.toks) (r.rep k.toNat) (by rw [len_rep,Nat.mul_comm];exact hz),rfl,q _ I.fresh⟩
end
section
variable {prog:Program}{w:World}{A:Around}{E:Value->Shared->Prop}{s:Shared}
set_option maxRecDepth 100000 in
end
section
variable {X:Cx}
end
end L2
namespace Att
open PySem PySem.W PySem.Calls PyProof.Rows
theorem ints_of_wellAll {P:Params}{h:Heap}:∀ (ns:List Int) (vs:List Value),WellAll P h vs (ns.map WData.int)->IntsAre vs ns:=by
 intro ns
 induction ns with
 | nil=>
  intro vs w
  rw [xC] at w
  cases w
  exact .nil
 | cons n ns ih=>
  intro vs w
  rw [zf] at w
  cases w with
  | cons a b=>
   cases a
   exact .cons _ _ (ih _ b)
theorem script_of {l:OpenLaw}{n:Nat} (hn:l.most=some n) {P:Params}{h:Heap}{args:List WData}{vals:List Value}
  (hpre:l.row.toRowW.claim.pre args=true) (hwl:WellAll P h vals args) :
  ∃ a vs ns,vals=[Value.ref a]/\args=[WData.list (ns.map WData.int)]/\h.get? a=some { cls:=.type "list", data:=.seq vs.toArray }/\IntsAre vs ns/\ns.length<=n:=by
 have hsh:WShape.hasAll [] args [.list .int]=true:=(pre_splitW hpre).1
 have hc:l.pre.holds [] { args:=args }=true:=(pre_splitW hpre).2
 obtain ⟨d,r,rfl,h1,h2⟩:=hasAllW_cons hsh
 obtain rfl:=hasAllW_nil h2
 obtain ⟨xs,rfl,h3⟩:=hasW_list h1
 obtain ⟨ns,rfl⟩:=items_int h3
 have hlen:ns.length<=n:=by
  unfold OpenLaw.pre at hc
  have h4:(WTm.not (.lt (.lit (.int (n:Int))) (.len (.arg 0)))).holds [] { args:=[.list (ns.map .int)] }=true:=by
   have h4:=(holds_andW hc).1
   rw [hn] at h4
   exact h4
  have h5:=condW_of h4 (w_not (w_lt w_lit (w_len_list (w_arg rfl))))
  rw [zA] at h5
  refine Nat.le_of_not_lt λq=>?_
  have q':(n:Int) < ((ns.length:Nat):Int):=by omega
  first
   | (rw [decide_eq_true q'] at h5;exact absurd h5 (by decide))
   | (simp at h5;omega)
 cases hwl with
 | cons w1 w2=>
  cases w2
  cases w1 with
  | list ho hall=>exact ⟨_,_,ns,rfl,rfl,ho,ints_of_wellAll ns _ hall,hlen⟩
theorem post_true (l:OpenLaw) (args:List WData):l.row.toRowW.claim.post args (.bool true) args=true:=
 postW_of (r:=l.row.toRowW) (X:=(true == true))
  (show WShape.has [] (.bool true) .bool=true by first | rfl | decide | simp [WShape.has,WShape.arms,WShape.armsAll])
  (show (WTm.eq .res (.lit (.bool true))).value [] { args:=args,res:=some (.bool true),after:=args }=some (.bool (true == true)) from w_eq_bool (w_res rfl) w_lit) rfl
theorem attach_call {l:OpenLaw}{n:Nat}{q:Program}{loose:List Str}{XP:(Str->Option Value)->Heap->Prop}{YP:World->Heap->Prop}{d:DefRec}
  (hn:l.most=some n) (hdf:d.params.defaults=[])
  (call:∀ (w:World) (s₀ s₁:Shared) (mg mb:Str->Option Value) (fa:Addr) (o:Obj) (pm cd doc:Value) (a:Addr) (vs:List Value) (ns:List Int),
   Ground q loose [] XP w s₀ mg mb s₁.heap->YP w s₁.heap ->
   s₁.heap.get? fa=some o->o.data=.func (docDef d.name d.params d.body d.scope pm cd doc)->s₁.heap.CodeRec cd d.name->mg d.name=some (.ref fa) ->
   s₁.heap.get? a=some { cls:=.type "list", data:=.seq vs.toArray }->IntsAre vs ns->ns.length<=n->s₁.gens=#[] ->
   codeAny (model l.prog w) callerA (.call (.ref fa) ⟨[.ref a],[]⟩) (λr s'=>r=.ok (.ret (.bool true))/\OldK s₁.heap s'.heap/\s'.os=s₁.os/\AllBare s'.gens) s₁) :
  WalkO q loose XP YP l.row.toRowW d [] (λf vs=>PySem.call f vs):=by
 intro w s₀ s₁ mg mb G Y fa o pm cd doc dV kV ho hd hcd hD hmg hg args vals as hpre hlay hrd hwl hlo
 obtain rfl:dV=.none:=Dflts.none hD hdf
 obtain rfl:kV=.none:=Dflts.noKw hD
 obtain ⟨a,vs,ns,rfl,rfl,hobj,hints,hlen⟩:=script_of hn hpre hwl
 refine enter_call (codeAny_mono (call w s₀ s₁ mg mb fa o pm cd doc a vs ns G Y ho (fd_plain hd) hcd hmg hobj hints hlen hg) λr s' hq=>?_)
 obtain ⟨rfl,h2,h3,h4⟩:=hq
 exact ⟨.inl ⟨.bool true,.bool true,[],rfl,λ_=>rfl,.bool true,post_true l _,λ_=>⟨List.Pairwise.nil,λ_ hm=>(nomatch hm)⟩⟩,h2,h3,h4⟩
section
variable {prog:Program}{w:World}{A:Around}{E:Value->Shared->Prop}{s:Shared}{K:Frag}
def ledger (h:Heap) (L d:Addr):List (Addr×Obj):=(List.range h.objs.size).filterMap λa=>if a=L\/a=d then none else (h.get? a).map λo=>(a,o)
end
end Att
namespace L2
open PySem PySem.Spec PyProof.Rows
theorem vals_ints:∀ {vs:List Value}{ns:List Int},IntsAre vs ns->Vals (ns.map V.int) vs
 | _,_,.nil=>.nil
 | _,_,.cons n t h=>.cons ⟨t,rfl⟩ (vals_ints h)
def Only (H:Hp):Prop:=∀ b,H b=none\/∃ o xs,H b=some (.frz o (.lst xs))
theorem law_call {P:Program}{w:World}{K:PySem.W.Frag}{mg mb:Str->Option Value}{CX:CXT}{k:Nat}{fa a:Addr}{fd:FuncData}{x:Str}{sp:Sp}{s₁:Shared}{vs:List Value}{ns:List Int}
  (KX:K.In s₁.heap) (hns:s₁.heap.Ns mainGlobals mg) (hb:s₁.heap.Ns builtinsNs mb) (hbb:∀ x:Str,x ≠ "__name__" -> mb x=bootBuiltins x) (hlim:s₁.heap.NoLimit) (hg:s₁.gens=#[])
  (ha:s₁.heap.get? a=some { cls:=.type "list", data:=.seq vs.toArray }) (hi:IntsAre vs ns) (hl:ns.length<=sizeLine) (hr:Room k callerA)
  (F:∀ base:Heap,K.In base->base.Ns mainGlobals mg->FnOk P w K mg base CX k fa fd [x] sp) (hbind:∀ (s:Shared) (u:Value),BindsTo s fd ⟨[u],[]⟩ [(x,u)])
  (hsp:∀ H:Hp,Only H->SqL K H a (ns.map V.int)->sp [.ref a] H (λv _=>v=.bl true) λ_ _ _=>False)
  (hCX:∀ H e s',CX [] H s₁ (λ_ _ _=>False) e s'->False) :
  codeAny (model P w) callerA (.call (.ref fa) ⟨[.ref a],[]⟩) (λr s'=>r=.ok (.ret (.bool true))/\OldK s₁.heap s'.heap/\s'.os=s₁.os/\AllBare s'.gens) s₁:=by
 have rv:=vals_ints hi
 have lenV:=hi.length
 -- from an abstract heap in which nothing but the script may be tracked
 have core:∀ H:Hp,Only H->SqL K H a (ns.map V.int)->HOk P w H s₁.heap->(∀ b,H b≠none->b=a)->(H a≠none->K.lookup a=none) ->
   codeAny (model P w) callerA (.call (.ref fa) ⟨[.ref a],[]⟩) (λr s'=>r=.ok (.ret (.bool true))/\OldK s₁.heap s'.heap/\s'.os=s₁.os/\AllBare s'.gens) s₁:=by
  intro H hO hS hok hA hK
  have base_of:∀ {b:Addr}{o:Obj},s₁.heap.get? b=some o->H b=none->(hidT s₁.heap H).get? b=some o:=λe n=>hidT_get e n
  have noA:∀ {b:Addr}{o:Obj}{es:Array DictEntry}{ep:Nat},s₁.heap.get? b=some o->o.data=.dict es ep->H b=none:=λ{b o es ep} e d=>by
   cases q:H b with
   | none=>rfl
   | some u=>
    have e':b=a:=hA b (by rw [q];simp)
    subst e'
    rw [ha] at e;cases e
    have d':Data.seq vs.toArray _=Data.dict es ep:=d
    cases d'
  have nsK:∀ {b:Addr}{m:Str->Option Value},s₁.heap.Ns b m->(hidT s₁.heap H).Ns b m:=λ{b m} ⟨o,es,ep,e,d,r⟩=>⟨o,es,ep,base_of e (noA e d),d,r⟩
  have hKb:K.In (hidT s₁.heap H):=λb o e=>base_of (KX b o e) (by
   cases q:H b with
   | none=>rfl
   | some u=>
    have e':b=a:=hA b (by rw [q];simp)
    subst e'
    rw [hK (by rw [q];simp)] at e;cases e)
  have hM:Mod K mg (hidT s₁.heap H):=⟨hKb,nsK hns,⟨mb,nsK hb,hbb⟩,let ⟨mc,h1,h2⟩:=hlim;⟨mc,nsK h1,h2⟩⟩
  have e0:Env0 P w K mg (hidT s₁.heap H) callerA [] s₁ H:=⟨rfl,hM,λb o e=>of_hidT e,Nat.le_of_eq (hidT_size _ _),trivial,λb hb=>absurd (show b∈([]:List Addr) from hb) (by simp),hok,.of_eq hg⟩
  refine codeAny_mono ((F _ hKb (nsK hns)).run callerA [] s₁ H ⟨[.ref a],[]⟩ [.ref a] [.ref a] _ _ hr e0 (hbind s₁ (.ref a)) (.cons rfl .nil) (hsp H hO hS)) λr s' h=>?_
  cases r with
  | error e=>exact (hCX H e s' h).elim
  | ok fl=>
   cases fl with
   | next=>exact False.elim h
   | brk=>exact False.elim h
   | cont=>exact False.elim h
   | ret u=>
    obtain ⟨v,H',os,bare,un,hok',r',q⟩:=h
    have q':v=.bl true:=q
    subst q'
    obtain rfl:u=Value.bool true:=r'
    refine ⟨rfl,OldK.of_keep λb o e=>?_,os,bare⟩
    cases q:H b with
    | none=>exact un.keep b o e q (by intro z;exact absurd (show b∈([]:List Addr) from z) (by simp)) (by simp)
    | some u=>
     rcases hO b with z | ⟨ob,xs,z⟩
     ·rw [q] at z;cases z
     ·have z2:=un.frzs b ob _ z
      obtain ⟨e1,_⟩:=hok b _ z
      obtain ⟨e2,_⟩:=hok' b _ z2
      rw [e] at e1;cases e1
      exact e2
 cases hk:K.lookup a with
 | some o=>
  -- the script is one of the module's own objects
  have e:=KX a o hk
  rw [ha] at e
  cases e
  refine core (λ_=>none) (λ_=>.inl rfl) (.inr ⟨_,vs.toArray,_,hk,rfl,rfl,rfl,by rw [zP,lenV];exact hl,by simpa using rv⟩) (λb u z=>by have z':(none:Option HO)=some u:=z;cases z') (λb z=>absurd rfl z) λz=>absurd rfl z
 | none=>
  refine core (λb=>if b=a then some (.frz { cls:=.type "list", data:=.seq vs.toArray } (.lst (ns.map V.int))) else none) (λb=>?_) (.inl (.inr ⟨{ cls:=.type "list", data:=.seq vs.toArray },if_pos rfl⟩)) (λb u z=>?_) (λb z=>?_) λ_=>hk
  ·by_cases hb:b=a
   ·exact .inr ⟨_,_,if_pos hb⟩
   ·exact .inl (if_neg hb)
  ·by_cases hb:b=a
   ·have z':=(if_pos hb).symm.trans z
    cases z'
    subst hb
    exact ⟨ha,by rw [zA];exact hl,vs,_,rv,ha⟩
   ·have z':=(if_neg hb).symm.trans z
    cases z'
  ·by_cases hb:b=a
   ·exact hb
   ·exact absurd (if_neg hb) z
end L2
namespace L2
open PySem PySem.Spec PyProof.Rows
theorem walk_of {l:PySem.W.OpenLaw}{n k:Nat}{q:Program}{loose:List Str}{XP:(Str->Option Value)->Heap->Prop}{YP:World->Heap->Prop}{d:DefRec}{K:Params->PySem.W.Frag}{CX:World->CXT}{sp:World->Sp}{x:Str}
  (hn:l.most=some n) (hn2:n<=sizeLine) (hdf:d.params.defaults=[]) (hr:Room k callerA)
  (hY:∀ (w:World) (h:Heap),YP w h->(K w.params).In h)
  (F:∀ (w:World) (mg:Str->Option Value) (fa:Addr) (h:Heap),(K w.params).In h->h.Ns mainGlobals mg->mg d.name=some (.ref fa) ->
   ∃ fd:FuncData,(∀ (s:Shared) (u:Value),BindsTo s fd ⟨[u],[]⟩ [(x,u)]) /\
    ∀ base:Heap,(K w.params).In base->base.Ns mainGlobals mg->FnOk l.prog w (K w.params) mg base (CX w) k fa fd [x] (sp w))
  (hsp:∀ (w:World) (H:Hp) (a:Addr) (ns:List Int),ns.length<=n->Only H->SqL (K w.params) H a (ns.map V.int)->sp w [.ref a] H (λv _=>v=.bl true) λ_ _ _=>False)
  (hCX:∀ (w:World) (H:Hp) (s:Shared) (e:Value) (s':Shared),CX w [] H s (λ_ _ _=>False) e s'->False) :
  PySem.W.WalkO q loose XP YP l.row.toRowW d [] (λf vs=>PySem.call f vs):=by
 refine Att.attach_call hn hdf λw s₀ s₁ mg mb fa o pm cd doc a vs ns G Y ho hd hcd hmg hobj hints hlen hg=>?_
 have KX:=hY w _ Y
 obtain ⟨fd,hb,hF⟩:=F w mg fa _ KX G.T.g hmg
 exact law_call KX G.T.g G.T.b G.T.builtins G.T.nolimit hg hobj hints (zk hlen hn2) hr hF hb (λH hO hS=>hsp w H a ns hlen hO hS) λH e s'=>hCX w H s₁ e s'
end L2
namespace L2
open PySem PySem.Spec PyProof.Rows
def inClass (s:Stmt) (j:Nat):Stmt:=match s with
 | .ClassDef _ _ _ body _ _ _ _ _ _ _=>body.getD j (.Pass ⟨0,0,0,0⟩)
 | _=>.Pass ⟨0,0,0,0⟩
def defArgs (s:Stmt):Arguments:=match s with
 | .FunctionDef _ a _ _ _ _ _ _ _ _=>a
 | _=>{ posonlyargs:=[],args:=[],vararg:=none,kwonlyargs:=[],kw_defaults:=[],kwarg:=none,defaults:=[] }
def defBody (s:Stmt):List Stmt:=match s with
 | .FunctionDef _ _ b _ _ _ _ _ _ _=>b
 | _=>[]
def defScope (s:Stmt):Scope:=match s with
 | .FunctionDef _ _ _ _ _ _ sc _ _ _=>sc
 | _=>{ kind:=.function,names:=[],isGenerator:=false,isCoroutine:=false }
abbrev CX0:CXT:=λ_ _ _ _ _ _=>False
abbrev E0:XK:=λ_ _ _=>False
theorem pass0 {X:Cx}:Passes CX0 X E0:=λ_ _ _ _ _ _ _ h=>h.elim
structure Fun (K:PySem.W.Frag) (x qual:Str) (st:Stmt) (f:Addr) (fd:FuncData):Prop where
 ex:∃ (oc:Value) (od:Option Addr) (kV doc pm:Value) (an:Option Addr) (cdv ct:Value) (osl:Array (Option Value)),
  fd=xF x qual (defArgs st) (defBody st) (defScope st) .none kV doc pm an cdv ct/\K.lookup f=some ⟨oc,od,.func fd,osl⟩/\PySem.W.codeIn K cdv qual=true
 kp:zF K (.ref f)=true
section
variable {P:Program}{w:World}{K:PySem.W.Frag}{mg:Str->Option Value}{base:Heap}
theorem Fun.ok {x qual:Str}{st:Stmt}{f:Addr}{fd:FuncData}{N ps:List Str}{k:Nat}{sp:Sp} (F:Fun K x qual st f fd) (S:FnScope N ps (defScope st)) (len:∀ vs H Q E,sp vs H Q E->vs.length=ps.length)
  (hbody:∀ (cdv:Value) (A:Around) (outer:List Env) (s:Shared) (H:Hp) (vs:List V) (Q:VK) (E:XK),Room k (A.deeper (envOfC qual (defScope st) s.heap.objs.size f cdv))->sp vs H Q E ->
   ∃ t,PSs (cxOf CX0 P w K mg base N qual (defScope st) f cdv A outer s H E).nox (defBody st) t/\t { nx:=λ_ H'=>Q .non H',rt:=Q } (start N vs) H):FnOk P w K mg base CX0 (k + 1) f fd ps sp:=by
 obtain ⟨oc,od,kV,doc,pm,an,cdv,ct,osl,rfl,lk,hcd⟩:=F.ex
 refine fn_of lk hcd S len λA outer s H vs Q E hr hsp=>?_
 obtain ⟨t,h,q⟩:=hbody cdv A outer s H vs Q E hr hsp
 exact ⟨t,h.nox,q⟩
theorem Fun.binds {x qual:Str}{st:Stmt}{f:Addr}{fd:FuncData}{ps:List Str} (F:Fun K x qual st f fd)
  (h:∀ (kV doc pm:Value) (an:Option Addr) (cdv ct:Value) (us:List Value),us.length=ps.length->bindArgs (xF x qual (defArgs st) (defBody st) (defScope st) .none kV doc pm an cdv ct) ⟨us,[]⟩=pure (ps.zip us)):Binds K fd ps []:=by
 obtain ⟨oc,od,kV,doc,pm,an,cdv,ct,osl,rfl,lk,hcd⟩:=F.ex
 exact .all (h kV doc pm an cdv ct)
theorem fun_mk {x qual:Str}{st:Stmt}{f:Addr}{oc:Value}{od an:Option Addr}{osl:Array (Option Value)}{kV doc pm cdv ct:Value} (l:K.lookup f=some ⟨oc,od,.func (xF x qual (defArgs st) (defBody st) (defScope st) .none kV doc pm an cdv ct),osl⟩)
  (c:PySem.W.codeIn K cdv qual=true) (k:zF K (.ref f)=true):Fun K x qual st f (xF x qual (defArgs st) (defBody st) (defScope st) .none kV doc pm an cdv ct):=⟨⟨oc,od,kV,doc,pm,an,cdv,ct,osl,rfl,l,c⟩,k⟩
end
section
variable {X:Cx}
theorem pv (i:Nat) {x:Str}{pos:Pos} (hN:X.N[i]?=some x:=by rfl) (hv:Vis X.env.scope x:=by first | exact Or.inl rfl | exact Or.inr (Or.inl rfl) | exact Or.inr (Or.inr rfl)) (hd:(x == ("__debug__" : Str))=false:=by decide)
  (hcd:(x == ("__classdict__" : Str))=false:=by decide):PE X (.Name x pos) (tVar i):=pe_var hN hv hd hcd
end
def Same (H H':Hp):Prop:=∀ b o,H b=some o->H' b=some o
theorem Same.refl (H:Hp):Same H H:=λ_ _ h=>h
theorem Same.trans {H H1 H2:Hp} (a:Same H H1) (b:Same H1 H2):Same H H2:=λc o h=>b c o (a c o h)
theorem Same.free {H H':Hp} (e:Same H H') {l:Addr} (h:H' l=Option.none):H l=Option.none:=by
 cases q:H l with
 | none=>rfl
 | some o=>
  rw [e l o q] at h
  cases h
theorem Same.seq {K:PySem.W.Frag}{H H':Hp}{a:Addr}{xs:List V} (e:Same H H') (h:SqL K H a xs):SqL K H' a xs:=by
 rcases h with (h | ⟨o,h⟩) | h
 ·exact .inl (.inl (e _ _ h))
 ·exact .inl (.inr ⟨o,e _ _ h⟩)
 ·exact .inr h
end L2
namespace L2
open PySem PySem.Spec PyProof.Rows
theorem loop_comp {prog:Program}{w:World}{A:Around}{R:Result->Shared->Prop}{s:Shared}{elt target iter:Expr}{ifs:List Expr}{scope:Scope}{pos:Pos}{it acc:Value}{env:Env} (I:Nat->Shared->Prop)
  (turn:∀ n s,I n s->wpAny (model prog w) A (pyNext it) (λr s₁=>match r with
   | none=>R (.ok .next) s₁
   | some v=>wpAny (model prog w) A (letOwnedTupleGo target it v) (λ_ s₁'=>wpAny (model prog w) A (assign target env v) (λ_ s₂=>
     wpAny (model prog w) A (forIn ifs true λc r=>if r=true then do let ok <- isTrue c env (eval c env);pure (ForInStep.yield ok) else pure (ForInStep.yield r)) (λok s₃=>
      if ok=true then wpAny (model prog w) A (eval elt env) (λx s₄=>
       wpAny (model prog w) A (call (.builtin "list.append") [acc,x]) (λ_ s₅=>∃ m,m < n/\I m s₅) (λ_ _=>False) s₄) (λ_ _=>False) s₃
      else ∃ m,m < n/\I m s₃) (λ_ _=>False) s₂) (λ_ _=>False) s₁') (λ_ _=>False) s₁) (λ_ _=>False) s)
  (n:Nat) (h:I n s) :
  codeAny (model prog w) A (.compLoop (.ListComp elt [⟨target,iter,ifs,0⟩] scope pos) 0 it acc env) R s:=by
 refine codeAny_loop rfl I (λn s hI=>?_) n h
 show wpAny _ A ((compTurn (.ListComp elt [⟨target,iter,ifs,0⟩] scope pos) 0 it acc env).onRaise (λx=>do noteFrame x env;theTreesLotGoes x)) _ _ s
 refine wpAny_noted ?_
 rw [compTurn_list]
 refine wpAny_bind (wpAny_standAt (wpAny_bind (wpAny_mono (turn n s hI) (λr s₁ h₁=>?_) λ_ _ h'=>h'.elim)))
 cases r with
 | none=>exact wpAny_pure h₁
 | some v=>
  refine wpAny_bind (wpAny_mono h₁ (λ_ s₁' h₁'=>?_) λ_ _ h'=>h'.elim)
  refine wpAny_bind (wpAny_mono h₁' (λ_ s₂ h₂=>wpAny_bind (wpAny_mono h₂ (λok s₃ h₃=>?_) λ_ _ h'=>h'.elim)) λ_ _ h'=>h'.elim)
  cases ok with
  | false=>exact wpAny_pure ⟨rfl,h₃⟩
  | true=>
   exact wpAny_bind (wpAny_bind (wpAny_mono h₃ (λx s₄ h₄=>wpAny_bind (wpAny_mono h₄ (λ_ s₅ h₅=>wpAny_pure (wpAny_pure ⟨rfl,h₅⟩)) λ_ _ h'=>h'.elim)) λ_ _ h'=>h'.elim))
def clOf (names:List (Str×NameKind)) (env:Env) (cs:List (Str×Addr)):List (Str×Addr):=
 names.foldl (λcs p=>if p.2=.free then (match env.cells.lookup p.1 with | some c=>(p.1,c)::cs | none=>cs) else cs) cs
theorem closure_loop {env:Env}:∀ (names:List (Str×NameKind)) (cs:List (Str×Addr)),(∀ y∈names,y.2=.free->∃ c,env.cells.lookup y.1=some c) ->
  (forIn names cs λx r=>(if (x.2 == NameKind.free)=true then do let a <- cellOf env x.1;pure (ForInStep.yield ((x.1,a)::r)) else pure (ForInStep.yield r):Sem _))=pure (clOf names env cs)
 | [],cs,_=>by simp [clOf]
 | (n,k)::r,cs,h=>by
  have ih:=λcs=>closure_loop r cs λy hy=>h y (zn _ hy)
  simp only [List.forIn_cons]
  by_cases hk:k=.free
  ·subst hk
   obtain ⟨c,e⟩:=h (n,.free) yN rfl
   have e':env.cells.lookup n=some c:=e
   have ec:cellOf env n=pure c:=by unfold cellOf;rw [e']
   simp only [beq_self_eq_true,if_true,ec,pure_bind]
   rw [ih]
   simp [clOf,e']
  ·have hb:(k == NameKind.free)=false:=by simpa using hk
   simp only [hb,Bool.false_eq_true,if_false,pure_bind]
   rw [ih]
   simp [clOf,hk]
theorem closureFor_eq {scope:Scope}{env:Env} (h:∀ y∈scope.names,y.2=.free->∃ c,env.cells.lookup y.1=some c):closureFor scope env=pure (clOf scope.names env []):=by
 unfold closureFor
 have:=closure_loop scope.names [] h
 simp only [bind_pure]
 exact this
theorem clOf_mem {env:Env}:∀ (names:List (Str×NameKind)) (cs:List (Str×Addr)) (x:Str) (c:Addr),(x,c)∈clOf names env cs->(x,c)∈cs\/env.cells.lookup x=some c
 | [],cs,x,c,h=>.inl h
 | (n,k)::r,cs,x,c,h=>by
  have h':(x,c)∈clOf r env (if k=.free then (match env.cells.lookup n with | some c=>(n,c)::cs | none=>cs) else cs):=h
  rcases clOf_mem r _ x c h' with q | q
  ·split at q
   ·cases e:env.cells.lookup n with
    | none=>rw [e] at q;exact .inl q
    | some d=>
     rw [e] at q
     rcases zV.mp q with z | z
     ·cases z;exact .inr e
     ·exact .inl z
   ·exact .inl q
  ·exact .inr q
theorem clOf_keep {env:Env}:∀ (names:List (Str×NameKind)) (cs:List (Str×Addr)) (x:Str),(∃ c,(x,c)∈cs)->∃ c,(x,c)∈clOf names env cs
 | [],cs,x,h=>h
 | (n,k)::r,cs,x,⟨c,h⟩=>by
  refine clOf_keep r _ x ?_
  dsimp only
  split
  ·split
   ·exact ⟨c,zn _ h⟩
   ·exact ⟨c,h⟩
  ·exact ⟨c,h⟩
theorem clOf_has {env:Env}:∀ (names:List (Str×NameKind)) (cs:List (Str×Addr)) (x:Str),(x,NameKind.free)∈names->(∃ c,env.cells.lookup x=some c)->∃ c,(x,c)∈clOf names env cs
 | [],_,_,h,_=>by simp at h
 | (n,k)::r,cs,x,h,⟨c,e⟩=>by
  rcases zV.mp h with z | z
  ·have e1:x=n:=congrArg Prod.fst z
   have e2:NameKind.free=k:=congrArg Prod.snd z
   subst e1 e2
   refine clOf_keep r _ x ⟨c,?_⟩
   dsimp only
   rw [if_pos rfl,e]
   exact yN
  ·exact clOf_has r _ x z ⟨c,e⟩
theorem lookup_of_mem {β:Type}:∀ (l:List (Str×β)) (x:Str) (c:β),(x,c)∈l->∃ d,l.lookup x=some d
 | (n,d)::r,x,c,h=>by
  cases hx:x == n with
  | true=>exact ⟨d,by simp [yW,hx]⟩
  | false=>
   simp only [yW,hx]
   rcases zV.mp h with z | z
   ·cases z;simp at hx
   ·exact lookup_of_mem r x c z
theorem xv {names:List (Str×NameKind)}{env:Env}{x:Str}{c:Addr} (h:(clOf names env []).lookup x=some c):env.cells.lookup x=some c:=by
 rcases clOf_mem names [] x c (yB h) with q | q
 ·simp at q
 ·exact q
theorem clOf_some {names:List (Str×NameKind)}{env:Env}{x:Str}{c:Addr} (h:(x,NameKind.free)∈names) (e:env.cells.lookup x=some c):(clOf names env []).lookup x=some c:=by
 obtain ⟨d,hd⟩:=clOf_has names [] x h ⟨c,e⟩
 obtain ⟨d',hd'⟩:=lookup_of_mem _ _ _ hd
 have:=xv hd'
 rw [e] at this
 cases this
 exact hd'
theorem lookup_relabel_free {env:Env}:∀ {names:List (Str×NameKind)}{x:Str},names.lookup x=some .free ->
  (names.map λ(n,k)=>if (k == NameKind.free && env.scope.kind == .function && env.kindOf n == some .cell) then (n,NameKind.cell) else (n,k)).lookup x=some .cell \/
  (names.map λ(n,k)=>if (k == NameKind.free && env.scope.kind == .function && env.kindOf n == some .cell) then (n,NameKind.cell) else (n,k)).lookup x=some .free
 | [],_,h=>by simp at h
 | (n,k)::r,x,h=>by
  have ih:=@lookup_relabel_free env r x
  show yl x ((if (k == NameKind.free && env.scope.kind == .function && env.kindOf n == some .cell)=true then (n,NameKind.cell) else (n,k))::_)=_\/yl x ((if (k == NameKind.free && env.scope.kind == .function && env.kindOf n == some .cell)=true then (n,NameKind.cell) else (n,k))::_)=_
  by_cases hc:(k == NameKind.free && env.scope.kind == .function && env.kindOf n == some .cell)=true
  ·rw [if_pos hc]
   cases hx:x == n with
   | true=>left;simp [yW,hx]
   | false=>
    simp only [yW,hx] at h ⊢
    exact ih h
  ·rw [if_neg hc]
   cases hx:x == n with
   | true=>
    simp only [yW,hx] at h
    cases h
    right;simp [yW,hx]
   | false=>
    simp only [yW,hx] at h ⊢
    exact ih h
structure CompScope (own:List Str) (caps:List Nat) (N:List Str) (sc scope:Scope):Prop where
 kind:scope.kind=.function
 nocell:∀ y∈scope.names,y.2≠.cell
 loc:∀ y∈scope.names,y.2=.local->scope.names.lookup y.1=some .local
 fr:∀ y∈scope.names,y.2=.free->sc.names.lookup y.1=some .cell\/sc.names.lookup y.1=some .free
 cap:∀ i∈caps,i < N.length/\scope.names.lookup ((N[i]?).getD Str.empty)=some .free
def cxComp (X:Cx) (own:List Str) (caps:List Nat) (scope:Scope) (s:Shared) (H:Hp) (fp:List Addr) (C:Addr):Cx:=
 { X with N:=own++caps.map (λi=>(X.N[i]?).getD Str.empty),s₀:=s,H₀:=H,env:=compEnvC scope (clOf scope.names X.env []) C X.env,outer:=X.stack,ex:=fp,fn:=λ_=>false,pn:=[],xe:=λ_ _=>False }
def tau0 (n:Nat) (caps:List Nat) (σ:St):St:=List.replicate n none++caps.map λi=>(σ[i]?).join
section
variable {X:Cx}{pins:List (Addr×Obj)}{σ:St}{H:Hp}{s:Shared}
theorem free_of_kind {scope:Scope}{env:Env} (nc:∀ y∈scope.names,y.2≠.cell) {x:Str}{k:NameKind} (hk:k=.cell\/k=.free) (h:(relabel scope env).names.lookup x=some k):(x,NameKind.free)∈scope.names:=by
 have hm:=yB h
 obtain ⟨⟨n,k0⟩,hy,e⟩:=zO.mp hm
 dsimp only at e
 split at e
 ·rename_i hc
  simp only [zh,beq_iff_eq] at hc
  have e1:n=x:=congrArg Prod.fst e
  subst e1
  rw [hc.1.1] at hy
  exact hy
 ·cases e
  rcases hk with z | z
  ·subst z;exact absurd rfl (nc _ hy)
  ·subst z;exact hy
theorem inv_comp {own:List Str}{caps:List Nat}{scope:Scope}{fp:List Addr}{D C:Addr}{o:Obj} {h1:Heap}{tk:Nat} (I:Inv X pins σ H s) (S:CompScope own caps X.N X.env.scope scope)
  (f:∀ b∈fp,FpOk X pins H b) (fl:∀ b∈fp,b < s.heap.objs.size) (hD:s.heap.objs.size<=D) (hC:s.heap.objs.size<=C) (hDC:D≠C) (keep:∀ b o,s.heap.get? b=some o->h1.get? b=some o)
  (hns:h1.Ns C λ_=>none) (hacc:h1.get? D=some o) (ho:∀ v,o.data≠.cell v) :
  Inv (cxComp X own caps scope s H fp C) [(D,o)] (tau0 own.length caps σ) H { s with heap:=h1,toks:=tk }:=by
 have sub:∀ b∈frs X.stack,b < s.heap.objs.size:=λb hb=>by
  rcases zV.mp (I.stkSub b hb) with e | hb
  ·rw [e];exact I.lt
  ·by_cases q:b < s.heap.objs.size
   ·exact q
   ·exact absurd hb (I.nofs (Nat.le_of_not_lt q))
 refine ⟨⟨I.ok.mod,S.kind,I.ok.glob,I.ok.blt,hC,λx y c h1 h2=>I.ok.inj x y c (xv h1) (xv h2),λx hx=>?_,λx c z _=>absurd (show false=true from z) zG,I.ok.hd,I.ok.frames,.inl rfl,
   λb hb=>⟨zS (zU (fl b hb) hC),λx c e=>(f b hb).2.2.2.2.1 x c (xv e)⟩,I.bs,zk I.ok.bsz I.sz,λb ob e hb=>?_,λb hb hs=>?_,I.stack,I.stkFree⟩,
  rfl,I.bare,Un.kept keep,⟨_,hns,λi x v e1 e2 e3=>?_⟩,λx c e=>?_,I.hok.fresh hC,λx c e=>I.freeC x c (xv e),λp hp=>?_,I.hok.kept keep,?_⟩
 ·have hm:(x,NameKind.free)∈scope.names:=by
   rcases hx with hx | hx
   ·exact free_of_kind S.nocell (.inl rfl) hx
   ·exact free_of_kind S.nocell (.inr rfl) hx
  obtain ⟨c,hc⟩:=I.ok.has x (S.fr _ hm rfl)
  exact ⟨c,clOf_some hm hc⟩
 ·rcases (f b hb).2.2.2.1 with z | z
  ·exact I.ok.noex b ob e z
  ·exact absurd (zU (Heap.lt_size e) (zk I.ok.bsz z)) (zu _)
 ·rcases zV.mp (I.stkSub b hs) with e | e
  ·exact (f b hb).2.1 e
  ·exact (f b hb).2.2.1 e
 ·have e2':(List.replicate own.length (none:Option V)++caps.map λi=>(σ[i]?).join)[i]?=some (some v):=e2
  have e1':(own++caps.map (λi=>(X.N[i]?).getD Str.empty))[i]?=some x:=e1
  have hi:own.length<=i:=by
   by_cases q:i < own.length
   ·rw [List.getElem?_append_left (by simpa using q),yO,if_pos q] at e2'
    cases e2'
   ·exact Nat.le_of_not_lt q
  rw [zy (by simpa using hi),yF,zC] at e2'
  rw [zy hi,zC] at e1'
  cases ek:caps[i - own.length]? with
  | none=>rw [ek] at e1';cases e1'
  | some k=>
   rw [ek] at e1' e2'
   have ex:(X.N[k]?).getD Str.empty=x:=Option.some.inj e1'
   have ev:(σ[k]?).join=some v:=Option.some.inj e2'
   have ev':σ[k]?=some (some v):=by
    cases q:σ[k]? with
    | none=>rw [q] at ev;cases ev
    | some y=>rw [q] at ev;exact congrArg some ev
   obtain ⟨hl,hf⟩:=S.cap k (zD ek)
   have eN:X.N[k]?=some x:=by
    rw [zE hl] at ex ⊢
    exact congrArg some ex
   rw [ex] at hf
   have hm:=yB hf
   have hfr:=S.fr _ hm rfl
   obtain ⟨m,_,hl'⟩:=I.loc
   obtain ⟨u,ru,lk⟩:=hl' k x v eN ev' (.inr hfr)
   refine ⟨u,ru,.inr ⟨lookup_relabel_free hf,?_⟩⟩
   rcases lk with ⟨kl,_⟩ | ⟨_,c,hc,ob,hob,hd⟩
   ·have kl':X.env.scope.names.lookup x=some .local:=kl
    rcases hfr with z | z
    ·have z':X.env.scope.names.lookup x=some .cell:=z
     rw [z'] at kl';cases kl'
    ·have z':X.env.scope.names.lookup x=some .free:=z
     rw [z'] at kl';cases kl'
   ·exact ⟨c,clOf_some hm hc,ob,keep c ob hob,hd⟩
 ·obtain ⟨v,ob,hob,hd⟩:=I.cell x c (xv e)
  exact ⟨v,ob,keep c ob hob,hd⟩
 ·have e:p=(D,o):=by simpa using (show p∈[]++[(D,o)] from hp)
  subst e
  refine ⟨hacc,I.hok.fresh hD,hDC,λz=>?_,ho⟩
  exact absurd (zU (sub D z) hD) (zu _)
 ·show (tau0 own.length caps σ).length=(own++caps.map (λi=>(X.N[i]?).getD Str.empty)).length
  simp [tau0]
def PTs (X:Cx) (ifs:List Expr) (t:TT):Prop:=
 ∀ (pins:List (Addr×Obj)) (s:Shared) (σ:St) (H:Hp) (Q:Bool->Hp->Prop),Inv X pins σ H s->t σ H Q ->
  wpAny (model X.prog X.w) X.A (forIn ifs true λc r=>if r=true then do let ok <- isTrue c X.env (eval c X.env);pure (ForInStep.yield ok) else pure (ForInStep.yield r)) (TP X pins σ Q) X.xe s
def tYes:TT:=λ_ H Q=>Q true H
theorem we:PTs X [] tYes:=λ_ s σ H Q I h=>wpAny_tests_nil ⟨H,I,h⟩
theorem pts_one {c:Expr}{t:TT} (h:PT X c t):PTs X [c] t:=λpins s σ H Q I q=>wpAny_tests_one (h pins s σ H Q I q)
def tComp (n:Nat) (caps:List Nat) (wi:TI) (g:TG) (tc:TT) (te:TE):TE:=fun σ H Q=>wi σ H λJ H1=>∃ W:Nat->Nat->St->List V->Hp->Prop,(∃ m,W 0 m (tau0 n caps σ) [] H1)/\∀ i m τ acc H,W i m τ acc H ->
 (J.stop i H/\acc.length<=sizeLine/\∀ p,H p=none->Q (.ref p) (upd H p (.lst acc))) \/
 (J.go i H/\acc.length < sizeLine/\∀ x H',J.yld i H x H'->g x τ H' fun τ2 H2=>tc τ2 H2 λb H3=>if b=true then te τ2 H3 λy H4=>∃ m',m' < m/\W (i + 1) m' τ2 (acc++[y]) H4 else ∃ m',m' < m/\W (i + 1) m' τ2 acc H3)
theorem HOk.track {P:Program}{w:World}{H:Hp}{h:Heap}{a:Addr}{o:HO} (x:HOk P w H h) (hn:H a=none) (new:ObjOk P w (upd H a o) h a o):HOk P w (upd H a o) h:=λb u e=>by
 by_cases hb:b=a
 ·subst hb;rw [xJ] at e;cases e;exact new
 ·rw [xO hb] at e
  exact (x b u e).stay (λc v _ q=>q) (λc q=>by rw [xO (xK q hn)];exact q) λc xs q=>by rw [xO (xK q hn)];exact q
theorem wf {own:List Str}{caps:List Nat}{elt tg iter:Expr}{ifs:List Expr}{scope:Scope}{pos:Pos}{wi:TI}{g:TG}{tc:TT}{te:TE} (hc:X.calm=true) (S:CompScope own caps X.N X.env.scope scope) (hi:PI X tg iter wi)
  (hg:∀ s H fp C,PG (cxComp X own caps scope s H fp C) tg g) (ht:∀ s H fp C,PTs (cxComp X own caps scope s H fp C) ifs tc) (he:∀ s H fp C,PE (cxComp X own caps scope s H fp C) elt te)
  (hs:∀ x,foldedSetIterable iter X.env x=pure x:=by intro _;rfl):PE X (.ListComp elt [⟨tg,iter,ifs,0⟩] scope pos) (tComp own.length caps wi g tc te):=by
 intro pins s σ H Q I h
 rw [eval_ListComp]
 refine wpAny_comprehension_free (use:=none) (cl:=clOf scope.names X.env []) rfl hs (closureFor_eq λy hy e=>I.ok.has y.1 (S.fr y hy e)) S.kind S.loc
  (wpAny_mono (hi pins s σ H _ I h) (λv s1 h1=>thn h1 λitv s2 h2=>?_) λ_ _ e=>e)
 obtain ⟨it,fp,tn,J,H2,e,I2,T,st2,f2,W,⟨m0,w0⟩,turn⟩:=h2
 subst e
 refine wpAny_newObj_type (wpAny_newFunctionEnv S.nocell (by intro y hy;simp at hy) (λh₁ hns₁ hsb₁=>?_) S.kind)
 dsimp only at hns₁ hsb₁ ⊢
 generalize hH2:s2.heap.push { cls:=.type "list", dict:=none,data:=.seq ([]:List Value).toArray }=G at hns₁ hsb₁ ⊢
 have hG:G.objs.size=s2.heap.objs.size + 1:=by rw [<-hH2,Heap.size_push]
 have hDC:s2.heap.objs.size≠G.objs.size:=by rw [hG];exact zS (xB _)
 have hCle:s2.heap.objs.size<=G.objs.size:=by rw [hG];exact yT _
 have below:∀ b,b < s2.heap.objs.size->b≠G.objs.size:=λb hb=>by rw [hG];exact zS (yg hb)
 have old:∀ b o,s2.heap.get? b=some o->h₁.get? b=some o:=λb o e=>hsb₁.extBut b o (below b (Heap.lt_size e)) (Heap.get?_push_of_some _ (hH2 ▸ Heap.get?_push_of_some _ e))
 have hacc:h₁.get? s2.heap.objs.size=some { cls:=.type "list", dict:=none,data:=.seq ([]:List Value).toArray }:=hsb₁.extBut _ _ hDC (Heap.get?_push_of_some _ (hH2 ▸ Heap.get?_push_size _ rfl))
 have fl:∀ b∈fp,b < s2.heap.objs.size:=λb hb=>let ⟨o,e,_⟩:=T.obj _ _ st2 b hb;Heap.lt_size e
 have hns₁':h₁.Ns G.objs.size λ_=>none:=hns₁
 have I4:=inv_comp (tk:=s2.toks + ([]:List (Str×Value)).length) I2 S f2 fl (zK _) hCle hDC old hns₁' hacc (λv z=>nomatch z)
 have st4:tn 0 h₁:=T.keep _ _ _ st2 λb _ o e=>old b o e
 generalize hs4:({ s2 with heap:=h₁,toks:=s2.toks + ([]:List (Str×Value)).length }:Shared)=s4 at I4 ⊢
 have e4:s4.heap=h₁:=by rw [<-hs4]
 rw [<-e4] at st4
 -- the loop
 have loop:codeAny (model X.prog X.w) X.A (.compLoop (.ListComp elt [⟨tg,iter,ifs,0⟩] scope pos) 0 (.ref it) (.ref s2.heap.objs.size) (compEnvC scope (clOf scope.names X.env []) G.objs.size X.env))
   (compPost (model X.prog X.w) X.A X.xe none (EP X pins σ Q) (.ref s2.heap.objs.size) G.objs.size) s4:=by
  let Y:=cxComp X own caps scope s2 H2 fp G.objs.size
  have stat:∀ {H':Hp}{its:List Value}{n:Nat},(∀ b∈fp,H' b=none)->∀ b∈fp,FpOk Y [(s2.heap.objs.size,({ cls:=.type "list", data:=.seq its.toArray n }:Obj))] H' b:=λ{H' its n} hn b hb=>by
   refine ⟨hn b hb,below b (fl b hb),λz=>?_,.inl hb,λx c e=>(f2 b hb).2.2.2.2.1 x c (xv e),λp hp=>?_⟩
   ·rcases zV.mp (I2.stkSub b z) with e | e
    ·exact (f2 b hb).2.1 e
    ·exact (f2 b hb).2.2.1 e
   ·have e:p=(s2.heap.objs.size,({ cls:=.type "list", data:=.seq its.toArray n }:Obj)):=by simpa using (show p∈[]++[_] from hp)
    subst e
    exact xA (fl b hb)
  refine loop_comp (λn s'=>∃ i τ acc its k H',Inv Y [(s2.heap.objs.size,({ cls:=.type "list", data:=.seq its.toArray k }:Obj))] τ H' s'/\tn i s'.heap/\(∀ b∈fp,H' b=none)/\Vals acc its/\W i n τ acc H') ?_ m0
   ⟨0,_,[],[],0,H2,I4,st4,λb hb=>(f2 b hb).1,.nil,w0⟩
  rintro n s5 ⟨i,τ,acc,its,k,H5,I5,st5,fr5,rv5,w5⟩
  rcases turn i n τ acc H5 w5 with ⟨stop,hz,q⟩ | ⟨go,hz,step⟩
  ·refine thn (T.done Y rfl rfl rfl hc i _ s5 τ H5 (λ_ _=>False) I5 (stat fr5) st5 stop) λr s6 ⟨hr,I6⟩=>?_
   subst hr
   obtain ⟨eD,nD,_,_,_⟩:=I6.pin _ (zT _ (zN.mpr rfl))
   obtain ⟨m6,hm6,_⟩:=I6.loc
   refine ⟨m6,hm6,λh' hsb=>?_⟩
   have hC6:H5 G.objs.size=none:=I6.free
   have eD':h'.get? s2.heap.objs.size=some { cls:=.type "list", data:=.seq its.toArray k }:=hsb.extBut _ _ hDC eD
   have hok6:HOk X.prog X.w H5 h':=λb u e=>(I6.hok b u e).stay (λc v hcv qv=>hsb.extBut c v (by
     rcases hcv with z | z
     ·subst z;exact xK e hC6
     ·exact xK z hC6) qv) (λ_ q=>q) λ_ _ q=>q
   refine ⟨.ref s2.heap.objs.size,_,?_,rfl,q _ nD⟩
   have ub:=I6.base
   refine I2.call' (ch:=fp) (s':={ s6 with heap:=h' }) I6.os ⟨λb o e n' hb hx=>hsb.extBut b o (below b (Heap.lt_size e)) (ub.keep b o e n' hb hx),λb o e n' hb hx=>?_,λb o e n' hx=>?_,λb o e hx=>?_,λb xs e=>?_,λb o u e=>?_,λb ps e=>?_⟩
    (hok6.track nD ⟨hz,its,k,rv5,eD'⟩) I6.bare λb hb=>⟨(f2 b hb).2.2.2.1,(f2 b hb).2.1,(f2 b hb).2.2.2.2.1,(f2 b hb).2.2.2.2.2⟩
   ·obtain ⟨sl,e'⟩:=ub.slot b o e n' hb hx
    exact ⟨sl,hsb.extBut b _ (below b (Heap.lt_size e)) e'⟩
   ·rw [xO (zS (Heap.lt_size e))]
    exact ub.free b o e n' hx
   ·obtain ⟨o',e'⟩:=ub.there b o e hx
    exact ⟨o',hsb.extBut b _ (below b (Heap.lt_size e)) e'⟩
   ·have z:=ub.tups b xs e
    rw [xO (xK z nD)];exact z
   ·have z:=ub.frzs b o u e
    rw [xO (xK z nD)];exact z
   ·obtain ⟨more,z⟩:=ub.tbls b ps e
    exact ⟨more,by rw [xO (xK z nD)];exact z⟩
  ·refine thn (T.item Y rfl rfl rfl hc i _ s5 τ H5 (λ_ _=>False) I5 (stat fr5) st5 go) λr s6 ⟨u,hr,h6⟩=>?_
   subst hr
   refine thn h6 λ_ s7 ⟨x,H7,I7,r7,y7,st7,fr7⟩=>?_
   have I7':=I7.pinned (stat fr7) (T.obj _ _ st7)
   refine thn (hg s2 H2 fp G.objs.size _ s7 τ H7 x u _ I7' r7 (step x H7 y7)) λ_ s8 ⟨τ8,H8,I8,q8⟩=>?_
   refine thn (ht s2 H2 fp G.objs.size _ s8 τ8 H8 _ I8 q8) λok s9 ⟨H9,I9,q9⟩=>?_
   -- the iterator's state behind the turn
   have back:∀ {s':Shared}{τ':St}{H':Hp},Inv Y ([(s2.heap.objs.size,({ cls:=.type "list", data:=.seq its.toArray k }:Obj))]++pinsAt fp s7.heap) τ' H' s'->(tn (i + 1) s'.heap/\∀ b∈fp,H' b=none):=λ{s' τ' H'} Ib=>
    ⟨T.keep _ _ _ st7 λb hb o e=>(Ib.pin (b,o) (zT _ (zT _ (wX hb e)))).1,λb hb=>by
     obtain ⟨o,e,d⟩:=T.obj _ _ st7 b hb
     exact (Ib.pin (b,o) (zT _ (zT _ (wX hb e)))).2.1⟩
   cases ok with
   | false=>
    obtain ⟨m',hm',w'⟩:=q9
    obtain ⟨sb,fb⟩:=back I9
    exact ⟨m',hm',i + 1,τ8,acc,its,k,H9,I9.unpinned,sb,fb,rv5,w'⟩
   | true=>
    refine thn (he s2 H2 fp G.objs.size _ s9 τ8 H9 _ I9 q9) λy s10 ⟨yv,H10,I10,r10,q10⟩=>?_
    obtain ⟨m',hm',w'⟩:=q10
    obtain ⟨sb,fb⟩:=back I10
    obtain ⟨eD,nD,neD,nfD,_⟩:=I10.pin (s2.heap.objs.size,_) (zT _ (yd _ (zN.mpr rfl)))
    have hl:acc.length=its.length:=rv5.length
    refine call_meets F.slot_list_append ⟨_,eD,rfl⟩ F.entry_list_append (F.args_list_append_2 _ _) (PySem.list_append s2.heap.objs.size its.toArray k y (by rw [zP];omega)) ⟨eD,?_⟩
    have q:=PySem.IsL.update eD (λa:Array Value=>a.push y)
    have Iu:Inv Y [] τ8 H10 s10:=I10.pins_of λp hp=>nomatch hp
    have It:=Iu.turned (t':=s10.toks) (it:=s2.heap.objs.size) (h':=s10.heap.update s2.heap.objs.size (Obj.mapSeq (λa:Array Value=>a.push y))) (λb o hb e=>(Heap.get?_update_other s10.heap _ (Ne.symm hb)).trans e) nD neD (.inr (zK _))
     (λx c e z=>by
      obtain ⟨v,ob,hob,_⟩:=I2.cell x c (xv e)
      exact absurd (Heap.lt_size hob) (by rw [z];exact zu _)) (λp hp=>nomatch hp)
    have It':=It.pins_of (pins':=[(s2.heap.objs.size,({ cls:=.type "list", data:=.seq (its++[y]).toArray (k + 1) }:Obj))]) λp hp=>by
     have e:p=_:=zN.mp hp
     subst e
     exact ⟨by simpa using q,nD,neD,nfD,λv z=>nomatch z⟩
    refine ⟨m',hm',i + 1,τ8,acc++[yv],its++[y],_,H10,It',T.keep _ _ _ sb λb hb o e=>(Heap.get?_update_other s10.heap _ (xA (fl b hb))).trans e,fb,rv5.append (.cons r10 .nil),w'⟩
 exact codeAny_compStart_list loop (T.self _ 0 s4 _ _ st4 loop)
end
end L2
namespace L2
open PySem PySem.Spec PyProof.Rows
open AutoSeq1 (wpAny_loadPart')
section
variable {prog:Program}{w:World}{A:Around}{E:Value->Shared->Prop}{s:Shared}
end
section
variable {prog:Program}{w:World}{A:Around}{E:Value->Shared->Prop}{s:Shared}
end
def IteL (K:PySem.W.Frag) (a:Addr):It:=
 ⟨λi H=>∃ xs x,SqL K H a xs/\xs[i]?=some x,λi H y H'=>∃ p x,H p=none/\y=.ref p/\H'=upd H p (.tup [.int i,x])/\∀ xs,SqL K H a xs->xs[i]?=some x,λi H=>∃ xs,SqL K H a xs/\xs.length<=i⟩
theorem turn_enumL {P:Program}{w:World}{K:PySem.W.Frag}{es:List Expr}{k:Nat}{pos:Pos} (a e it:Addr) (hne:e≠it) :
  Turn P w K (.Tuple es k pos) (IteL K a) [e,it] e (λi h=>(∃ old,IsEnum h e it i old)/\h.IsListIter it a i) where
 mem:=by simp
 obj:=λi h st b hb=>by
  obtain ⟨⟨old,he⟩,o,hi,c,d⟩:=st
  rcases zV.mp hb with z | z
  ·subst z;exact ⟨_,he,λv q=>nomatch q⟩
  ·have z':b=it:=by simpa using z
   subst z'
   exact ⟨o,hi,λv q=>by rw [d] at q;cases q⟩
 keep:=λi h h' st q=>by
  obtain ⟨⟨old,he⟩,o,hi,r⟩:=st
  exact ⟨⟨old,q e (by simp) _ he⟩,o,q it (by simp) o hi,r⟩
 item:=by
  intro X hP hw hK hc i pins s σ H E I hf st hg
  subst hP hw hK
  obtain ⟨xs,x,hq,hx⟩:=hg
  obtain ⟨its,rv,p,hz⟩:=I.list hq
  obtain ⟨u,hu,ru⟩:=rv.get hx
  obtain ⟨⟨old,he⟩,hi⟩:=st
  obtain ⟨e0,e1,e2,e3,e4,e5⟩:=hf e (by simp)
  obtain ⟨f0,f1,f2,f3,f4,f5⟩:=hf it (by simp)
  have el:e < s.heap.objs.size:=Heap.lt_size he
  have il:it < s.heap.objs.size:=let ⟨_,z,_⟩:=hi;Heap.lt_size z
  refine wpAny_pyNext_enum_item he hi p.isList (x:=u) (by simpa using hu) hne λh1 ho hi1 hT hsz hk=>?_
  obtain ⟨tk,htk⟩:∃ tk,tk=s.toks:=⟨_,rfl⟩
  rw [<-htk] at hT ⊢
  refine ⟨_,rfl,?_⟩
  refine wpAny_letOwnedTupleGo_enum ho λh2 he2 hs2=>?_
  have hs2':Heap.SameBut e h1 h2:=hs2
  have old2:∀ b o,b≠e->b≠it->s.heap.get? b=some o->h2.get? b=some o:=λb o hb hb' q=>hs2'.extBut b o hb (hk b o hb hb' q)
  have hT2:h2.get? s.heap.objs.size=some { cls:=.type "tuple", data:=.seq #[.int i tk,u] }:=hs2'.extBut _ _ (xA el) hT
  have nT:H s.heap.objs.size=none:=I.hok.fresh (zK _)
  refine ⟨.ref s.heap.objs.size,upd H s.heap.objs.size (.tup [.int i,x]),?_,rfl,⟨_,x,nT,rfl,rfl,λys hy=>by rw [I.list_inj hy hq];exact hx⟩,⟨⟨u,by simpa using he2⟩,?_⟩,λb hb=>?_⟩
  ·have nch:∀ b,b ∉ [e,it]->b≠e/\b≠it:=λb hb=>⟨λz=>hb (by simp [z]),λz=>hb (by simp [z])⟩
   refine Inv.step (s:=s) (h':=h2) (g':=s.gens) (d':=s.drawn) (t':=tk + 1) (ch:=[e,it]) I (λb hb=>?_) (λb o _ _ hb q _=>old2 b o (nch b hb).1 (nch b hb).2 q) (λb o _ _ hb q _=>⟨o.slots,old2 b o (nch b hb).1 (nch b hb).2 q⟩)
    (λb o _ q n=>by rw [xO (zS (Heap.lt_size q))];exact n) (λb o hb q=>⟨o,old2 b o (nch b hb).1 (nch b hb).2 q⟩)
    (λb ys q=>by rw [xO (xK q nT)];exact q) (λb o v q=>by rw [xO (xK q nT)];exact q) (λb ps q=>⟨#[],by rw [xO (xK q nT),q];simp⟩)
    (λm hm=>by
     obtain ⟨o,es',ep,q,r⟩:=hm
     exact ⟨o,es',ep,old2 _ o (Ne.symm e1) (Ne.symm f1) q,r⟩) (λb v q=>?_) I.bare
   ·rcases zV.mp hb with z | z
    ·subst z;exact ⟨e3,e1,e4,e5⟩
    ·have z':b=it:=by simpa using z
     subst z';exact ⟨f3,f1,f4,f5⟩
   ·by_cases hb:b=s.heap.objs.size
    ·subst hb
     rw [xJ] at q
     cases q
     exact ⟨by show 2<=sizeLine;rw [sizeLine_eq];decide,[.int i tk,u],.cons ⟨_,rfl⟩ (.cons ru .nil),⟨_,hT2,rfl,_,rfl⟩⟩
    ·rw [xO hb] at q
     refine (I.hok b v q).stay (λc ob hc qc=>old2 c ob ?_ ?_ qc) (λc qc=>by rw [xO (xK qc nT)];exact qc) λc ys qc=>by rw [xO (xK qc nT)];exact qc
     ·rcases hc with z | z
      ·subst z;exact xK q e0
      ·exact xK z e0
     ·rcases hc with z | z
      ·subst z;exact xK q f0
      ·exact xK z f0
  ·obtain ⟨o,q,r⟩:=hi1
   exact ⟨o,hs2'.extBut it o (Ne.symm hne) q,r⟩
  ·rcases zV.mp hb with z | z
   ·subst z;rw [xO (zS el)];exact e0
   ·have z':b=it:=by simpa using z
    subst z';rw [xO (zS il)];exact f0
 done:=by
  intro X hP hw hK hc i pins s σ H E I hf st hg
  subst hP hw hK
  obtain ⟨xs,hq,hx⟩:=hg
  obtain ⟨its,rv,p,hz⟩:=I.list hq
  obtain ⟨⟨old,he⟩,hi⟩:=st
  obtain ⟨f0,f1,f2,f3,f4,f5⟩:=hf it (by simp)
  have hl:=rv.length
  exact wpAny_pyNext_enum_end (I.ok.hd hc) he hi p.isList (by simp;omega) λh' eb=>⟨rfl,I.turned (t':=s.toks) (λb o hb e=>eb b o hb e) f0 f1 f3 f4 f5⟩
 self:=λ_ _ _ _ _ st h=>let ⟨⟨_,he⟩,_⟩:=st;wpAny_pyIter_enum he h
def iEnumL (K:PySem.W.Frag) (ta:TA):TI:=fun σ H R=>ta σ H λvs H1=>∃ a,vs=[.ref a]/\(∃ xs,SqL K H1 a xs)/\R (IteL K a) H1
theorem pi_enumL {X:Cx}{a:Expr}{ta:TA} {p pos pos2:Pos}{es:List Expr}{k:Nat}{K:PySem.W.Frag} (hK:X.K=K) (hg:Gl X "enumerate") (hm:X.mg "enumerate" = none) (ha:PA X [a] ta) (hs:starEach [a] X.env=[(false,eval a X.env)]:=by rfl) :
  PI X (.Tuple es k pos2) (.Call (.Name "enumerate" p) [a] [] pos) (iEnumL K ta):=by
 subst hK
 intro pins s σ H R I h
 refine Call_ (ld_blt I hg hm boot_enumerate (PyProof.Rows.callWith_type1 (thn (ha pos pins s σ H _ I h) λus s1 ⟨vs,H1,I1,r1,q1⟩=>?_) hs rfl))
 obtain ⟨l,e,⟨xs,hq⟩,q⟩:=q1
 subst e
 cases r1 with
 | cons r rr=>
  cases rr
  cases r
  obtain ⟨its,rv,p,hz⟩:=I1.list hq
  refine call_enumerate_list p.isList λh' he hi hsz hk=>?_
  refine wpAny_pyIter_enum he ?_
  have I2:Inv X pins σ H1 { s1 with heap:=h' }:=I1.kept (t':=s1.toks) hk
  refine ⟨s1.heap.objs.size + 1,[s1.heap.objs.size + 1,s1.heap.objs.size],_,_,H1,rfl,I2,turn_enumL l _ _ (Nat.succ_ne_self _),⟨⟨_,he⟩,hi⟩,λb hb=>?_,q⟩
  have hb':s1.heap.objs.size<=b:=by
   rcases zV.mp hb with z | z
   ·subst z;exact yT _
   ·have z':b=s1.heap.objs.size:=by simpa using z
    subst z';exact zK _
  exact I1.fpOk hb' (I1.hok.fresh hb')
end L2
namespace L2
open PySem PySem.Spec PyProof.Rows
def tyS (H:Hp):V->Option String
 | .non=>some "NoneType"
 | .bl _=>some "bool"
 | .int _=>some "int"
 | .str _=>some "str"
 | .ref a=>match H a with
  | some (.lst _)=>some "list"
  | some (.frz _ (.lst _))=>some "list"
  | some (.tup _)=>some "tuple"
  | some (.dK _)=>some "dict"
  | _=>none
 | _=>none
theorem tyS_of {K:PySem.W.Frag}{H:Hp}{x:V}{t:String} (h:tyS H x=some t):TyOf K H x (.type t):=by
 cases x with
 | non=>cases h;exact .non
 | bl b=>cases h;exact .bl b
 | int i=>cases h;exact .int i
 | str x=>cases h;exact .str x
 | ref a=>
  unfold tyS at h
  dsimp only at h
  split at h
  ·rename_i e;cases h;exact .lst e
  ·rename_i e;cases h;exact .frz e
  ·rename_i e;cases h;exact .tup e
  ·rename_i e;cases h;exact .dK e
  ·cases h
 | _=>cases h
theorem tyS_six {H:Hp}{x:V}{t:String} (h:tyS H x=some t):t = "NoneType" \/ t = "bool" \/ t = "int" \/ t = "str" \/ t = "list" \/ t = "tuple" \/ t = "dict" := by
 cases x with
 | ref a=>
  unfold tyS at h
  dsimp only at h
  split at h <;> cases h <;> simp
 | _=>cases h <;> simp
def isSub (t T:String):Bool:=t == T || (t == "bool" && T == "int")
theorem kit_of {K:PySem.W.Frag}{t T:String} (h:t = "NoneType" \/ t = "bool" \/ t = "int" \/ t = "str" \/ t = "list" \/ t = "tuple" \/ t = "dict") (hT:T = "int" \/ T = "bool" \/ T = "list" \/ T = "tuple"):zc K (.type t) (.type T)=some (isSub t T):=by
 rcases h with rfl | rfl | rfl | rfl | rfl | rfl | rfl <;> rcases hT with rfl | rfl | rfl | rfl <;> first | rfl | decide +kernel
section
variable {X:Cx}
theorem xq:CallR X (.builtin "isinstance") (λxs H Q=>∃ x t T,xs=[x,.ty T]/\tyS H x=some t/\(T = "int" \/ T = "bool" \/ T = "list" \/ T = "tuple")/\Q (.bl (isSub t T)) H):=by
 intro pins s σ H xs us Q I r h
 obtain ⟨x,t,T,rfl,ht,hT,q⟩:=h
 obtain ⟨u,w',rfl,r1,r2⟩:=vals2 r
 cases r2
 exact isinst_ok I r1 (tyS_of ht) (kit_of (tyS_six ht) hT) λtk=>⟨.bl _,H,I.tok tk,rfl,q⟩
theorem wg:OpR X (binaryOp .FloorDiv) (rI (λ_ j=>0 < j/\j < 2 ^ 200) λi j=>.int (i / j)):=opI λi j _ _ _ _ _ hc q=>by
 have e:i.fdiv j=i / j:=Int.fdiv_eq_ediv_of_nonneg _ (by omega)
 rw [<-e] at q
 refine floordiv_int (by omega) q (.inl (PyProof.noPylong_of_log2 ?_))
 have h0:j.natAbs≠0:=by omega
 have h1:j.natAbs < 2 ^ 200:=by omega
 have:=(Nat.log2_lt h0).mpr h1
 omega
theorem op_neNil (hu:X.A.units + 64 < cLine):OpR X (compareOp .NotEq) (λx y H Q=>∃ a b xs,x=.ref a/\y=.ref b/\SqL X.K H a xs/\SqL X.K H b []/\Q (.bl (!xs.isEmpty)) H):=by
 intro pins s σ H x y v u Q I rx ry h
 obtain ⟨a,b,xs,rfl,rfl,ha,hb,q⟩:=h
 cases rx;cases ry
 obtain ⟨its,r,p,_⟩:=I.list ha
 obtain ⟨its2,r2,p2,_⟩:=I.list hb
 cases r2
 cases r with
 | nil=>exact SeqAt.RcNeAt.lists (e:=λ_=>true) p.isList p2.isList rfl (by omega) (λj h1=>absurd h1 (Nat.not_lt_zero _)) _ _ _ _ ⟨.bl _,H,I,rfl,q⟩
 | cons r1 rr=>exact SeqAt.RcNeAt.lists_lengths p.isList p2.isList (by simp) (by omega) _ _ _ _ ⟨.bl _,H,I,rfl,q⟩
theorem op_eqUnit (hu:X.A.units + 64 < cLine):OpR X (compareOp .Eq) (λx y H Q=>∃ a b xs,x=.ref a/\y=.ref b/\SqT X.K H a xs/\SqT X.K H b []/\Q (.bl xs.isEmpty) H):=by
 intro pins s σ H x y v u Q I rx ry h
 obtain ⟨a,b,xs,rfl,rfl,ha,hb,q⟩:=h
 cases rx;cases ry
 obtain ⟨its,r,p,_⟩:=I.tuple ha
 obtain ⟨its2,r2,p2,_⟩:=I.tuple hb
 cases r2
 have q':Q (.bl ((List.range (min its.toArray.size ([]:List Value).toArray.size)).all (λ_=>true) && its.toArray.size == ([]:List Value).toArray.size)) H:=by
  cases r with
  | nil=>simpa using q
  | cons r1 rr=>simpa using q
 exact SeqAt.RcAt.tuples (e:=λ_=>true) p p2 (by omega) (λj h1 h2=>absurd h2 (Nat.not_lt_zero _)) _ _ _ _ ⟨.bl _,H,I,rfl,q'⟩
variable {K:PySem.W.Frag}
theorem xz {es:List Expr}{k:Nat}{t:TGs}{n:Nat}{pos:Pos} (hK:X.K=K) (hc:X.calm=true) (h:PGs X es t)
  (hn:(assignEach es X.env).length=n:=by rfl) (hst:(assignEach es X.env).findIdx? (·.1)=none:=by rfl):PG X (.Tuple es k pos) (gTup K n t):=by subst hK;exact pg_tup hc h hn hst
theorem pi_list' {tg l:Expr}{tl:TE} (hK:X.K=K) (hl:PE X l tl):PI X tg l (iList K tl):=by subst hK;exact pi_list hl
theorem pi_tup'' {tg l:Expr}{tl:TE} (hK:X.K=K) (hl:PE X l tl):PI X tg l (iTup K tl):=by subst hK;exact pi_tup hl
theorem xV (hK:X.K=K):IxR X (rIxL K):=by subst hK;exact ix_list
theorem xW (hK:X.K=K):IxR X (rIxT K):=by subst hK;exact ix_tup
theorem sl_tup' (hK:X.K=K):SlR X (rSlT K):=by subst hK;exact sl_tup
theorem op_in_seq' (hK:X.K=K):OpR X (compareOp .In) (rIn K false):=by subst hK;exact op_in_seq
theorem xQ (hK:X.K=K):CallR X (.builtin "len") (λxs H Q=>∃ p ys,xs=[.ref p]/\(SqL K H p ys\/SqT K H p ys)/\Q (.int ys.length) H):=by subst hK;exact call_len_seq
theorem call_list_of' (hK:X.K=K):CallR X (.type "list") (λxs H Q=>∃ p ys,xs=[.ref p]/\(SqL K H p ys\/SqT K H p ys)/\∀ l,H l=none->Q (.ref l) (upd H l (.lst ys))):=by subst hK;exact call_list_of
end
end L2
namespace L2
open PySem PySem.Spec PyProof.Rows
theorem get_list {X:Cx}{K:PySem.W.Frag} (hK:X.K=K):PGet X (λo i H Q=>∃ p xs v,∃ k:Nat,o=.ref p/\i=.int k/\SqL K H p xs/\xs[k]?=some v/\Q v H):=by
 subst hK
 intro pins s σ H o i ov iv Q I ro ri h
 obtain ⟨p,xs,v,k,rfl,rfl,hq,hv,q⟩:=h
 cases ro
 obtain ⟨t,rfl⟩:=ri
 obtain ⟨its,r,pl,hz⟩:=I.list hq
 obtain ⟨w,ew,rw'⟩:=r.get hv
 have hk:k < xs.length:=(zB.mp hv).1
 have hn:=line63
 exact wpAny_getItem_list pl.isList (by omega) (by omega) (by simpa using ew) ⟨v,H,I,rw',q⟩
end L2
namespace SmSort
open PySem PySem.W PyProof.Rows
def KOK {α:Type} (n:Nat) (c:Nat->Nat->Bool):KasT α->(α->Prop)->Prop
 | .ret a,P=>P a
 | .ask i j k,P=>i < n/\j < n/\KOK n c (k (c i j)) P
theorem KOK.bind {α β:Type}{n:Nat}{c:Nat->Nat->Bool}{f:α->KasT β}{P:β->Prop}:∀ (t:KasT α),KOK n c t (λa=>KOK n c (f a) P)->KOK n c (t.bind f) P
 | .ret a,h=>h
 | .ask i j k,h=>⟨h.1,h.2.1,KOK.bind (k (c i j)) h.2.2⟩
theorem KOK.mono {α:Type}{n:Nat}{c:Nat->Nat->Bool}{P P':α->Prop} (hp:∀ a,P a->P' a):∀ (t:KasT α),KOK n c t P->KOK n c t P'
 | .ret a,h=>hp a h
 | .ask i j k,h=>⟨h.1,h.2.1,KOK.mono hp (k (c i j)) h.2.2⟩
theorem KOK.wp {α:Type}{n:Nat}{c:Nat->Nat->Bool}{P:α->Prop}{Q:α->Shared->Prop}{cmp:Nat->Nat->(Bool->Shared->Prop)->Shared->Prop}{s:Shared}
  (hc:∀ i j C,i < n->j < n->C (c i j) s->cmp i j C s) (hq:∀ a,P a->Q a s):∀ (t:KasT α),KOK n c t P->t.kasWp cmp Q s
 | .ret a,h=>hq a h
 | .ask i j k,h=>hc i j _ h.1 h.2.1 (KOK.wp hc hq (k (c i j)) h.2.2)
section
variable {n:Nat}{f:Nat->Int}
def at' (p:Array Nat) (i:Nat):Nat:=(p[i]?).getD 0
theorem wC (p:Array Nat) (i:Nat):p.getD i 0=at' p i:=by unfold at';simp
def g (f:Nat->Int) (p:Array Nat) (i:Nat):Int:=f (at' p i)
def Pm (n:Nat) (p:Array Nat):Prop:=p.Perm (List.toArray (List.range n))
theorem Pm.size {p:Array Nat} (h:Pm n p):p.size=n:=by rw [Array.Perm.size_eq h];simp
theorem Pm.lt {p:Array Nat} (h:Pm n p) {i:Nat} (hi:i < n):at' p i < n:=by
 have hs:=h.size
 have e:at' p i=p[i]'(by omega):=by unfold at';simp [hs,hi]
 have hm:p[i]'(by omega)∈p:=Array.getElem_mem _
 have hm':=(Array.Perm.mem_iff h).mp hm
 rw [e]
 simpa using hm'
theorem Pm.rev {p:Array Nat} (h:Pm n p) (i j:Nat):Pm n (kas_rev p i j):=(mirror_perm p i j _).trans h
theorem Pm.bub {p:Array Nat} (h:Pm n p) (k d:Nat):Pm n (bubble p k d):=(bubble_perm p k d).trans h
theorem g_rev {p:Array Nat}{i j:Nat} (hj:j<=p.size) (k:Nat):g f (kas_rev p i j) k=if i<=k/\k < j then g f p (i + j - 1 - k) else g f p k:=by
 unfold g at' kas_rev
 rw [getElem?_mirror_all hj k]
 split <;> rfl
theorem g_bub {p:Array Nat}{src d:Nat} (hs:src < p.size) (hd:d<=src) (k:Nat):g f (bubble p src d) k=if k=src - d then g f p src else if src - d < k/\k<=src then g f p (k - 1) else g f p k:=by
 unfold g at'
 rw [getElem?_bubble hs d hd k]
 split
 ·rfl
 ·split <;> rfl
def Up (f:Nat->Int) (p:Array Nat) (k:Nat):Prop:=∀ i j,i<=j->j < k->g f p i<=g f p j
def Dn (f:Nat->Int) (p:Array Nat) (k:Nat):Prop:=∀ i j,i<=j->j < k->g f p j<=g f p i
def cf (f:Nat->Int) (i j:Nat):Bool:=decide (f i < f j)
theorem asc_ok {p:Array Nat} (hp:Pm n p):∀ (q m:Nat),1<=m->m + q<=n->Up f p m->KOK n (cf f) (kas_asc p q m) (λm'=>m<=m'/\m'<=m + q/\Up f p m'/\(m' < m + q->g f p m' < g f p (m' - 1)))
 | 0,m,_,_,hu=>⟨zK _,zK _,hu,λh=>absurd h (zu _)⟩
 | q + 1,m,h1,h2,hu=>by
  unfold kas_asc
  refine ⟨by rw [wC];exact hp.lt (by omega),by rw [wC];exact hp.lt (by omega),?_⟩
  rw [wC,wC]
  by_cases hc:g f p m < g f p (m - 1)
  ·have e:cf f (at' p m) (at' p (m - 1))=true:=decide_eq_true hc
   rw [e];dsimp only;rw [if_pos rfl]
   exact ⟨zK _,by omega,hu,λ_=>hc⟩
  ·have e:cf f (at' p m) (at' p (m - 1))=false:=decide_eq_false hc
   rw [e];dsimp only;rw [if_neg zG]
   refine KOK.mono (λm' h=>⟨by omega,by omega,h.2.2.1,λz=>h.2.2.2 (by omega)⟩) _ (asc_ok hp q (m + 1) (by omega) (by omega) λi j hij hj=>?_)
   by_cases hjm:j < m
   ·exact hu i j hij hjm
   ·have ej:j=m:=by omega
    subst ej
    by_cases hi:i=j
    ·subst hi;omega
    ·have:=hu i (j - 1) (by omega) (by omega)
     omega
def Blk (f:Nat->Int) (p:Array Nat) (m q:Nat):Prop:=∀ i,m<=i + (q + 1)->i < m->g f p i=g f p (m - 1)
theorem rev_same {p:Array Nat} (hp:Pm n p) {m q:Nat} (hm:m<=n) (hq:q + 1<=m) (hb:Blk f p m q) (k:Nat):g f (kas_rev p (m - (q + 1)) m) k=g f p k:=by
 rw [g_rev (by rw [hp.size];exact hm)]
 split
 ·rename_i h
  rw [hb _ (by omega) (by omega),hb k (by omega) (by omega)]
 ·rfl
theorem desc_ok:∀ (t:Nat) (p:Array Nat) (m q:Nat),Pm n p->1<=m->m + t<=n->q + 1<=m->Dn f p m->Blk f p m q ->
  KOK n (cf f) (kas_desc t p m q) (λr=>Pm n r.1/\m<=r.2.1/\r.2.1<=n/\r.2.2 + 1<=r.2.1/\Dn f r.1 r.2.1/\Blk f r.1 r.2.1 r.2.2)
 | 0,p,m,q,hp,h1,h2,h3,hd,hb=>⟨hp,zK _,by simpa using h2,h3,hd,hb⟩
 | t + 1,p,m,q,hp,h1,h2,h3,hd,hb=>by
  unfold kas_desc
  refine ⟨by rw [wC];exact hp.lt (by omega),by rw [wC];exact hp.lt (by omega),?_⟩
  rw [wC,wC]
  by_cases hc:g f p m < g f p (m - 1)
  ·have e:cf f (at' p m) (at' p (m - 1))=true:=decide_eq_true hc
   rw [e];dsimp only;rw [if_pos rfl]
   have step:∀ p':Array Nat,Pm n p'->(∀ k,g f p' k=g f p k)->KOK n (cf f) (kas_desc t p' (m + 1) 0) (λr=>Pm n r.1/\m<=r.2.1/\r.2.1<=n/\r.2.2 + 1<=r.2.1/\Dn f r.1 r.2.1/\Blk f r.1 r.2.1 r.2.2):=λp' hp' hg=>by
    refine KOK.mono (λr h=>⟨h.1,by omega,h.2.2⟩) _ (desc_ok t p' (m + 1) 0 hp' (by omega) (by omega) (by omega) (λi j hij hj=>?_) λi hi hi'=>?_)
    ·rw [hg,hg]
     by_cases hjm:j < m
     ·exact hd i j hij hjm
     ·have ej:j=m:=by omega
      subst ej
      by_cases hi:i=j
      ·subst hi;omega
      ·have:=hd i (j - 1) (by omega) (by omega)
       omega
    ·have:i=m + 1 - 1:=by omega
     rw [this]
   split
   ·exact step _ (hp.rev _ _) (rev_same hp (by omega) h3 hb)
   ·exact step _ hp λ_=>rfl
  ·have e:cf f (at' p m) (at' p (m - 1))=false:=decide_eq_false hc
   rw [e];dsimp only;rw [if_neg zG]
   refine ⟨hp.lt (by omega),hp.lt (by omega),?_⟩
   by_cases hc2:g f p (m - 1) < g f p m
   ·have e2:cf f (at' p (m - 1)) (at' p m)=true:=decide_eq_true hc2
    rw [e2];dsimp only;rw [if_pos rfl]
    exact ⟨hp,zK _,by show m<=n;omega,h3,hd,hb⟩
   ·have e2:cf f (at' p (m - 1)) (at' p m)=false:=decide_eq_false hc2
    rw [e2];dsimp only;rw [if_neg zG]
    have eq:g f p m=g f p (m - 1):=by omega
    refine KOK.mono (λr h=>⟨h.1,by omega,h.2.2⟩) _ (desc_ok t p (m + 1) (q + 1) hp (by omega) (by omega) (by omega) (λi j hij hj=>?_) λi hi hi'=>?_)
    ·by_cases hjm:j < m
     ·exact hd i j hij hjm
     ·have ej:j=m:=by omega
      subst ej
      by_cases hi:i=j
      ·subst hi;omega
      ·have:=hd i (j - 1) (by omega) (by omega)
       omega
    ·rw [show m + 1 - 1=m from rfl]
     by_cases hi2:i=m
     ·rw [hi2]
     ·rw [hb i (by omega) (by omega),eq]
theorem tail3_ok {p:Array Nat}{m:Nat} (hp:Pm n p) (h1:1<=m) (hm:m<=n) (hd:Dn f p m):KOK n (cf f) (kas_tail3 m n p) (λr=>Pm n r.2/\r.1<=n/\1<=r.1/\Up f r.2 r.1):=by
 unfold kas_tail3
 have hp':=hp.rev 0 m
 refine KOK.bind _ (KOK.mono (λm' h=>⟨hp',by omega,by omega,h.2.2.1⟩) _ (asc_ok hp' (n - m) m h1 (by omega) λi j hij hj=>?_))
 rw [g_rev (by rw [hp.size];exact hm),g_rev (by rw [hp.size];exact hm),if_pos ⟨by omega,by omega⟩,if_pos ⟨by omega,by omega⟩]
 exact hd _ _ (by omega) (by omega)
theorem descPart_ok {p:Array Nat}{m:Nat} (hp:Pm n p) (h1:1<=m) (hm:m < n) (hd:Dn f p (m + 1)):KOK n (cf f) (kas_descPart m n p) (λr=>Pm n r.2/\r.1<=n/\1<=r.1/\Up f r.2 r.1):=by
 unfold kas_descPart
 refine KOK.bind _ (KOK.mono (λr h=>?_) _ (desc_ok (n - (m + 1)) p (m + 1) 0 hp (by omega) (by omega) (by omega) hd λi hi hi'=>by rw [show i=m + 1 - 1 by omega]))
 obtain ⟨a1,a2,a3,a4,a5,a6⟩:=h
 split
 ·exact tail3_ok (a1.rev _ _) (by omega) a3 λi j hij hj=>by
   rw [rev_same a1 a3 a4 a6,rev_same a1 a3 a4 a6]
   exact a5 i j hij hj
 ·exact tail3_ok a1 (by omega) a3 a5
theorem count_ok {p:Array Nat} (hn:1<=n) (hp:Pm n p):KOK n (cf f) (kas_count n p) (λr=>Pm n r.2/\r.1<=n/\1<=r.1/\Up f r.2 r.1):=by
 unfold kas_count
 refine KOK.bind _ (KOK.mono (λm h=>?_) _ (asc_ok hp (n - 1) 1 (zK _) (by omega) λi j hij hj=>by rw [show i=j by omega];omega))
 obtain ⟨a1,a2,a3,a4⟩:=h
 split
 ·exact ⟨hp,by omega,a1,a3⟩
 ·rename_i hne
  have hlt:m < n:=by
   have:¬ m=n:=by simpa using hne
   omega
  have a4':=a4 (by omega)
  split
  ·rename_i hm1
   refine ⟨by rw [wC];exact hp.lt (by omega),by rw [wC];exact hp.lt (by omega),?_⟩
   rw [wC,wC]
   by_cases hc:g f p 0 < g f p (m - 1)
   ·have e:cf f (at' p 0) (at' p (m - 1))=true:=decide_eq_true hc
    rw [e];dsimp only;rw [if_pos rfl]
    exact ⟨hp,by omega,a1,a3⟩
   ·have e:cf f (at' p 0) (at' p (m - 1))=false:=decide_eq_false hc
    rw [e];dsimp only;rw [if_neg zG]
    have all:∀ k,k < m->g f p k=g f p 0:=λk hk=>by
     have:=a3 0 k (by omega) hk
     have:=a3 k (m - 1) (by omega) (by omega)
     omega
    have gr:∀ k,g f (kas_rev p 0 m) k=g f p k:=λk=>by
     rw [g_rev (by rw [hp.size];omega)]
     split
     ·rw [all _ (by omega),all k (by omega)]
     ·rfl
    refine descPart_ok (hp.rev _ _) a1 hlt λi j hij hj=>?_
    rw [gr,gr]
    by_cases hjm:j < m
    ·rw [all i (by omega),all j hjm];omega
    ·have ej:j=m:=by omega
     subst ej
     by_cases hi:i=j
     ·subst hi;omega
     ·have:=all i (by omega)
      have:=all (j - 1) (by omega)
      omega
  ·refine descPart_ok hp a1 hlt λi j hij hj=>?_
   have em:m=1:=by omega
   subst em
   by_cases hi:i=j
   ·subst hi;omega
   ·have e1:i=0:=by omega
    have e2:j=1:=by omega
    subst e1 e2
    have:g f p 1 < g f p 0:=a4'
    omega
theorem place_ok {p:Array Nat}{k:Nat} (hp:Pm n p) (hk:k < n) (hu:Up f p k):∀ (t l r:Nat),l<=r->r<=k->r<=l + t->(∀ i,i < l->g f p i<=g f p k)->(∀ i,r<=i->i < k->g f p k < g f p i) ->
  KOK n (cf f) (kas_place p k t l r) (λl'=>l'<=k/\(∀ i,i < l'->g f p i<=g f p k)/\∀ i,l'<=i->i < k->g f p k < g f p i)
 | 0,l,r,h1,h2,h3,ha,hb=>⟨by omega,ha,λi hi hi'=>hb i (by omega) hi'⟩
 | t + 1,l,r,h1,h2,h3,ha,hb=>by
  unfold kas_place
  split
  ·exact ⟨by omega,ha,λi hi hi'=>hb i (by omega) hi'⟩
  ·rename_i hlr
   refine ⟨by rw [wC];exact hp.lt hk,by rw [wC];exact hp.lt (by omega),?_⟩
   rw [wC,wC]
   by_cases hc:g f p k < g f p ((l + r) / 2)
   ·have e:cf f (at' p k) (at' p ((l + r) / 2))=true:=decide_eq_true hc
    rw [e];dsimp only;rw [if_pos rfl]
    refine place_ok hp hk hu t l ((l + r) / 2) (by omega) (by omega) (by omega) ha λi hi hi'=>?_
    have:=hu ((l + r) / 2) i (by omega) hi'
    omega
   ·have e:cf f (at' p k) (at' p ((l + r) / 2))=false:=decide_eq_false hc
    rw [e];dsimp only;rw [if_neg zG]
    refine place_ok hp hk hu t ((l + r) / 2 + 1) r (by omega) (by omega) (by omega) (λi hi=>?_) hb
    have:=hu i ((l + r) / 2) (by omega) (by omega)
    omega
theorem bin_ok:∀ (t:Nat) (p:Array Nat) (k:Nat),Pm n p->k + t=n->Up f p k->KOK n (cf f) (kas_bin t p k) (λp'=>Pm n p'/\Up f p' n)
 | 0,p,k,hp,hk,hu=>⟨hp,by rw [<-hk];exact hu⟩
 | t + 1,p,k,hp,hk,hu=>by
  unfold kas_bin
  refine KOK.bind _ (KOK.mono (λl h=>?_) _ (place_ok hp (by omega) hu k 0 k (by omega) (by omega) (by omega) (λi hi=>absurd hi (Nat.not_lt_zero _)) λi hi hi'=>absurd hi' (by omega)))
  obtain ⟨a1,a2,a3⟩:=h
  refine bin_ok t _ (k + 1) (hp.bub _ _) (by omega) λi j hij hj=>?_
  have hs:k < p.size:=by rw [hp.size];omega
  rw [g_bub hs (by omega),g_bub hs (by omega)]
  have el:k - (k - l)=l:=by omega
  rw [el]
  by_cases hil:i=l
  ·rw [if_pos hil]
   by_cases hjl:j=l
   ·rw [if_pos hjl];omega
   ·rw [if_neg hjl,if_pos ⟨by omega,by omega⟩]
    have:=a3 (j - 1) (by omega) (by omega)
    omega
  ·rw [if_neg hil]
   by_cases hi2:l < i/\i<=k
   ·rw [if_pos hi2]
    rw [if_neg (by omega),if_pos ⟨by omega,by omega⟩]
    exact hu _ _ (by omega) (by omega)
   ·rw [if_neg hi2]
    have hi3:i < l:=by omega
    by_cases hjl:j=l
    ·rw [if_pos hjl];exact a2 i hi3
    ·rw [if_neg hjl]
     by_cases hj2:l < j/\j<=k
     ·rw [if_pos hj2];exact hu _ _ (by omega) (by omega)
     ·rw [if_neg hj2];exact hu _ _ hij (by omega)
theorem sort_ok (hn:1<=n):KOK n (cf f) (kas_sort n) (λp=>Pm n p/\Up f p n):=by
 unfold kas_sort
 refine KOK.bind _ (KOK.mono (λr h=>?_) _ (count_ok hn (show Pm n (List.toArray (List.range n)) from Array.Perm.refl _)))
 obtain ⟨a1,a2,a3,a4⟩:=h
 split
 ·have e:max r.1 1=r.1:=by omega
  rw [e]
  exact bin_ok _ _ _ a1 (by omega) a4
 ·have e:r.1=n:=by omega
  exact ⟨a1,by rw [<-e];exact a4⟩
end
end SmSort
namespace SmSort
def lx:List Int->List Int->Bool
 | [],[]=>false
 | [],_::_=>true
 | _::_,[]=>false
 | x::xs,y::ys=>if x=y then lx xs ys else decide (x < y)
theorem lx_irr:∀ r:List Int,lx r r=false
 | []=>rfl
 | x::xs=>by unfold lx;rw [if_pos rfl];exact lx_irr xs
theorem lx_tr:∀ {a b c:List Int},lx a b=true->lx b c=true->lx a c=true
 | [],[],_,h,_=>by cases h
 | [],_::_,[],_,h=>by cases h
 | [],_::_,_::_,_,_=>rfl
 | _::_,[],_,h,_=>by cases h
 | _::_,_::_,[],_,h=>by cases h
 | x::xs,y::ys,z::zs,h,h'=>by
  unfold lx at h h' ⊢
  split at h
  ·split at h'
   ·rename_i e1 e2;rw [if_pos (e1.trans e2)];exact lx_tr h h'
   ·rename_i e1 e2
    simp only [decide_eq_true_eq] at h'
    rw [if_neg (by omega)];simp only [decide_eq_true_eq];omega
  ·simp only [decide_eq_true_eq] at h
   split at h'
   ·rename_i e1 e2
    rw [if_neg (by omega)];simp only [decide_eq_true_eq];omega
   ·simp only [decide_eq_true_eq] at h'
    rw [if_neg (by omega)];simp only [decide_eq_true_eq];omega
theorem lx_tot:∀ {a b:List Int},lx a b=false->lx b a=false->a=b
 | [],[],_,_=>rfl
 | [],_::_,h,_=>by cases h
 | _::_,[],_,h=>by cases h
 | x::xs,y::ys,h,h'=>by
  unfold lx at h h'
  split at h
  ·rename_i e;subst e;rw [if_pos rfl] at h';rw [lx_tot h h']
  ·rename_i e
   rw [if_neg λz=>e z.symm] at h'
   simp only [decide_eq_false_iff_not] at h h'
   omega
def rk (rs:List (List Int)) (r:List Int):Int:=((rs.countP λx=>lx x r:Nat):Int)
theorem countP_lt {α:Type}{p q:α->Bool}{a:α}:∀ {l:List α},(∀ x,p x=true->q x=true)->a∈l->p a=false->q a=true->l.countP p < l.countP q
 | [],_,h,_,_=>by cases h
 | x::l,hpq,h,h1,h2=>by
  have hm:l.countP p<=l.countP q:=List.countP_mono_left λx _=>hpq x
  rcases zV.mp h with rfl | h
  ·rw [List.countP_cons_of_neg (by rw [h1];exact zG),List.countP_cons_of_pos h2];omega
  ·have:=countP_lt hpq h h1 h2
   rw [List.countP_cons,List.countP_cons]
   cases e:p x with
   | true=>rw [hpq x e];simp;omega
   | false=>cases e2:q x <;> simp <;> omega
theorem rk_lt {rs:List (List Int)}{a b:List Int} (ha:a∈rs):decide (rk rs a < rk rs b)=lx a b:=by
 unfold rk
 cases h:lx a b with
 | true=>
  have:=countP_lt (p:=λx=>lx x a) (q:=λx=>lx x b) (λx hx=>lx_tr hx h) ha (lx_irr a) h
  simp only [decide_eq_true_eq];omega
 | false=>
  have hm:rs.countP (λx=>lx x b)<=rs.countP (λx=>lx x a):=List.countP_mono_left λx _ hx=>by
   cases h':lx b a with
   | true=>exact lx_tr hx h'
   | false=>rw [lx_tot h h'];exact hx
  simp only [decide_eq_false_iff_not];omega
end SmSort
namespace L2
open PySem PySem.Spec PyProof.Rows PySem.W SmSort
theorem ObjOk.at {P:Program}{w:World}{H:Hp}{h:Heap}{a:Addr}{o:HO} (x:ObjOk P w H h a o):∃ ob,h.get? a=some ob:=by
 cases o with
 | lst xs=>obtain ⟨_,_,_,_,e⟩:=x;exact ⟨_,e⟩
 | tup xs=>obtain ⟨_,_,_,ob,e,_⟩:=x;exact ⟨_,e⟩
 | dK kvs=>obtain ⟨_,_,_,_,o,_,_,e,_⟩:=x;exact ⟨_,e⟩
 | dT kvs=>obtain ⟨_,_,_,_,o,_,_,e,_⟩:=x;exact ⟨_,e⟩
 | set S n=>obtain ⟨o,_,_,_,e,_⟩:=x;exact ⟨_,e⟩
 | ins C dx fs=>obtain ⟨_,_,_,e,_⟩:=x;exact ⟨_,e⟩
 | own y=>obtain ⟨_,e⟩:=x;exact ⟨_,e⟩
 | xd fs=>obtain ⟨_,⟨_,_,_,e,_⟩,_⟩:=x;exact ⟨_,e⟩
 | rng lo hi=>obtain ⟨_,_,_,e⟩:=x;exact ⟨_,e⟩
 | frz ob u=>obtain ⟨e,_⟩:=x;exact ⟨_,e⟩
 | tbl ps=>exact ⟨_,(show h.get? a=some _ from x)⟩
 | met f y=>exact ⟨_,(show h.get? a=some _ from x)⟩
 | ext φ=>obtain ⟨_,⟨_,e⟩,_⟩:=x;exact ⟨_,e⟩
section
variable {X:Cx}{pins:List (Addr×Obj)}{σ:St}{H:Hp}{s:Shared}
theorem Inv.sortedTo {m:Str->Option Value}{h':Heap}{D:Addr}{its:List Value}{c:Nat}{xs:List V} (I:Inv X pins σ H s) (F0:Fr X.base X.env.locals s.heap m) (F:Fr X.base X.env.locals h' m)
  (N:News X.base X.env.locals h' ((D,listOf its.toArray c)::allNews X.base s.heap X.env.locals)) (lt:∀ q∈allNews X.base s.heap X.env.locals,q.1 < D) (hv:Vals xs its) (hz:xs.length<=sizeLine) :
  Inv X pins σ (upd H D (.lst xs)) { s with heap:=h' }/\H D=none:=by
 obtain ⟨eD,nL,nb⟩:=N (D,listOf its.toArray c) (.head _)
 have oldD:s.heap.get? D=none:=by
  cases q:s.heap.get? D with
  | none=>rfl
  | some o=>exact absurd (lt (D,o) (mem_allNews nL nb q)) (zu _)
 have hD:H D=none:=by
  cases q:H D with
  | none=>rfl
  | some u=>
   obtain ⟨ob,e⟩:=(I.hok D u q).at
   rw [oldD] at e;cases e
 have keep:∀ b o,b≠X.env.locals->s.heap.get? b=some o->h'.get? b=some o:=λb o hb e=>by
  cases q:X.base.get? b with
  | some u=>
   have:=I.bk b u q
   rw [e] at this;cases this
   exact F.keep b _ q
  | none=>exact (N (b,o) (.tail _ (mem_allNews hb q e))).1
 have neD:∀ b o,s.heap.get? b=some o->b≠D:=λb o e z=>by rw [z,oldD] at e;cases e
 have neT:∀ b u,H b=some u->b≠D:=λb u e z=>by rw [z,hD] at e;cases e
 refine ⟨I.step (g':=s.gens) (t':=s.toks) (d':=s.drawn) (ch:=[]) (λ_ z=>nomatch z) (λb o hb _ _ e _=>keep b o hb e) (λb o hb _ _ e _=>⟨o.slots,keep b o hb e⟩) (λb o _ e n=>by rw [xO (neD b o e)];exact n) (λb o _ e=>?_)
  (λb ys e=>by rw [xO (neT b _ e)];exact e) (λb o u e=>by rw [xO (neT b _ e)];exact e) (λb ps e=>⟨#[],by rw [xO (neT b _ e),e,Array.append_empty]⟩) (λm' hm=>?_) (λb u e=>?_) I.bare,hD⟩
 ·by_cases hb:b=X.env.locals
  ·obtain ⟨o',_,_,q,_⟩:=F.ns
   exact ⟨o',by rw [hb];exact q⟩
  ·exact ⟨o,keep b o hb e⟩
 ·obtain ⟨o1,es1,ep1,e1,d1,k1,f1⟩:=hm
  obtain ⟨o2,es2,ep2,e2,d2,k2,f2⟩:=F0.ns
  rw [e1] at e2;cases e2
  rw [d1] at d2;cases d2
  obtain ⟨o3,es3,ep3,e3,d3,k3,f3⟩:=F.ns
  exact ⟨o3,es3,ep3,e3,d3,k3,λname=>(f3 name).trans ((f2 name).symm.trans (f1 name))⟩
 ·by_cases hb:b=D
  ·subst hb;rw [xJ] at e;cases e
   exact ⟨hz,its,c,hv,eD⟩
  ·rw [xO hb] at e
   refine (I.hok b u e).stay (λc v hc q=>keep c v (λz=>?_) q) (λc q=>by rw [xO (neT c _ q)];exact q) λc ys q=>by rw [xO (neT c _ q)];exact q
   rcases hc with rfl | hc
   ·rw [z,I.free] at e;cases e
   ·rw [z,I.free] at hc;cases hc
end
section
variable {prog:Program}{w:World}{A:Around}{E:Value->Shared->Prop}{s:Shared}
theorem sort_short {a:Addr}{its:List Value}{k:Nat}{P:PySem.Fin->Shared->Prop} (hx:s.heap.get? a=some (seqObj "list" its.toArray k)) (few:its.length < 2)
  (done:P (.done (.ret .none)) { s with heap:=sortedHeap s.heap a its its.toArray }):wpAny (model prog w) A (Builtin.«list.sort» ⟨[.ref a],[]⟩) P E s:=by
 have here:a < s.heap.objs.size:=Heap.lt_size hx
 have line:its.length<=sizeLine:=by rw [sizeLine_eq];omega
 rw [list_sort_plain]
 obtain ⟨e1,at1⟩:∃ e1,(s.heap.update a (Obj.mapSeq λ_=>(#[]:Array Value))).get? a=some (seqObj "list" #[] e1):=⟨_,get?_update_seq hx (λ_=>#[])⟩
 refine wpAny_bind (listItems_at hx rfl (wpAny_bind (listUpdate_at hx rfl (wpAny_bind (seqEpoch_at at1 rfl (wpAny_bind (wpAny_newTuple (wpAny_bind (wpAny_newList (wpAny_holding ?_) (zZ _))) line))))
  (by rw [zP];exact line) (zZ _))))
 have at2:(((s.heap.update a (Obj.mapSeq λ_=>(#[]:Array Value))).push (seqObj "tuple" its.toArray 0)).push (seqObj "list" #[] 0)).get? a=some (seqObj "list" #[] e1):=
  Heap.get?_push_of_some _ (Heap.get?_push_of_some _ at1)
 show wpAny (model prog w) A _ P E { s with heap:=((s.heap.update a (Obj.mapSeq λ_=>(#[]:Array Value))).push (seqObj "tuple" its.toArray 0)).push (seqObj "list" #[] 0) }
 have less:its.toArray.size < 2:=by rw [zP];exact few
 have snds:(arrOf (SortSt.mk' general' (its.toArray.zip its.toArray) #[] 7 none)).map (·.2)=its.toArray:=by
  show (its.toArray.zip its.toArray).map (·.2)=its.toArray
  match its,few with
  | [],_=>simp
  | [_],_=>simp
 dsimp only
 rw [if_pos less,if_pos less]
 refine wpAny_bind (wpAny_pure ?_)
 rw [StateT.run_pure]
 refine wpAny_bind (wpAny_pure ?_)
 dsimp only
 refine wpAny_bind (seqEpoch_at at2 rfl (wpAny_bind (listUpdate_at at2 rfl ?_ (zZ _) (by rw [snds,zP];omega))))
 simp only [bne_self_eq_false,Bool.false_eq_true,if_false]
 rw [snds]
 exact wpAny_pure done
theorem sorted_short {l:Addr}{its:List Value}{Q:Value->Shared->Prop} (hl:s.heap.IsList l its.toArray) (few:its.length < 2)
  (done:Q (.ref (s.heap.objs.size + 1)) { s with heap:=sortedAll s.heap its its.toArray }):wpAny (model prog w) A (call (.builtin "sorted") [.ref l]) Q E s:=by
 have line:its.length<=sizeLine:=by rw [sizeLine_eq];omega
 refine Calls.call_function_entry kind_sorted plain_sorted entry_sorted (args_sorted1 _) ?_
 unfold Builtin.«sorted»
 refine wpAny_bind (m:=checkCount "sorted" 1 1 _) (wpAny_pure (wpAny_bind (collect_list hl (wpAny_bind (wpAny_newList ?_ line)) line)))
 have sz:((s.heap.push (seqObj "list" #[] 0)).update s.heap.objs.size (Obj.mapSeq (·++its.toArray))).objs.size=s.heap.objs.size + 1:=by rw [Heap.size_update,size_push']
 have atL:(((s.heap.push (seqObj "list" #[] 0)).update s.heap.objs.size (Obj.mapSeq (·++its.toArray))).push (seqObj "list" its.toArray 0)).get? (s.heap.objs.size + 1)=some (seqObj "list" its.toArray 0):=by
  rw [<-sz];exact Heap.get?_push_size _ rfl
 show wpAny _ _ _ _ _ { s with heap:=((s.heap.push (seqObj "list" #[] 0)).update s.heap.objs.size (Obj.mapSeq (·++its.toArray))).push (seqObj "list" its.toArray 0) }
 rw [sz]
 exact wpAny_bind (wpAny_holding (wpAny_call_entry slot_list_sort ⟨_,atL,rfl⟩ entry_list_sort (sort_short atL few ⟨_,rfl,wpAny_pure ⟨_,rfl,done⟩⟩) (args_list_sort _)))
end
section
variable {X:Cx}
theorem vals_refs:∀ {ps:List (Addr×List Int)}{us:List Value},Vals (ps.map λa=>V.ref a.1) us->us=ps.map λa=>Value.ref a.1
 | [],us,r=>by cases r;rfl
 | a::ps,us,r=>by
  cases r with
  | cons x y=>rw [vals_refs y];cases x;rfl
def RowAt (h:Heap) (a:Addr) (r:List Int):Prop:=∃ o items n,h.get? a=some o/\o.cls=.type "tuple" /\ o.data=.seq items n/\Vals (r.map V.int) items.toList
theorem vals_lex {prog:Program}{w:World}{A:Around}{s:Shared}{b fin:Bool}{Q:Bool->Shared->Prop}:∀ {r r':List Int}{us us':List Value}{i:Nat},Vals (r.map V.int) us->Vals (r'.map V.int) us'->fin=decide (us.length < us'.length)->Q (lx r r') s ->
  KatLex prog w A b fin Q (us.zip us') i s
 | [],[],us,us',i,ru,ru',hf,q=>by cases ru;cases ru';exact kat_nil (by rw [hf];exact q)
 | [],_::_,us,us',i,ru,ru',hf,q=>by
  cases ru;cases ru' with
  | cons _ _=>exact kat_nil (by rw [hf];simpa [lx] using q)
 | _::_,[],us,us',i,ru,ru',hf,q=>by
  cases ru';cases ru with
  | cons _ _=>exact kat_nil (by rw [hf];simpa [lx] using q)
 | x::r,y::r',us,us',i,ru,ru',hf,q=>by
  cases ru with
  | cons rx ru=>
  cases ru' with
  | cons ry ru'=>
  obtain ⟨t,rfl⟩:=rx
  obtain ⟨t',rfl⟩:=ry
  refine kat_cons (wpAny_eqBool_int ?_)
  unfold lx at q
  by_cases e:x=y
  ·subst e
   rw [if_pos rfl] at q
   rw [show (x == x)=true from by simp]
   exact kat_yes (vals_lex ru ru' (by rw [hf];simp) q)
  ·rw [if_neg e] at q
   rw [show (x == y)=false from by simpa using e]
   refine kat_no ?_
   cases (b && i == 0) with
   | true=>exact oneLt_int q
   | false=>exact kat_one _ _ (lt_int q)
theorem kat_tups {h:Heap}:∀ {ps:List (Addr×List Int)},(∀ a∈ps,RowAt h a.1 a.2/\a.2≠[])->∃ fs,KatTups h (ps.map λa=>Value.ref a.1) fs/\fs.length=ps.length/\∀ v∈fs,∃ i t,v=Value.int i t
 | [],_=>⟨[],KatTups.nil,rfl,λ_ z=>nomatch z⟩
 | (a,r)::ps,hp=>by
  obtain ⟨fs,k,l,f⟩:=kat_tups λa ha=>hp a (.tail _ ha)
  obtain ⟨⟨o,items,n,ho,hc,hd,hv⟩,hn⟩:=hp (a,r) (.head _)
  match r,hn,hv with
  | x::r,_,hv=>
   obtain ⟨u,hu,t,e⟩:=Vals.get (i:=0) hv rfl
   refine ⟨u::fs,KatTups.cons ho hc hd (by rw [<-hu];simp) k,by simp [l],λv hv=>?_⟩
   rcases zV.mp hv with rfl | hv
   ·exact ⟨x,t,e⟩
   ·exact f v hv
theorem range_map {α:Type} (d:α) (l:List α):(List.range l.length).map (λi=>l.getD i d)=l:=by
 apply List.ext_getElem
 ·simp
 ·intro i h1 h2
  simp [List.getD,h2]
theorem vals_of_refs:∀ (ps:List (Addr×List Int)),Vals (ps.map λa=>V.ref a.1) (ps.map λa=>Value.ref a.1)
 | []=>.nil
 | _::ps=>.cons rfl (vals_of_refs ps)
theorem call_sortT:CallR X (.builtin "sorted") (λxs H Q=>∃ p,∃ ps:List (Addr×List Int),xs=[.ref p]/\SqL X.K H p (ps.map λa=>V.ref a.1)/\ps.length < 64/\(∀ a∈ps,H a.1=some (.tup (a.2.map V.int))/\a.2≠[]) /\
  ∀ l qs,H l=none->List.Perm qs ps->qs.Pairwise (λa b=>lx b.2 a.2=false)->Q (.ref l) (upd H l (.lst (qs.map λa=>V.ref a.1)))):=by
 intro pins s σ H xs us Q I r h
 obtain ⟨p,ps,rfl,hq,h64,hrow,q⟩:=h
 obtain ⟨u,rfl,rx⟩:=vals1 r
 cases rx
 obtain ⟨its,r',pl,hz⟩:=I.list hq
 have ei:=vals_refs r'
 subst ei
 have hlen:(ps.map λa=>Value.ref a.1).length=ps.length:=by simp
 by_cases h2:ps.length < 2
 ·refine sorted_short pl.isList (by omega) ?_
  have sz:((s.heap.push (seqObj "list" #[] 0)).update s.heap.objs.size (Obj.mapSeq (·++(ps.map λa=>Value.ref a.1).toArray))).objs.size=s.heap.objs.size + 1:=by rw [Heap.size_update,size_push']
  have kp:∀ b o,s.heap.get? b=some o->(sortedAll s.heap (ps.map λa=>Value.ref a.1) (ps.map λa=>Value.ref a.1).toArray).get? b=some o:=λb o e=>by
   have lb:b < s.heap.objs.size:=Heap.lt_size e
   unfold sortedAll sortedHeap
   rw [Heap.get?_update_ne _ _ _ _ (zS (yg lb))]
   refine Heap.get?_push_of_some _ (Heap.get?_push_of_some _ ?_)
   rw [Heap.get?_update_ne _ _ _ _ (zS (yg lb))]
   refine Heap.get?_push_of_some _ ?_
   rw [Heap.get?_update_ne _ _ _ _ (zS lb)]
   exact Heap.get?_push_of_some _ e
  obtain ⟨c,ec⟩:∃ c,(sortedAll s.heap (ps.map λa=>Value.ref a.1) (ps.map λa=>Value.ref a.1).toArray).get? (s.heap.objs.size + 1)=some (seqObj "list" (ps.map λa=>Value.ref a.1).toArray c):=by
   have e0:=Heap.get?_push_size ((s.heap.push (seqObj "list" #[] 0)).update s.heap.objs.size (Obj.mapSeq (·++(ps.map λa=>Value.ref a.1).toArray))) (o:=seqObj "list" (ps.map λa=>Value.ref a.1).toArray 0) rfl
   rw [sz] at e0
   unfold sortedAll sortedHeap
   have e1:=get?_update_seq e0 (λ_=>(#[]:Array Value))
   exact ⟨_,get?_update_seq (Heap.get?_push_of_some _ (Heap.get?_push_of_some _ e1)) _⟩
  refine ⟨.ref (s.heap.objs.size + 1),_,I.laid (t':=s.toks) kp (yT _) (show ObjOk X.prog X.w _ _ _ (.lst (ps.map λa=>V.ref a.1)) from ⟨hz,_,c,r',ec⟩),rfl,q _ ps (I.hok.fresh (yT _)) (List.Perm.refl _) ?_⟩
  match ps,h2 with
  | [],_=>exact .nil
  | [_],_=>exact zw _ _
 ·obtain ⟨m,F⟩:=I.fr
  refine kat_sorted F (news_all (g:=X.base) (h:=s.heap)) pl.isList (by omega) (by omega) λD e1 h' F' N' lt=>?_
  have keep:∀ b o,b≠X.env.locals->s.heap.get? b=some o->h'.get? b=some o:=λb o hb e=>by
   cases q:X.base.get? b with
   | some u=>
    have:=I.bk b u q
    rw [e] at this;cases this
    exact F'.keep b _ q
   | none=>exact (N' (b,o) (.tail _ (mem_allNews hb q e))).1
  have rowAt:∀ a∈ps,RowAt h' a.1 a.2/\a.2≠[]:=λa ha=>by
   obtain ⟨ht,hn⟩:=hrow a ha
   obtain ⟨_,its,rv,o,e,c,n,d⟩:=I.hok a.1 _ ht
   refine ⟨⟨o,_,n,keep a.1 o (λz=>?_) e,c,d,rv⟩,hn⟩
   rw [z,I.free] at ht;cases ht
  obtain ⟨fs,kt,lf,hf⟩:=kat_tups rowAt
  refine kat_kind (T:=.type "int") kt (by omega) (λv hv=>?_) (by decide) ?_
  ·obtain ⟨i,t,rfl⟩:=hf v hv
   exact Looks.now
  have n1:1<=(ps.map λa=>Value.ref a.1).length:=by omega
  refine KOK.wp (c:=cf λi=>rk (ps.map (·.2)) ((ps.map (·.2)).getD i [])) (λi j C hi hj hC=>?_) (λpp hp=>?_) _ (sort_ok (f:=λi=>rk (ps.map (·.2)) ((ps.map (·.2)).getD i [])) n1)
  ·have hi':i < ps.length:=by omega
   have hj':j < ps.length:=by omega
   obtain ⟨⟨o,items,n,ho,hc,hd,hv⟩,hn⟩:=rowAt ps[i] (zi hi')
   obtain ⟨⟨o',items',n',ho',hc',hd',hv'⟩,hn'⟩:=rowAt ps[j] (zi hj')
   unfold kas_ask
   have ei:(ps.map λa=>Value.ref a.1).getD i Value.none=.ref ps[i].1:=by simp [hi']
   have ej:(ps.map λa=>Value.ref a.1).getD j Value.none=.ref ps[j].1:=by simp [hj']
   rw [ei,ej]
   refine kat_lt ho hd ho' hd' (vals_lex hv hv' (by simp) ?_)
   have e:cf (λi=>rk (ps.map (·.2)) ((ps.map (·.2)).getD i [])) i j=lx ps[i].2 ps[j].2:=by
    unfold cf
    have e1:(ps.map (·.2)).getD i []=ps[i].2:=by simp [hi']
    have e2:(ps.map (·.2)).getD j []=ps[j].2:=by simp [hj']
    simp only [e1,e2]
    exact rk_lt (zO.mpr ⟨ps[i],zi hi',rfl⟩)
   rw [e] at hC
   exact hC
  ·obtain ⟨pm,up⟩:=hp
   refine KasFin.intro F' N' (UpdF.head λx hx=>zS (lt x hx)) λh2' c F2 N2=>?_
   have pl:pp.toList.Perm (List.range ps.length):=by
    have:=pm.toList
    rw [hlen] at this
    simpa using this
   have eo:(pp.toList.map λi=>(ps.map λa=>Value.ref a.1).getD i Value.none)=(pp.toList.map λi=>ps.getD i (0,[])).map λa=>Value.ref a.1:=by
    rw [zX]
    refine yL λi hi=>?_
    have hi':i < ps.length:=zx.mp (pl.mem_iff.mp hi)
    simp [hi']
   have perm:(pp.toList.map λi=>ps.getD i (0,[])).Perm ps:=by
    have:=pl.map λi=>ps.getD i (0,[])
    rwa [range_map] at this
   rw [eo] at N2
   have hzz:((pp.toList.map λi=>ps.getD i (0,[])).map λa=>V.ref a.1).length<=sizeLine:=by
    rw [zA,perm.length_eq,sizeLine_eq];omega
   obtain ⟨I2,hD⟩:=I.sortedTo F F2 N2 lt (vals_of_refs _) hzz
   refine ⟨.ref D,_,I2,rfl,q D _ hD perm ?_⟩
   rw [yA]
   intro i j hi hj hij
   simp only [zA,Array.length_toList] at hi hj
   simp only [z6,Array.getElem_toList]
   have hn:pp.size=ps.length:=by rw [pm.size];exact hlen
   have key:=up i j (yz hij) (by omega)
   have a1:pp[i] < ps.length:=zx.mp (pl.mem_iff.mp (by simp))
   have a2:pp[j] < ps.length:=zx.mp (pl.mem_iff.mp (by simp))
   unfold g at'  at key
   simp only [hi,hj,getElem?_pos,Option.getD_some] at key
   have e1:(ps.map (·.2)).getD pp[i] []=ps[pp[i]].2:=by simp [a1]
   have e2:(ps.map (·.2)).getD pp[j] []=ps[pp[j]].2:=by simp [a2]
   rw [e1,e2] at key
   have e3:ps.getD pp[i] (0,[])=ps[pp[i]]:=by simp [a1]
   have e4:ps.getD pp[j] (0,[])=ps[pp[j]]:=by simp [a2]
   rw [e3,e4]
   have:=rk_lt (rs:=ps.map (·.2)) (a:=ps[pp[j]].2) (b:=ps[pp[i]].2) (zO.mpr ⟨_,zi a2,rfl⟩)
   rw [<-this]
   simp only [decide_eq_false_iff_not]
   omega
end
end L2
namespace L2
open PySem PySem.Spec PyProof.Rows
def notStar:Expr->Bool
 | .Starred _ _=>false
 | _=>true
theorem star_cons {e:Expr}{es:List Expr}{env:Env} (h:notStar e=true):starEach (e::es) env=(false,eval e env)::starEach es env:=by
 cases e <;> first | rfl | cases h
@[irreducible] def PA2 (X:Cx) (es:List Expr) (t:TA):Prop:=PA X es t
theorem xG {X:Cx}{es:List Expr}{t:TA} (h:PA2 X es t):PA X es t:=by unfold PA2 at h;exact h
theorem pa_in {X:Cx}{es:List Expr}{t:TA} (h:PA X es t):PA2 X es t:=by unfold PA2;exact h
theorem xN {X:Cx}:PA2 X [] tNil:=pa_in pa_nil
theorem xH {X:Cx}{e:Expr}{es:List Expr}{te:TE}{t:TA} (ha:PE X e te) (hr:PA2 X es t) (hn:notStar e=true):PA2 X (e::es) (tCons te t):=pa_in (pa_cons ha (xG hr) (star_cons hn))
@[irreducible] def PSs2 (X:Cx) (es:List Stmt) (t:TS):Prop:=PSs X es t
theorem xL {X:Cx}{es:List Stmt}{t:TS} (h:PSs2 X es t):PSs X es t:=by unfold PSs2 at h;exact h
theorem bl_in {X:Cx}{es:List Stmt}{t:TS} (h:PSs X es t):PSs2 X es t:=by unfold PSs2;exact h
theorem xg {X:Cx}{a:Stmt}{t:TS} (h:PS X a t):PSs2 X [a] t:=bl_in (pss_one h)
theorem xZ {X:Cx}{a b:Stmt}{rest:List Stmt}{t u:TS} (h:PS X a t) (hr:PSs2 X (b::rest) u):PSs2 X (a::b::rest) (tSeq t u):=bl_in (pss_cons h (xL hr))
end L2
namespace L2
open PySem PySem.Spec PyProof.Rows
section
variable {K:PySem.W.Frag}{a:Addr}{xs:List V}{n:Nat}{caps:List Nat}{g:TG}{tc:TT}{te:TE}{σ:St}{H:Hp}{Qf:Addr->Hp->List V->Prop}
theorem comp_of {J:It} (Pv:Nat->St->List V->Hp->Prop) (len:Nat) (h0:Pv 0 (tau0 n caps σ) [] H) (hn:len<=1000) (hl:∀ i τ acc H,Pv i τ acc H->acc.length<=i)
  (hgo:∀ i τ acc H,i < len->Pv i τ acc H->J.go i H) (hstop:∀ τ acc H,Pv len τ acc H->J.stop len H)
  (hs:∀ i τ acc H (C:St->List V->Hp->Prop),i < len->Pv i τ acc H->(∀ τ acc H,Pv (i + 1) τ acc H->C τ acc H)->∀ x H',J.yld i H x H'->g x τ H' fun τ2 H2=>tc τ2 H2 λb H3=>if b=true then te τ2 H3 λy H4=>C τ2 (acc++[y]) H4 else C τ2 acc H3)
  (hd:∀ τ acc H,Pv len τ acc H->∀ p,H p=none->Qf p H acc) :
  ∃ W:Nat->Nat->St->List V->Hp->Prop,(∃ m,W 0 m (tau0 n caps σ) [] H)/\∀ i m τ acc H,W i m τ acc H ->
   (J.stop i H/\acc.length<=sizeLine/\∀ p,H p=none->Qf p H acc) \/
   (J.go i H/\acc.length < sizeLine/\∀ x H',J.yld i H x H'->g x τ H' fun τ2 H2=>tc τ2 H2 λb H3=>if b=true then te τ2 H3 λy H4=>∃ m',m' < m/\W (i + 1) m' τ2 (acc++[y]) H4 else ∃ m',m' < m/\W (i + 1) m' τ2 acc H3):=by
 have line:1001<=sizeLine:=by rw [sizeLine_eq];decide
 refine ⟨λi m τ acc H=>m=len - i/\i<=len/\Pv i τ acc H,⟨len,by simp,zZ _,h0⟩,?_⟩
 rintro i m τ acc H ⟨rfl,hi,p⟩
 have q:=hl i τ acc H p
 by_cases hlt:i < len
 ·exact .inr ⟨hgo i τ acc H hlt p,by omega,λx H' y=>hs i τ acc H (fun τ acc H=>∃ m',m' < len - i/\m'=len - (i + 1)/\i + 1<=len/\Pv (i + 1) τ acc H) hlt p (fun τ acc H p'=>⟨len - (i + 1),by omega,rfl,hlt,p'⟩) x H' y⟩
 ·have e:i=len:=by omega
  subst e
  exact .inl ⟨hstop τ acc H p,by omega,hd τ acc H p⟩
theorem comp_tup (Pv:Nat->St->List V->Hp->Prop) (h0:Pv 0 (tau0 n caps σ) [] H) (hn:xs.length<=1000) (hl:∀ i τ acc H,Pv i τ acc H->acc.length<=i/\SqT K H a xs)
  (hs:∀ i x τ acc H (C:St->List V->Hp->Prop),xs[i]?=some x->Pv i τ acc H->(∀ τ acc H,Pv (i + 1) τ acc H->C τ acc H)->g x τ H fun τ2 H2=>tc τ2 H2 λb H3=>if b=true then te τ2 H3 λy H4=>C τ2 (acc++[y]) H4 else C τ2 acc H3)
  (hd:∀ τ acc H,Pv xs.length τ acc H->∀ p,H p=none->Qf p H acc) :
  ∃ W:Nat->Nat->St->List V->Hp->Prop,(∃ m,W 0 m (tau0 n caps σ) [] H)/\∀ i m τ acc H,W i m τ acc H ->
   ((Itt K a).stop i H/\acc.length<=sizeLine/\∀ p,H p=none->Qf p H acc) \/
   ((Itt K a).go i H/\acc.length < sizeLine/\∀ x H',(Itt K a).yld i H x H'->g x τ H' fun τ2 H2=>tc τ2 H2 λb H3=>if b=true then te τ2 H3 λy H4=>∃ m',m' < m/\W (i + 1) m' τ2 (acc++[y]) H4 else ∃ m',m' < m/\W (i + 1) m' τ2 acc H3):=
 comp_of (J:=Itt K a) Pv xs.length h0 hn (λi τ acc H p=>(hl i τ acc H p).1) (λi τ acc H hi p=>⟨xs,xs[i],(hl i τ acc H p).2,by simp [hi]⟩) (fun τ acc H p=>⟨xs,(hl _ τ acc H p).2,zK _⟩)
  (λi τ acc H C hi p c x H' y=>by obtain ⟨e,y⟩:=y;subst e;exact hs i x τ acc _ C (y xs (hl i τ acc _ p).2) p c) hd
theorem comp_list (Pv:Nat->St->List V->Hp->Prop) (h0:Pv 0 (tau0 n caps σ) [] H) (hn:xs.length<=1000) (hl:∀ i τ acc H,Pv i τ acc H->acc.length<=i/\SqL K H a xs)
  (hs:∀ i x τ acc H (C:St->List V->Hp->Prop),xs[i]?=some x->Pv i τ acc H->(∀ τ acc H,Pv (i + 1) τ acc H->C τ acc H)->g x τ H fun τ2 H2=>tc τ2 H2 λb H3=>if b=true then te τ2 H3 λy H4=>C τ2 (acc++[y]) H4 else C τ2 acc H3)
  (hd:∀ τ acc H,Pv xs.length τ acc H->∀ p,H p=none->Qf p H acc) :
  ∃ W:Nat->Nat->St->List V->Hp->Prop,(∃ m,W 0 m (tau0 n caps σ) [] H)/\∀ i m τ acc H,W i m τ acc H ->
   ((Itl K a).stop i H/\acc.length<=sizeLine/\∀ p,H p=none->Qf p H acc) \/
   ((Itl K a).go i H/\acc.length < sizeLine/\∀ x H',(Itl K a).yld i H x H'->g x τ H' fun τ2 H2=>tc τ2 H2 λb H3=>if b=true then te τ2 H3 λy H4=>∃ m',m' < m/\W (i + 1) m' τ2 (acc++[y]) H4 else ∃ m',m' < m/\W (i + 1) m' τ2 acc H3):=
 comp_of (J:=Itl K a) Pv xs.length h0 hn (λi τ acc H p=>(hl i τ acc H p).1) (λi τ acc H hi p=>⟨xs,xs[i],(hl i τ acc H p).2,by simp [hi]⟩) (fun τ acc H p=>⟨xs,(hl _ τ acc H p).2,zK _⟩)
  (λi τ acc H C hi p c x H' y=>by obtain ⟨e,y⟩:=y;subst e;exact hs i x τ acc _ C (y xs (hl i τ acc _ p).2) p c) hd
theorem for_enumL {tb:TS}{D:Ends} (Pv:Nat->St->Hp->Prop) (h0:Pv 0 σ H) (hl:∀ i σ H,i<=xs.length->Pv i σ H->SqL K H a xs)
  (hs:∀ i x q σ H,xs[i]?=some x->H q=none->Pv i σ H->g (.ref q) σ (upd H q (.tup [.int i,x])) fun σ2 H2=>tb { D with nx:=Pv (i + 1),ct:=Pv (i + 1),bk:=D.nx } σ2 H2) (hd:∀ σ H,Pv xs.length σ H->D.nx σ H) :
  ∃ W:Nat->Nat->St->Hp->Prop,(∃ m,W 0 m σ H)/\∀ i m σ H,W i m σ H ->
   ((IteL K a).stop i H/\D.nx σ H)\/((IteL K a).go i H/\∃ N:St->Hp->Prop,(∀ σ' H',N σ' H'->∃ m',m' < m/\W (i + 1) m' σ' H')/\∀ x H',(IteL K a).yld i H x H'->g x σ H' fun σ2 H2=>tb { D with nx:=N,ct:=N,bk:=D.nx } σ2 H2):=by
 refine ⟨λi m σ H=>m=xs.length - i/\i<=xs.length/\Pv i σ H,⟨xs.length,by simp,zZ _,h0⟩,?_⟩
 rintro i m σ H ⟨rfl,hi,p⟩
 have q:=hl i σ H hi p
 by_cases hlt:i < xs.length
 ·refine .inr ⟨⟨xs,xs[i],q,by simp [hlt]⟩,Pv (i + 1),fun σ' H' p'=>⟨xs.length - (i + 1),by omega,rfl,hlt,p'⟩,λx H' y=>?_⟩
  obtain ⟨q',x',hq,e1,e2,y⟩:=y
  subst e1;subst e2
  exact hs i x' q' σ _ (y xs q) hq p
 ·have e:i=xs.length:=by omega
  subst e
  exact .inl ⟨⟨xs,q,zK _⟩,hd σ H p⟩
end
end L2
namespace Sm
open PySem L2 SmSort
def But (p:Addr) (H H':Hp):Prop:=∀ b u,b≠p->H b=some u->H' b=some u
theorem But.refl (p:Addr) (H:Hp):But p H H:=λ_ _ _ h=>h
theorem But.trans {p:Addr} {H H1 H2:Hp} (a:But p H H1) (b:But p H1 H2):But p H H2:=λc u n h=>b c u n (a c u n h)
theorem But.set {p:Addr}{H:Hp}{o:HO}:But p H (upd H p o):=λb u n h=>by rw [xO n];exact h
theorem But.new {p l:Addr}{H:Hp}{o:HO} (h:H l=none):But p H (upd H l o):=λb u n e=>by rw [xO (xK e h)];exact e
def Purse (H:Hp) (p:Addr):Prop:=∃ a b c:Int,H p=some (.lst [.int a,.int b,.int c])
def Go (p:Addr) (H H':Hp):Prop:=But p H H'/\Purse H' p
theorem Go.trans {p:Addr} {H H1 H2:Hp} (a:Go p H H1) (b:Go p H1 H2):Go p H H2:=⟨a.1.trans b.1,b.2⟩
theorem Go.refl {p:Addr}{H:Hp} (a:Purse H p):Go p H H:=⟨But.refl p H,a⟩
theorem Purse.new {p l:Addr}{H:Hp}{o:HO} (a:Purse H p) (h:H l=none):Purse (upd H l o) p:=by
 obtain ⟨x,y,z,e⟩:=a
 exact ⟨x,y,z,by rw [xO (xK e h)];exact e⟩
theorem Purse.ne {p l:Addr}{H:Hp} (a:Purse H p) (h:H l=none):l≠p:=by
 obtain ⟨x,y,z,e⟩:=a
 exact (xK e h).symm
theorem Go.new {p l:Addr} {H H1:Hp}{o:HO} (a:Go p H H1) (h:H1 l=none):Go p H (upd H1 l o):=⟨a.1.trans (But.new h),a.2.new h⟩
theorem Purse.tup {p t:Addr}{H:Hp}{xs:List V} (a:Purse H p) (h:H t=some (.tup xs)):t≠p:=by
 obtain ⟨x,y,z,e⟩:=a
 exact wP h e (by intro z;cases z)
def Tups (H H':Hp):Prop:=∀ b xs,H b=some (.tup xs)->H' b=some (.tup xs)
theorem Go.tups {p:Addr}{H H':Hp} (a:Go p H H') (h:Purse H p):Tups H H':=λb xs e=>a.1 b _ (h.tup e) e
theorem Tups.new {l:Addr}{H:Hp}{o:HO} (h:H l=none):Tups H (upd H l o):=λb u e=>by rw [xO (xK e h)];exact e
theorem Tups.set {l:Addr}{H:Hp}{xs:List V}{o:HO} (h:H l=some (.lst xs)):Tups H (upd H l o):=λb u e=>by rw [xO (wP e h (by intro z;cases z))];exact e
theorem Tups.same {H H':Hp} (h:Same H H'):Tups H H':=λb u e=>h b _ e
structure M4 where
 lo:Int
 hi:Int
 t:Int
 m:Int
def M4.vs (r:M4):List V:=[.int r.lo,.int r.hi,.int r.t,.int r.m]
def apart (a b:M4):Prop:=a.lo≠b.lo/\a.lo≠b.hi/\a.hi≠b.lo/\a.hi≠b.hi
structure Good (w:Int) (ms:List M4):Prop where
 few:ms.length<=60
 each:∀ r∈ms,0<=r.lo/\r.lo < r.hi/\r.hi < w/\1<=r.t/\r.t<=1000000000/\1<=r.m/\r.m<=99
 order:ms.Pairwise λa b=>a.t < b.t\/(a.t=b.t/\a.lo < b.lo/\apart a b)
def RowsAt (H:Hp) (ps:List (Addr×M4)):Prop:=∀ a∈ps,H a.1=some (.tup a.2.vs)
structure BookAt (H:Hp) (b:Addr) (rooms:List Int) (tr tm:Addr) (ps:List (Addr×M4)):Prop where
 book:H b=some (.tup [.ref tr,.ref tm])
 rooms:H tr=some (.tup (rooms.map V.int))
 meets:H tm=some (.tup (ps.map λa=>V.ref a.1))
 rows:RowsAt H ps
theorem RowsAt.tups {H H':Hp}{ps:List (Addr×M4)} (a:RowsAt H ps) (t:Tups H H'):RowsAt H' ps:=λx hx=>t _ _ (a x hx)
theorem BookAt.tups {H H':Hp}{b tr tm:Addr}{rooms:List Int}{ps:List (Addr×M4)} (a:BookAt H b rooms tr tm ps) (t:Tups H H'):BookAt H' b rooms tr tm ps:=
 ⟨t _ _ a.book,t _ _ a.rooms,t _ _ a.meets,a.rows.tups t⟩
def spLaw (K:PySem.W.Frag):Sp:=λvs H Q _=>∃ (a:Addr) (ns:List Int),vs=[.ref a]/\SqL K H a (ns.map V.int)/\ns.length<=63/\∀ H',Q (.bl true) H'
def spPurse (K:PySem.W.Frag):Sp:=λvs H Q _=>∃ (a:Addr) (ns:List Int) (k:Nat),vs=[.ref a,.int k]/\SqL K H a (ns.map V.int)/\k < 1000/\∀ p H',H p=none->Purse H' p->Same H H'->Q (.ref p) H'
def spTake:Sp:=λvs H Q _=>∃ p n,vs=[.ref p,.int n]/\0 < n/\n < 2 ^ 200/\Purse H p/\∀ d H',0<=d->d < n->Go p H H'->Q (.int d) H'
def spFar:Sp:=λvs H Q _=>∃ p,vs=[.ref p]/\Purse H p/\∀ d H',0<=d->d<=1000000000->Go p H H'->Q (.int d) H'
def spRooms:Sp:=λvs H Q _=>∃ p,∃ n:Nat,vs=[.ref p,.int n]/\n<=1000/\Purse H p/\∀ (t:Addr) (rooms:List Int) (H':Hp),Go p H H'->H' t=some (.tup (rooms.map V.int))->rooms.length=n->(∀ r∈rooms,(0:Int)<=r/\r<=99)->Q (.ref t) H'
def spStep:Sp:=λvs H Q _=>∃ p,vs=[.ref p]/\Purse H p/\∀ d H',0<=d->d<=16000000->Go p H H'->Q (.int d) H'
def spMeetings:Sp:=λvs H Q _=>∃ p,∃ w:Int,∃ n:Nat,vs=[.ref p,.int w,.int n]/\n<=60/\w < 1000/\(n=0\/2<=w)/\Purse H p /\
 ∀ (t:Addr) (ps:List (Addr×M4)) (H':Hp),Go p H H'->H' t=some (.tup (ps.map λa=>V.ref a.1))->RowsAt H' ps->Good w (ps.map (·.2))->ps.length=n->Q (.ref t) H'
def spBook:Sp:=λvs H Q _=>∃ p,∃ a:Int,∃ n:Nat,vs=[.ref p,.int a,.int n]/\1<=a/\a<=100/\n<=60/\Purse H p /\
 ∀ (b:Addr) (rooms:List Int) (tr tm:Addr) (ps:List (Addr×M4)) (H':Hp),Go p H H'->BookAt H' b rooms tr tm ps->1<=rooms.length->(rooms.length:Int)<=a->(∀ r∈rooms,(0:Int)<=r/\r<=99)->Good rooms.length (ps.map (·.2))->ps.length<=n->Q (.ref b) H'
theorem iteD {c A B:Prop} [Decidable c] (h1:c->A) (h2:¬ c->B):if decide c=true then A else B:=by
 by_cases h:c
 ·rw [if_pos (decide_eq_true h)];exact h1 h
 ·rw [if_neg (by simpa using h)];exact h2 h
theorem iteB0 {c:Bool}{A B:Prop} (hc:c=false) (h:B):if c=true then A else B:=by
 rw [if_neg (by rw [hc];exact zG)];exact h
theorem iteB1 {c:Bool}{A B:Prop} (hc:c=true) (h:A):if c=true then A else B:=by
 rw [if_pos hc];exact h
theorem iteB {c:Bool}{A B:Prop} (h1:c=true->A) (h2:c=false->B):if c=true then A else B:=by
 cases c with
 | true=>exact h1 rfl
 | false=>exact h2 rfl
theorem xM {H:Hp}{p:Addr}{o:HO} (h:H p=none):Same H (upd H p o):=λb u e=>by
 rw [xO (xK e h)];exact e
def M4.row (r:M4):List Int:=[r.t,r.lo,r.hi,r.m]
structure FOk (w when':Int) (bs:List Int) (fs:List (Addr×M4)):Prop where
 each:∀ a∈fs,0<=a.2.lo/\a.2.lo < a.2.hi/\a.2.hi < w/\1<=a.2.t/\a.2.t<=when'/\1<=a.2.m/\a.2.m<=99
 pw:fs.Pairwise λa b=>a.2.t=b.2.t->apart a.2 b.2
 bz:∀ a∈fs,a.2.t=when'->a.2.lo∈bs/\a.2.hi∈bs
theorem FOk.step {w wh gap one other m:Int}{bs bs':List Int}{fs:List (Addr×M4)}{a:Addr} (F:FOk w wh bs fs) (h1:1<=wh) (g0:0<=gap) (o0:0<=one) (o1:one < w) (p0:0<=other) (p1:other < w) (ne:one≠other)
  (m0:1<=m) (m1:m<=99) (hg:gap=0->one ∉ bs/\other ∉ bs) (hb:∀ x∈bs,gap=0->x∈bs') (hb1:one∈bs') (hb2:other∈bs') :
  FOk w (wh + gap) bs' (fs++[(a,⟨if other < one then other else one,if other > one then other else one,wh + gap,m⟩)]):=by
 refine ⟨λb hb=>?_,?_,λb hm e=>?_⟩
 ·rcases ze.mp hb with h | h
  ·obtain ⟨a1,a2,a3,a4,a5,a6,a7⟩:=F.each b h
   exact ⟨a1,a2,a3,a4,by omega,a6,a7⟩
  ·cases zN.mp h
   by_cases c:other < one
   ·rw [if_pos c,if_neg (by omega)];exact ⟨p0,c,o1,by show 1<=wh + gap;omega,zo _,m0,m1⟩
   ·rw [if_neg c,if_pos (by omega)];exact ⟨o0,by show one < other;omega,p1,by show 1<=wh + gap;omega,zo _,m0,m1⟩
 ·rw [yh]
  refine ⟨F.pw,zw _ _,λb hb c hc e=>?_⟩
  cases zN.mp hc
  have e':b.2.t=wh + gap:=e
  obtain ⟨a1,a2,a3,a4,a5,a6,a7⟩:=F.each b hb
  have g:gap=0:=by omega
  obtain ⟨x1,x2⟩:=F.bz b hb (by omega)
  obtain ⟨n1,n2⟩:=hg g
  have q1:b.2.lo≠one:=λz=>n1 (z ▸ x1)
  have q2:b.2.lo≠other:=λz=>n2 (z ▸ x1)
  have q3:b.2.hi≠one:=λz=>n1 (z ▸ x2)
  have q4:b.2.hi≠other:=λz=>n2 (z ▸ x2)
  unfold apart
  dsimp only
  by_cases c:other < one
  ·rw [if_pos c,if_neg (by omega)];exact ⟨q2,q1,q4,q3⟩
  ·rw [if_neg c,if_pos (by omega)];exact ⟨q1,q2,q3,q4⟩
 ·rcases ze.mp hm with h | h
  ·obtain ⟨a1,a2,a3,a4,a5,a6,a7⟩:=F.each b h
   obtain ⟨x1,x2⟩:=F.bz b h (by omega)
   exact ⟨hb _ x1 (by omega),hb _ x2 (by omega)⟩
  ·cases zN.mp h
   by_cases c:other < one
   ·rw [if_pos c,if_neg (by omega)];exact ⟨hb2,hb1⟩
   ·rw [if_neg c,if_pos (by omega)];exact ⟨hb1,hb2⟩
def M4.late (l:Int) (r:M4):M4:=⟨r.lo,r.hi,r.t + l,r.m⟩
theorem FOk.good {w wh l:Int}{bs:List Int}{fs qs:List (Addr×M4)} (F:FOk w wh bs fs) (n:fs.length<=60) (l0:0<=l) (l1:fs≠[]->wh + l<=1000000000) (p:qs.Perm fs) (s:qs.Pairwise λa b=>lx b.2.row a.2.row=false) :
  Good w (qs.map λa=>a.2.late l):=by
 refine ⟨by rw [zA,p.length_eq];exact n,λr hr=>?_,?_⟩
 ·obtain ⟨a,ha,rfl⟩:=zO.mp hr
  have hm:=p.mem_iff.mp ha
  obtain ⟨a1,a2,a3,a4,a5,a6,a7⟩:=F.each a hm
  have:=l1 (List.ne_nil_of_mem hm)
  unfold M4.late
  exact ⟨a1,a2,a3,by show 1<=a.2.t + l;omega,by show a.2.t + l<=1000000000;omega,a6,a7⟩
 ·rw [List.pairwise_map]
  have ap:qs.Pairwise λa b=>a.2.t=b.2.t->apart a.2 b.2:=(List.Perm.pairwise_iff (λ{x y} h e=>by
   obtain ⟨a1,a2,a3,a4⟩:=h e.symm
   exact ⟨a1.symm,a3.symm,a2.symm,a4.symm⟩) p).mpr F.pw
  refine (s.and ap).imp λ{a b} ⟨h1,h2⟩=>?_
  unfold M4.late
  dsimp only
  unfold M4.row lx at h1
  by_cases e:a.2.t=b.2.t
  ·have q:=h2 e
   rw [if_pos e.symm] at h1
   unfold lx at h1
   rw [if_neg λz=>q.1 z.symm] at h1
   simp only [decide_eq_false_iff_not] at h1
   refine .inr ⟨by omega,?_,q⟩
   have:=q.1
   omega
  ·rw [if_neg λz=>e z.symm] at h1
   simp only [decide_eq_false_iff_not] at h1
   exact .inl (by omega)
def toM4 (r:List Int):M4:=⟨r.getD 1 0,r.getD 2 0,r.getD 0 0,r.getD 3 0⟩
theorem rows_back {fs:List (Addr×M4)}{qs:List (Addr×List Int)} (p:qs.Perm (fs.map λa=>(a.1,a.2.row))) (s:qs.Pairwise λa b=>lx b.2 a.2=false) :
  ∃ rs:List (Addr×M4),rs.Perm fs/\(rs.Pairwise λa b=>lx b.2.row a.2.row=false)/\qs=rs.map λa=>(a.1,a.2.row):=by
 have e:qs=(qs.map λa=>(a.1,toM4 a.2)).map λa=>(a.1,a.2.row):=by
  rw [zX]
  refine (List.map_id qs).symm.trans (yL λx hx=>?_)
  obtain ⟨a,_,rfl⟩:=zO.mp (p.mem_iff.mp hx)
  rfl
 refine ⟨qs.map λa=>(a.1,toM4 a.2),?_,?_,e⟩
 ·have:=p.map λa=>(a.1,toM4 a.2)
  rw [zX] at this
  refine this.trans (.of_eq ?_)
  refine (yL λx _=>?_).trans (List.map_id fs)
  rfl
 ·rw [e,List.pairwise_map] at s
  exact s
theorem flat_ints (bs:List Int):(bs.map V.int).all flatV=true:=by
 rw [yj]
 intro x hx
 obtain ⟨b,_,rfl⟩:=zO.mp hx
 rfl
theorem inV_ints {x:Int}{bs:List Int}:inV (.int x) (bs.map V.int)=decide (x∈bs):=by
 unfold inV
 induction bs with
 | nil=>rfl
 | cons b bs ih=>
  rw [zf,yu,ih]
  by_cases h:x=b
  ·subst h;simp [eqV]
  ·have h':¬ b=x:=λz=>h z.symm
   simp [eqV,h,h']
def PvM (p lf:Addr) (w:Int) (n:Nat) (H:Hp) (i:Nat) (σ:St) (H3:Hp):Prop:=
 ∃ v6 v7 v8 v9 v10 wh lb bs,∃ fs:List (Addr×M4),σ=[some (.ref p),some (.int w),some (.int n),some (.ref lf),some (.int wh),some (.ref lb),v6,v7,v8,v9,v10,none] /\
  H3 lf=some (.lst (fs.map λa=>V.ref a.1))/\H3 lb=some (.lst (List.map V.int bs))/\lb≠lf/\lb≠p/\(∀ a∈fs,H3 a.1=some (.tup (a.2.row.map V.int)))/\FOk w wh bs fs/\fs.length=i/\bs.length<=2 * i/\1<=wh/\wh<=10000000 + 16000000 * i/\Go p H H3
theorem PvM.step {p lf lb t:Addr}{w wh gap one other m:Int}{n i:Nat}{H Hx:Hp}{bs bs':List Int}{fs:List (Addr×M4)} {v6 v7 v8 v9 v10:Option V} (npf:lf≠p) (hlf:H lf=none)
  (F:FOk w wh bs fs) (lenf:fs.length=i) (lenb:bs'.length<=2 * i + 2) (wh1:1<=wh) (wh2:wh<=10000000 + 16000000 * i) (hf:Hx lf=some (.lst (fs.map λa=>V.ref a.1))) (hb:Hx lb=some (.lst (List.map V.int bs'))) (nb:lb≠lf) (nbp:lb≠p)
  (rows:∀ a∈fs,Hx a.1=some (.tup (a.2.row.map V.int))) (go:Go p H Hx) (ht:Hx t=none)
  (g0:0<=gap) (g1:gap<=16000000) (o0:0<=one) (o1:one < w) (p0:0<=other) (p1:other < w) (ne:one≠other) (m0:1<=m) (m1:m<=99) (hg:gap=0->one ∉ bs/\other ∉ bs) (hb0:∀ x∈bs,gap=0->x∈bs') (hb1:one∈bs') (hb2:other∈bs') :
  PvM p lf w n H (i + 1) [some (.ref p),some (.int w),some (.int n),some (.ref lf),some (.int (wh + gap)),some (.ref lb),v6,v7,v8,v9,v10,none]
   (upd (upd Hx t (.tup [.int (wh + gap),.int (if other < one then other else one),.int (if other > one then other else one),.int m])) lf (.lst ((fs.map λa=>V.ref a.1)++[.ref t]))):=by
 have ntf:t≠lf:=(xK hf ht).symm
 refine ⟨v6,v7,v8,v9,v10,wh + gap,lb,bs',fs++[(t,⟨if other < one then other else one,if other > one then other else one,wh + gap,m⟩)],rfl,by rw [xJ,zQ];rfl,?_,nb,nbp,λa ha=>?_,F.step wh1 g0 o0 o1 p0 p1 ne m0 m1 hg hb0 hb1 hb2,by rw [zW,lenf];rfl,by omega,by omega,by omega,λb u nb e=>?_,?_⟩
 ·rw [xO nb,xO (xK hb ht)];exact hb
 ·rcases ze.mp ha with h | h
  ·have:=rows a h
   rw [xO (wP this hf (by intro z;cases z)),xO (xK this ht)];exact this
  ·cases zN.mp h
   rw [xO ntf,xJ];rfl
 ·rw [xO (xK e hlf),xO (xK (go.1 b u nb e) ht)];exact go.1 b u nb e
 ·have:=go.2.new (o:=.tup [.int (wh + gap),.int (if other < one then other else one),.int (if other > one then other else one),.int m]) ht
  obtain ⟨x,y,z,e⟩:=this
  exact ⟨x,y,z,by rw [xO npf.symm];exact e⟩
theorem oth_ok {one x w:Int} (o0:0<=one) (o1:one < w) (x0:0<=x) (x1:x < w - 1):0<=(one + 1 + x) % w/\(one + 1 + x) % w < w/\one≠(one + 1 + x) % w:=by
 refine ⟨yr _ (by omega),yY _ (by omega),?_⟩
 by_cases h:one + 1 + x < w
 ·rw [Int.emod_eq_of_lt (by omega) h];omega
 ·have e:(one + 1 + x) % w=(one + 1 + x - w) % w:=by
   have:one + 1 + x=(one + 1 + x - w) + w:=by omega
   rw [this,Int.add_emod_right];congr 1;omega
  rw [e,Int.emod_eq_of_lt (by omega) (by omega)];omega
theorem Go.same {p:Addr} {H H1 H2:Hp} (a:Go p H H1) (s:Same H1 H2):Go p H H2:=⟨λb u n e=>s b u (a.1 b u n e),by obtain ⟨x,y,z,e⟩:=a.2;exact ⟨x,y,z,s _ _ e⟩⟩
theorem wB {α:Type}{f:α->V}{l:List α}{i:Nat}{x:V} (h:(l.map f)[i]?=some x):∃ r,l[i]?=some r/\x=f r:=by
 rw [zC] at h
 cases e:l[i]? with
 | none=>rw [e] at h;cases h
 | some r=>rw [e] at h;exact ⟨r,rfl,(Option.some.inj h).symm⟩
theorem wZ {α:Type}{l:List α}{i:Nat}{r:α} (h:l[i]?=some r):l.take (i + 1)=l.take i++[r]:=by
 rw [List.take_add_one,h];rfl
theorem But.same {p:Addr} {H H1 H2:Hp} (hp:H p=none) (s:Same H H1) (g:But p H1 H2):Same H H2:=λb u e=>g b u (xK e hp) (s b u e)
theorem Same.put {l:Addr}{H H':Hp}{o:HO} (h:H l=none) (s:Same H H'):Same H (upd H' l o):=λb u e=>by rw [xO (xK e h)];exact s b u e
theorem BookAt.same {H H':Hp}{b tr tm:Addr}{rooms:List Int}{ps:List (Addr×M4)} (a:BookAt H b rooms tr tm ps) (t:Same H H'):BookAt H' b rooms tr tm ps:=a.tups (Tups.same t)
theorem tyS_lst {H:Hp}{l:Addr}{xs:List V} (h:H l=some (.lst xs)):tyS H (.ref l)=some "list" := by simp only [tyS,h]
def spWhole:Sp:=λvs H Q _=>∃ x t,vs=[x]/\tyS H x=some t/\Q (.bl (t == "int")) H
def inB (lo hi:Int):V->Bool
 | .int i=>decide (lo<=i) && decide (i<=hi)
 | _=>false
def spWithin:Sp:=λvs H Q _=>∃ x t lo hi,vs=[x,.int lo,.int hi]/\tyS H x=some t/\Q (.bl (inB lo hi x)) H
theorem tyS_int {H:Hp}{x:V} (h:tyS H x=some "int"):∃ i,x=.int i:=by
 cases x with
 | int i=>exact ⟨i,rfl⟩
 | ref a=>
  unfold tyS at h
  dsimp only at h
  split at h <;> simp at h
 | _=>simp [tyS] at h
theorem inB_no {H:Hp}{x:V}{t:String}{lo hi:Int} (h:tyS H x=some t) (n:¬ t = "int"):inB lo hi x=false:=by
 cases x with
 | int i=>simp [tyS] at h;exact absurd h.symm n
 | _=>rfl
def hasW (w:Int) (r:M4):Bool:=decide (r.lo=w) || decide (r.hi=w)
def numsTo (ms:List M4) (w:Int):Nat->List Int
 | 0=>[]
 | i + 1=>numsTo ms w i++(if (ms[i]?).any (hasW w)=true then [(i:Int)] else [])
theorem inV_two {w a b:Int}:inV (.int w) [.int a,.int b]=(decide (a=w) || decide (b=w)):=by
 simp only [inV,eqV,yu,List.any_nil,Bool.or_false]
 rfl
end Sm
namespace Sm
open PySem L2 SmSort
def spTimeOf:Sp:=λvs H Q _=>∃ p b j rooms tr tm ps,vs=[.ref p,.ref b,.int j]/\(j=0\/j=1)/\BookAt H b rooms tr tm ps/\Good rooms.length (ps.map (·.2))/\Purse H p/\∀ d H',0<=d->d<=1000000000->Go p H H'->Q (.int d) H'
def spLetter:Sp:=λvs H Q _=>∃ p b rooms tr tm ps,vs=[.ref p,.ref b]/\BookAt H b rooms tr tm ps/\1<=rooms.length/\rooms.length<=1000/\Good rooms.length (ps.map (·.2))/\Purse H p /\
 ∀ t (s a w z:Int) H',Go p H H'->H' t=some (.tup [.int s,.int a,.int w,.int z])->0<=s->s < rooms.length->0<=w->w < rooms.length->0<=a->a<=1000000000->0<=z->z<=1000000000->Q (.ref t) H'
theorem Good.len {w:Int}{ps:List (Addr×M4)} (g:Good w (ps.map (·.2))):ps.length<=60:=by simpa using g.few
theorem Good.at {w:Int}{ps:List (Addr×M4)} (g:Good w (ps.map (·.2))) {r:Addr×M4} (h:r∈ps):0<=r.2.lo/\r.2.lo < r.2.hi/\r.2.hi < w/\1<=r.2.t/\r.2.t<=1000000000/\1<=r.2.m/\r.2.m<=99:=g.each _ (zO.mpr ⟨r,h,rfl⟩)
end Sm
namespace L2
open PySem PySem.Spec PyProof.Rows
end L2
namespace Sm
open PySem L2 SmSort
theorem ixt {K:PySem.W.Frag}{H:Hp}{a:Addr}{xs:List V}{i:Int}{v:V}{Q:V->Prop} (h:H a=some (.tup xs)) (hi:atI xs i=some v) (q:Q v):∃ p xs' i' v',V.ref a=.ref p/\V.int i=.int i'/\SqT K H p xs'/\atI xs' i'=some v'/\Q v':=⟨a,xs,i,v,rfl,rfl,SqT.of h,hi,q⟩
theorem ixl {K:PySem.W.Frag}{H:Hp}{a:Addr}{xs:List V}{i:Int}{v:V}{Q:V->Prop} (h:H a=some (.lst xs)) (hi:atI xs i=some v) (q:Q v):∃ p xs' i' v',V.ref a=.ref p/\V.int i=.int i'/\SqL K H p xs'/\atI xs' i'=some v'/\Q v':=⟨a,xs,i,v,rfl,rfl,SqL.of h,hi,q⟩
theorem us1 {fd:FuncData}{ps:List Str}{us:List Value} (h:us.length=1) (q:∀ a,bindArgs fd ⟨[a],[]⟩=pure (ps.zip [a])):bindArgs fd ⟨us,[]⟩=pure (ps.zip us):=match us,h with | [a],_=>q a
theorem us2 {fd:FuncData}{ps:List Str}{us:List Value} (h:us.length=2) (q:∀ a b,bindArgs fd ⟨[a,b],[]⟩=pure (ps.zip [a,b])):bindArgs fd ⟨us,[]⟩=pure (ps.zip us):=match us,h with | [a,b],_=>q a b
theorem us3 {fd:FuncData}{ps:List Str}{us:List Value} (h:us.length=3) (q:∀ a b c,bindArgs fd ⟨[a,b,c],[]⟩=pure (ps.zip [a,b,c])):bindArgs fd ⟨us,[]⟩=pure (ps.zip us):=match us,h with | [a,b,c],_=>q a b c
theorem us4 {fd:FuncData}{ps:List Str}{us:List Value} (h:us.length=4) (q:∀ a b c d,bindArgs fd ⟨[a,b,c,d],[]⟩=pure (ps.zip [a,b,c,d])):bindArgs fd ⟨us,[]⟩=pure (ps.zip us):=match us,h with | [a,b,c,d],_=>q a b c d
theorem us5 {fd:FuncData}{ps:List Str}{us:List Value} (h:us.length=5) (q:∀ a b c d e,bindArgs fd ⟨[a,b,c,d,e],[]⟩=pure (ps.zip [a,b,c,d,e])):bindArgs fd ⟨us,[]⟩=pure (ps.zip us):=match us,h with | [a,b,c,d,e],_=>q a b c d e
theorem ex4 {α0 α1 α2 α3:Type}{P:α0->α1->α2->α3->Prop} (x0:α0) (x1:α1) (x2:α2) (x3:α3) (h:P x0 x1 x2 x3):∃ y0:α0,∃ y1:α1,∃ y2:α2,∃ y3:α3,P y0 y1 y2 y3:=⟨x0,x1,x2,x3,h⟩
theorem ex5 {α0 α1 α2 α3 α4:Type}{P:α0->α1->α2->α3->α4->Prop} (x0:α0) (x1:α1) (x2:α2) (x3:α3) (x4:α4) (h:P x0 x1 x2 x3 x4):∃ y0:α0,∃ y1:α1,∃ y2:α2,∃ y3:α3,∃ y4:α4,P y0 y1 y2 y3 y4:=⟨x0,x1,x2,x3,x4,h⟩
theorem ex6 {α0 α1 α2 α3 α4 α5:Type}{P:α0->α1->α2->α3->α4->α5->Prop} (x0:α0) (x1:α1) (x2:α2) (x3:α3) (x4:α4) (x5:α5) (h:P x0 x1 x2 x3 x4 x5):∃ y0:α0,∃ y1:α1,∃ y2:α2,∃ y3:α3,∃ y4:α4,∃ y5:α5,P y0 y1 y2 y3 y4 y5:=⟨x0,x1,x2,x3,x4,x5,h⟩
theorem ex7 {α0 α1 α2 α3 α4 α5 α6:Type}{P:α0->α1->α2->α3->α4->α5->α6->Prop} (x0:α0) (x1:α1) (x2:α2) (x3:α3) (x4:α4) (x5:α5) (x6:α6) (h:P x0 x1 x2 x3 x4 x5 x6):∃ y0:α0,∃ y1:α1,∃ y2:α2,∃ y3:α3,∃ y4:α4,∃ y5:α5,∃ y6:α6,P y0 y1 y2 y3 y4 y5 y6:=⟨x0,x1,x2,x3,x4,x5,x6,h⟩
theorem ex8 {α0 α1 α2 α3 α4 α5 α6 α7:Type}{P:α0->α1->α2->α3->α4->α5->α6->α7->Prop} (x0:α0) (x1:α1) (x2:α2) (x3:α3) (x4:α4) (x5:α5) (x6:α6) (x7:α7) (h:P x0 x1 x2 x3 x4 x5 x6 x7):∃ y0:α0,∃ y1:α1,∃ y2:α2,∃ y3:α3,∃ y4:α4,∃ y5:α5,∃ y6:α6,∃ y7:α7,P y0 y1 y2 y3 y4 y5 y6 y7:=⟨x0,x1,x2,x3,x4,x5,x6,x7,h⟩
theorem ex9 {α0 α1 α2 α3 α4 α5 α6 α7 α8:Type}{P:α0->α1->α2->α3->α4->α5->α6->α7->α8->Prop} (x0:α0) (x1:α1) (x2:α2) (x3:α3) (x4:α4) (x5:α5) (x6:α6) (x7:α7) (x8:α8) (h:P x0 x1 x2 x3 x4 x5 x6 x7 x8):∃ y0:α0,∃ y1:α1,∃ y2:α2,∃ y3:α3,∃ y4:α4,∃ y5:α5,∃ y6:α6,∃ y7:α7,∃ y8:α8,P y0 y1 y2 y3 y4 y5 y6 y7 y8:=⟨x0,x1,x2,x3,x4,x5,x6,x7,x8,h⟩
theorem ex11 {α0 α1 α2 α3 α4 α5 α6 α7 α8 α9 α10:Type}{P:α0->α1->α2->α3->α4->α5->α6->α7->α8->α9->α10->Prop} (x0:α0) (x1:α1) (x2:α2) (x3:α3) (x4:α4) (x5:α5) (x6:α6) (x7:α7) (x8:α8) (x9:α9) (x10:α10) (h:P x0 x1 x2 x3 x4 x5 x6 x7 x8 x9 x10):∃ y0:α0,∃ y1:α1,∃ y2:α2,∃ y3:α3,∃ y4:α4,∃ y5:α5,∃ y6:α6,∃ y7:α7,∃ y8:α8,∃ y9:α9,∃ y10:α10,P y0 y1 y2 y3 y4 y5 y6 y7 y8 y9 y10:=⟨x0,x1,x2,x3,x4,x5,x6,x7,x8,x9,x10,h⟩
theorem ex12 {α0 α1 α2 α3 α4 α5 α6 α7 α8 α9 α10 α11:Type}{P:α0->α1->α2->α3->α4->α5->α6->α7->α8->α9->α10->α11->Prop} (x0:α0) (x1:α1) (x2:α2) (x3:α3) (x4:α4) (x5:α5) (x6:α6) (x7:α7) (x8:α8) (x9:α9) (x10:α10) (x11:α11) (h:P x0 x1 x2 x3 x4 x5 x6 x7 x8 x9 x10 x11):∃ y0:α0,∃ y1:α1,∃ y2:α2,∃ y3:α3,∃ y4:α4,∃ y5:α5,∃ y6:α6,∃ y7:α7,∃ y8:α8,∃ y9:α9,∃ y10:α10,∃ y11:α11,P y0 y1 y2 y3 y4 y5 y6 y7 y8 y9 y10 y11:=⟨x0,x1,x2,x3,x4,x5,x6,x7,x8,x9,x10,x11,h⟩
theorem ex14 {α0 α1 α2 α3 α4 α5 α6 α7 α8 α9 α10 α11 α12 α13:Type}{P:α0->α1->α2->α3->α4->α5->α6->α7->α8->α9->α10->α11->α12->α13->Prop} (x0:α0) (x1:α1) (x2:α2) (x3:α3) (x4:α4) (x5:α5) (x6:α6) (x7:α7) (x8:α8) (x9:α9) (x10:α10) (x11:α11) (x12:α12) (x13:α13) (h:P x0 x1 x2 x3 x4 x5 x6 x7 x8 x9 x10 x11 x12 x13):∃ y0:α0,∃ y1:α1,∃ y2:α2,∃ y3:α3,∃ y4:α4,∃ y5:α5,∃ y6:α6,∃ y7:α7,∃ y8:α8,∃ y9:α9,∃ y10:α10,∃ y11:α11,∃ y12:α12,∃ y13:α13,P y0 y1 y2 y3 y4 y5 y6 y7 y8 y9 y10 y11 y12 y13:=⟨x0,x1,x2,x3,x4,x5,x6,x7,x8,x9,x10,x11,x12,x13,h⟩
theorem ex15 {α0 α1 α2 α3 α4 α5 α6 α7 α8 α9 α10 α11 α12 α13 α14:Type}{P:α0->α1->α2->α3->α4->α5->α6->α7->α8->α9->α10->α11->α12->α13->α14->Prop} (x0:α0) (x1:α1) (x2:α2) (x3:α3) (x4:α4) (x5:α5) (x6:α6) (x7:α7) (x8:α8) (x9:α9) (x10:α10) (x11:α11) (x12:α12) (x13:α13) (x14:α14) (h:P x0 x1 x2 x3 x4 x5 x6 x7 x8 x9 x10 x11 x12 x13 x14):∃ y0:α0,∃ y1:α1,∃ y2:α2,∃ y3:α3,∃ y4:α4,∃ y5:α5,∃ y6:α6,∃ y7:α7,∃ y8:α8,∃ y9:α9,∃ y10:α10,∃ y11:α11,∃ y12:α12,∃ y13:α13,∃ y14:α14,P y0 y1 y2 y3 y4 y5 y6 y7 y8 y9 y10 y11 y12 y13 y14:=⟨x0,x1,x2,x3,x4,x5,x6,x7,x8,x9,x10,x11,x12,x13,x14,h⟩
theorem un2 {K:PySem.W.Frag}{H:Hp}{a:Addr} {v0 v1:V}{Q:V->V->Prop} (h:H a=some (.tup [v0,v1])) (q:Q v0 v1):∃ a' xs,V.ref a=.ref a'/\SqT K H a' xs/\xs.length=2/\∃ w0 r0,xs=w0::r0/\∃ w1 r1,r0=w1::r1/\r1=[]/\Q w0 w1:=⟨a,_,rfl,SqT.of h,rfl,_,_,rfl,_,_,rfl,rfl,q⟩
theorem un3 {K:PySem.W.Frag}{H:Hp}{a:Addr} {v0 v1 v2:V}{Q:V->V->V->Prop} (h:H a=some (.tup [v0,v1,v2])) (q:Q v0 v1 v2):∃ a' xs,V.ref a=.ref a'/\SqT K H a' xs/\xs.length=3/\∃ w0 r0,xs=w0::r0/\∃ w1 r1,r0=w1::r1/\∃ w2 r2,r1=w2::r2/\r2=[]/\Q w0 w1 w2:=⟨a,_,rfl,SqT.of h,rfl,_,_,rfl,_,_,rfl,_,_,rfl,rfl,q⟩
theorem un4 {K:PySem.W.Frag}{H:Hp}{a:Addr} {v0 v1 v2 v3:V}{Q:V->V->V->V->Prop} (h:H a=some (.tup [v0,v1,v2,v3])) (q:Q v0 v1 v2 v3):∃ a' xs,V.ref a=.ref a'/\SqT K H a' xs/\xs.length=4/\∃ w0 r0,xs=w0::r0/\∃ w1 r1,r0=w1::r1/\∃ w2 r2,r1=w2::r2/\∃ w3 r3,r2=w3::r3/\r3=[]/\Q w0 w1 w2 w3:=⟨a,_,rfl,SqT.of h,rfl,_,_,rfl,_,_,rfl,_,_,rfl,_,_,rfl,rfl,q⟩
theorem zr {α:Sort _}{A Q:α->Prop}{x:α} (a:A x) (q:Q x):∃ y,A y/\Q y:=⟨x,a,q⟩
theorem zr1 {α β:Sort _}{A Q:α->β->Prop}{x:α}{y:β} (a:A x y) (q:Q x y):∃ x y,A x y/\Q x y:=⟨x,y,a,q⟩
theorem zr2 {α β:Sort _}{A B Q:α->β->Prop}{x:α}{y:β} (a:A x y) (b:B x y) (q:Q x y):∃ x y,A x y/\B x y/\Q x y:=⟨x,y,a,b,q⟩
end Sm
namespace L2
open PySem PySem.Spec PyProof.Rows
section
variable {X:Cx}
def oV:Option Int->V
 | none=>.non
 | some i=>.int i
theorem all_range {n:Nat}{e:Nat->Bool}{b:Bool} (h:(∀ j,j < n->e j=true)↔b=true):(List.range n).all e=b:=by
 cases b with
 | true=>rw [yj];intro j hj;exact h.mpr rfl j (zx.mp hj)
 | false=>
  cases c:(List.range n).all e with
  | false=>rfl
  | true=>exact absurd (h.mp λj hj=>yj.mp c j (zx.mpr hj)) (by simp)
end
end L2
namespace Sm
open PySem L2 SmSort
def spIsWalker:Sp:=λvs H Q _=>∃ b x t rooms tr tm ps,vs=[.ref b,x]/\BookAt H b rooms tr tm ps/\tyS H x=some t/\Q (.bl (inB 0 ((rooms.length:Int) - 1) x)) H
theorem tyS_tup {H:Hp}{l:Addr}{xs:List V} (h:H l=some (.tup xs)):tyS H (.ref l)=some "tuple" := by simp only [tyS,h]
theorem ixN_nat {n k:Nat} (h:k < n):ixN n (k:Int)=some k:=by
 unfold ixN
 rw [if_pos (by omega),if_pos (by omega)];simp
end Sm
namespace Sm
open PySem L2 SmSort
abbrev Fn:=Nat->Option Int
def put (f:Fn) (k:Nat) (x:Option Int):Fn:=λi=>if i=k then x else f i
theorem put_same {f:Fn}{k:Nat}{x:Option Int}:put f k x k=x:=by unfold put;rw [if_pos rfl]
theorem put_ne {f:Fn}{k i:Nat}{x:Option Int} (h:i≠k):put f k x i=f i:=by unfold put;rw [if_neg h]
def lone (k:Nat) (x:Int):Fn:=λi=>if i=k then some x else none
def below (o:Option Int) (t:Int):Bool:=match o with
 | some y=>decide (y < t)
 | none=>false
theorem below_iff {o:Option Int}{t:Int}:below o t=true↔∃ y,o=some y/\y < t:=by
 cases o <;> simp [below]
def upto (o:Option Int) (t:Int):Bool:=match o with
 | some y=>decide (y<=t)
 | none=>false
theorem upto_iff {o:Option Int}{t:Int}:upto o t=true↔∃ y,o=some y/\y<=t:=by
 cases o <;> simp [upto]
structure W3 where
 g:Nat
 o:Nat
 t:Int
def two (m:M4):List W3:=[⟨m.lo.toNat,m.hi.toNat,m.t⟩,⟨m.hi.toNat,m.lo.toNat,m.t⟩]
def ways2 (ms:List M4):List W3:=ms.flatMap two
def fstep (st:Fn) (x:W3):Fn:=if st x.o=none/\below (st x.g) x.t=true then put st x.o (some x.t) else st
def fwd (ms:List M4) (st:Fn):Fn:=(ways2 ms).foldl fstep st
theorem fstep_some {st:Fn}{x:W3}{i:Nat}{y:Int} (h:st i=some y):fstep st x i=some y:=by
 unfold fstep
 split
 ·rename_i c
  by_cases e:i=x.o
  ·rw [e,c.1] at h;cases h
  ·rw [put_ne e];exact h
 ·exact h
theorem fstep_inv {st:Fn}{x:W3} (hs:∀ i y,st i=some y->y<=x.t\/∀ j,st j≠none->j=i) (hne:x.g≠x.o):∀ i y,fstep st x i=some y->y<=x.t\/∀ j,fstep st x j≠none->j=i:=by
 unfold fstep
 split
 ·rename_i c
  obtain ⟨z,hz,zt⟩:=below_iff.mp c.2
  intro i y h
  by_cases e:i=x.o
  ·rw [e,put_same] at h;cases h;exact .inl (zo _)
  ·rw [put_ne e] at h
   rcases hs i y h with q | q
   ·exact .inl q
   ·have:x.g=i:=q x.g (by rw [hz];simp)
    rw [<-this,hz] at h;cases h
    exact .inl (by omega)
 ·exact hs
def Ord (t:Int) (ms:List M4):Prop:=(∀ m∈ms,t<=m.t/\m.lo.toNat≠m.hi.toNat)/\ms.Pairwise λa b=>a.t<=b.t
theorem Good.ord {w:Int}{ms:List M4} (g:Good w ms):Ord 1 ms:=by
 refine ⟨λm hm=>?_,g.order.imp λh=>?_⟩
 ·obtain ⟨a1,a2,a3,a4,_⟩:=g.each m hm
  exact ⟨a4,by omega⟩
 ·rcases h with h | h
  ·omega
  ·omega
def rep (n:Nat) (f:Fn):List (Option Int):=(List.range n).map f
theorem rep_len (n:Nat) (f:Fn):(rep n f).length=n:=by simp [rep]
theorem rep_get {n k:Nat}{f:Fn} (h:k < n):(rep n f)[k]?=some (f k):=by simp [rep,h]
theorem rep_at {n k:Nat}{f:Fn} (h:k < n):((rep n f).map oV)[k]?=some (oV (f k)):=by rw [zC,rep_get h];rfl
theorem rep_set {n k:Nat}{f:Fn}{x:Option Int} (h:k < n):(rep n f).set k x=rep n (put f k x):=by
 apply yP
 intro i
 rw [zY]
 by_cases e:k=i
 ·subst e
  rw [if_pos rfl,if_pos (by rw [rep_len];exact h),rep_get h,put_same]
 ·rw [if_neg e]
  by_cases hi:i < n
  ·rw [rep_get hi,rep_get hi,put_ne λz=>e z.symm]
  ·rw [za (by rw [rep_len];omega),za (by rw [rep_len];omega)]
theorem ways2_mem {w:Int}{ms:List M4} (g:Good w ms) {x:W3} (h:x∈ways2 ms):(x.g:Int) < w/\(x.o:Int) < w/\1<=x.t/\x.t<=1000000000/\x.g≠x.o:=by
 unfold ways2 at h
 obtain ⟨m,hm,hx⟩:=List.mem_flatMap.mp h
 obtain ⟨a1,a2,a3,a4,a5,_⟩:=g.each m hm
 unfold two at hx
 simp only [zV,List.not_mem_nil,or_false] at hx
 rcases hx with rfl | rfl
 ·exact ⟨by show (m.lo.toNat:Int) < w;omega,by show (m.hi.toNat:Int) < w;omega,a4,a5,by show m.lo.toNat≠m.hi.toNat;omega⟩
 ·exact ⟨by show (m.hi.toNat:Int) < w;omega,by show (m.lo.toNat:Int) < w;omega,a4,a5,by show m.hi.toNat≠m.lo.toNat;omega⟩
theorem oV_non {o:Option Int}:(oV o=.non)↔o=none:=by cases o <;> simp [oV]
def spBelow:Sp:=λvs H Q _=>∃ o t,vs=[oV o,.int t]/\Q (.bl (below o t)) H
def spLone:Sp:=λvs H Q _=>∃ b,∃ k:Nat,∃ x rooms tr tm ps,vs=[.ref b,.int k,.int x]/\BookAt H b rooms tr tm ps/\rooms.length<=1000/\∀ l H',H l=none->Same H H'->H' l=some (.lst ((rep rooms.length (lone k x)).map oV))->Q (.ref l) H'
def spTimes:Sp:=λvs H Q _=>∃ b,∃ k:Nat,∃ x rooms tr tm ps,vs=[.ref b,.int k,.int x]/\k < rooms.length/\BookAt H b rooms tr tm ps/\rooms.length<=1000/\Good rooms.length (ps.map (·.2))/\∀ l H',H l=none->Same H H'->H' l=some (.lst ((rep rooms.length (fwd (ps.map (·.2)) (lone k x))).map oV))->Q (.ref l) H'
end Sm
namespace L2
open PySem PySem.Spec PyProof.Rows
section
variable {n:Nat}{caps:List Nat}{g:TG}{tc:TT}{te:TE}{σ:St}{H:Hp}{Qf:Addr->Hp->List V->Prop}
theorem comp_range {lo:Int}{m:Nat} (Pv:Nat->St->List V->Hp->Prop) (h0:Pv 0 (tau0 n caps σ) [] H) (hn:m<=1000) (hl:∀ i τ acc H,Pv i τ acc H->acc.length<=i)
  (hs:∀ i τ acc H (C:St->List V->Hp->Prop),i < m->Pv i τ acc H->(∀ τ acc H,Pv (i + 1) τ acc H->C τ acc H)->g (.int (lo + i)) τ H fun τ2 H2=>tc τ2 H2 λb H3=>if b=true then te τ2 H3 λy H4=>C τ2 (acc++[y]) H4 else C τ2 acc H3)
  (hd:∀ τ acc H,Pv m τ acc H->∀ p,H p=none->Qf p H acc) :
  ∃ W:Nat->Nat->St->List V->Hp->Prop,(∃ m,W 0 m (tau0 n caps σ) [] H)/\∀ i m' τ acc H,W i m' τ acc H ->
   ((Itr lo m).stop i H/\acc.length<=sizeLine/\∀ p,H p=none->Qf p H acc) \/
   ((Itr lo m).go i H/\acc.length < sizeLine/\∀ x H',(Itr lo m).yld i H x H'->g x τ H' fun τ2 H2=>tc τ2 H2 λb H3=>if b=true then te τ2 H3 λy H4=>∃ m'',m'' < m'/\W (i + 1) m'' τ2 (acc++[y]) H4 else ∃ m'',m'' < m'/\W (i + 1) m'' τ2 acc H3):=
 comp_of (J:=Itr lo m) Pv m h0 hn hl (λi τ acc H hi p=>hi) (fun τ acc H p=>zK _)
  (λi τ acc H C hi p c x H' y=>by obtain ⟨e1,e2⟩:=y;subst e1;subst e2;exact hs i τ acc _ C hi p c) hd
end
end L2
namespace Sm
open PySem L2 SmSort
def run (ws:List W3) (st:Fn):Fn:=ws.foldl fstep st
theorem run_keep:∀ {ws:List W3}{st:Fn}{i:Nat}{y:Int},st i=some y->run ws st i=some y
 | [],_,_,_,h=>h
 | w::ws,st,i,y,h=>run_keep (ws:=ws) (fstep_some h)
theorem run_from:∀ {ws:List W3}{st:Fn}{i:Nat}{t:Int},run ws st i=some t->st i=none->∃ x∈ws,x.o=i/\x.t=t/\∃ y,run ws st x.g=some y/\y < t
 | [],st,i,t,h,h0=>by
  have:st i=some t:=h
  rw [h0] at this;cases this
 | w::ws,st,i,t,h,h0=>by
  have h':run ws (fstep st w) i=some t:=h
  cases e:fstep st w i with
  | none=>
   obtain ⟨x,hx,a,b,y,hy,lt⟩:=run_from h' e
   exact ⟨x,.tail _ hx,a,b,y,hy,lt⟩
  | some z=>
   have z':=run_keep (ws:=ws) e
   rw [h'] at z';cases z'
   unfold fstep at e
   split at e
   ·rename_i c
    by_cases io:i=w.o
    ·subst io
     rw [put_same] at e;cases e
     obtain ⟨y,hy,lt⟩:=below_iff.mp c.2
     exact ⟨w,.head _,rfl,rfl,y,run_keep (ws:=w::ws) hy,lt⟩
    ·rw [put_ne io,h0] at e;cases e
   ·rw [h0] at e;cases e
theorem run_closed:∀ {ws:List W3}{st:Fn},(∀ x∈ws,x.g≠x.o)->ws.Pairwise (λa b=>a.t<=b.t)->(∀ x∈ws,∀ i y,st i=some y->y<=x.t\/∀ j,st j≠none->j=i) ->
  ∀ x∈ws,∀ y,run ws st x.g=some y->y < x.t->∃ e,run ws st x.o=some e/\e<=x.t
 | w::ws,st,ne,pw,hs,x,hx,y,hy,lt=>by
  obtain ⟨p1,p2⟩:=List.pairwise_cons.mp pw
  rcases zV.mp hx with rfl | hx
  ·cases e:st x.g with
   | none=>
    obtain ⟨z,hz,a,b,_⟩:=run_from (ws:=x::ws) hy e
    rcases zV.mp hz with rfl | hz
    ·exact absurd a.symm (ne z (.head _))
    ·have:=p1 z hz
     omega
   | some z=>
    have:=run_keep (ws:=x::ws) e
    rw [hy] at this;cases this
    cases eo:st x.o with
    | none=>
     refine ⟨x.t,?_,zo _⟩
     show run ws (fstep st x) x.o=some x.t
     refine run_keep ?_
     unfold fstep
     rw [if_pos ⟨eo,below_iff.mpr ⟨y,e,lt⟩⟩,put_same]
    | some z=>
     refine ⟨z,run_keep (ws:=x::ws) eo,?_⟩
     rcases hs x (.head _) _ _ eo with q | q
     ·exact q
     ·exact absurd (q x.g (by rw [e];simp)) (ne x (.head _))
  ·refine run_closed (ws:=ws) (st:=fstep st w) (λa ha=>ne a (.tail _ ha)) p2 (λa ha i z hz=>?_) x hx y hy lt
   have base:∀ i y,st i=some y->y<=w.t\/∀ j,st j≠none->j=i:=hs w (.head _)
   rcases fstep_inv (x:=w) base (ne w (.head _)) i z hz with q | q
   ·exact .inl (Int.le_trans q (p1 a ha))
   ·exact .inr q
theorem ways2_pw:∀ {ms:List M4},ms.Pairwise (λa b=>a.t<=b.t)->(ways2 ms).Pairwise (λa b=>a.t<=b.t)
 | [],_=>.nil
 | m::ms,h=>by
  obtain ⟨h1,h2⟩:=List.pairwise_cons.mp h
  have e:ways2 (m::ms)=two m++ways2 ms:=by unfold ways2;rw [List.flatMap_cons]
  rw [e,yh]
  refine ⟨?_,ways2_pw h2,λa ha b hb=>?_⟩
  ·unfold two
   refine .cons (λx hx=>?_) (zw _ _)
   cases zN.mp hx;exact zo _
  ·have ta:a.t=m.t:=by
    unfold two at ha
    simp only [zV,List.not_mem_nil,or_false] at ha
    rcases ha with rfl | rfl <;> rfl
   unfold ways2 at hb
   obtain ⟨r,hr,hx⟩:=List.mem_flatMap.mp hb
   have tb:b.t=r.t:=by
    unfold two at hx
    simp only [zV,List.not_mem_nil,or_false] at hx
    rcases hx with rfl | rfl <;> rfl
   rw [ta,tb];exact h1 r hr
structure Early (w:Nat) (ws:List W3) (s:Nat) (x:Int) (E:Fn):Prop where
 self:E s=some x
 orig:∀ i t,i≠s->E i=some t->∃ a∈ws,a.o=i/\a.t=t/\∃ y,E a.g=some y/\y < t
 clos:∀ a∈ws,∀ y,E a.g=some y->y < a.t->∃ e,E a.o=some e/\e<=a.t
 inside:∀ a∈ws,a.g < w/\a.o < w
theorem early_fwd {n s:Nat}{x:Int}{ms:List M4} (g:Good n ms):Early n (ways2 ms) s x (fwd ms (lone s x)):=by
 refine ⟨?_,λi t ne h=>?_,?_,λa ha=>?_⟩
 ·exact run_keep (ws:=ways2 ms) (by simp [lone])
 ·exact run_from (ws:=ways2 ms) h (by simp [lone,ne])
 ·refine run_closed (λa ha=>(ways2_mem g ha).2.2.2.2) (ways2_pw g.ord.2) (λa ha i y h=>.inr λj hj=>?_)
  unfold lone at h hj
  by_cases e:i=s
  ·by_cases e':j=s
   ·rw [e,e']
   ·rw [if_neg e'] at hj;exact absurd rfl hj
  ·rw [if_neg e] at h;cases h
 ·obtain ⟨a1,a2,_⟩:=ways2_mem g ha
  omega
end Sm
namespace L2
open PySem PySem.Spec PyProof.Rows
section
variable {X:Cx}{pins:List (Addr×Obj)}{σ:St}{H:Hp}{s:Shared}
theorem Inv.keptAll {m:Str->Option Value}{h':Heap}{tk:Nat} (I:Inv X pins σ H s) (F0:Fr X.base X.env.locals s.heap m) (F:Fr X.base X.env.locals h' m)
  (N:News X.base X.env.locals h' (allNews X.base s.heap X.env.locals)):Inv X pins σ H { s with heap:=h',toks:=tk }:=by
 have keep:∀ b o,b≠X.env.locals->s.heap.get? b=some o->h'.get? b=some o:=λb o hb e=>by
  cases q:X.base.get? b with
  | some u=>
   have:=I.bk b u q
   rw [e] at this;cases this
   exact F.keep b _ q
  | none=>exact (N (b,o) (mem_allNews hb q e)).1
 refine I.step (g':=s.gens) (t':=tk) (d':=s.drawn) (ch:=[]) (λ_ z=>nomatch z) (λb o hb _ _ e _=>keep b o hb e) (λb o hb _ _ e _=>⟨o.slots,keep b o hb e⟩) (λb o _ e n=>n) (λb o _ e=>?_)
  (λb ys e=>e) (λb o u e=>e) (λb ps e=>⟨#[],by rw [e,Array.append_empty]⟩) (λm' hm=>?_) (λb u e=>?_) I.bare
 ·by_cases hb:b=X.env.locals
  ·obtain ⟨o',_,_,q,_⟩:=F.ns
   exact ⟨o',by rw [hb];exact q⟩
  ·exact ⟨o,keep b o hb e⟩
 ·obtain ⟨o1,es1,ep1,e1,d1,k1,f1⟩:=hm
  obtain ⟨o2,es2,ep2,e2,d2,k2,f2⟩:=F0.ns
  rw [e1] at e2;cases e2
  rw [d1] at d2;cases d2
  obtain ⟨o3,es3,ep3,e3,d3,k3,f3⟩:=F.ns
  exact ⟨o3,es3,ep3,e3,d3,k3,λname=>(f3 name).trans ((f2 name).symm.trans (f1 name))⟩
 ·refine (I.hok b u e).stay (λc v hc q=>keep c v (λz=>?_) q) (λc q=>q) λc ys q=>q
  rcases hc with rfl | hc
  ·rw [z,I.free] at e;cases e
  ·rw [z,I.free] at hc;cases hc
theorem bools_of:∀ {bs:List Bool}{us:List Value},Vals (bs.map V.bl) us->LSm.BoolsAre us bs
 | [],us,r=>by cases r;exact .nil
 | b::bs,us,r=>by
  cases r with
  | cons x y=>
   cases x
   exact .cons b (bools_of y)
theorem call_all {K:PySem.W.Frag} (hK:X.K=K) (hc:X.calm=true):CallR X (.builtin "all") (λxs H Q=>∃ p,∃ bs:List Bool,xs=[.ref p]/\SqL K H p (bs.map V.bl)/\Q (.bl (bs.all id)) H):=by
 subst hK
 intro pins s σ H xs us Q I r h
 obtain ⟨p,bs,rfl,hq,q⟩:=h
 obtain ⟨u,rfl,rx⟩:=vals1 r
 cases rx
 obtain ⟨its,r',pl,hz⟩:=I.list hq
 obtain ⟨m,F⟩:=I.fr
 exact LSm.all_bools F (news_all (g:=X.base) (h:=s.heap)) (I.ok.hd hc) pl.isList (bools_of r') λh' tk F' N'=>⟨.bl _,H,I.keptAll F F' N',rfl,q⟩
end
end L2
namespace Sm
open PySem L2 SmSort
end Sm
namespace Sm
open PySem L2 SmSort
def walkM (ms:List M4):Nat->Int->Int->List Int->Option (Nat×Int)
 | v,t,_,[]=>some (v,t)
 | v,t,a,n::ns=>match ms[n.toNat]? with
  | none=>none
  | some m=>if a < n/\0<=n/\(v=m.lo.toNat\/v=m.hi.toNat)/\t < m.t then walkM ms (if v=m.lo.toNat then m.hi.toNat else m.lo.toNat) m.t n ns else none
theorem Tups.setD {l:Addr}{H:Hp}{kvs:List (Key×V)}{o:HO} (h:H l=some (.dK kvs)):Tups H (upd H l o):=λb u e=>by rw [xO (wP e h (by intro z;cases z))];exact e
theorem idx_lt {ms:List M4} (o:ms.Pairwise λa b=>a.t<=b.t) {i j:Nat}{a b:M4} (hi:ms[i]?=some a) (hj:ms[j]?=some b) (lt:a.t < b.t):i < j:=by
 obtain ⟨h1,e1⟩:=zB.mp hi
 obtain ⟨h2,e2⟩:=zB.mp hj
 rcases Nat.lt_trichotomy i j with h | h | h
 ·exact h
 ·subst h;rw [e1] at e2;rw [e2] at lt;omega
 ·have:=yA.mp o j i h2 h1 h
  rw [e1,e2] at this
  omega
theorem walk_step {ms:List M4}{v:Nat}{t A n:Int}{ns:List Int}{r:Nat×Int} (h:walkM ms v t A (n::ns)=some r):∃ m,ms[n.toNat]?=some m/\A < n/\0<=n/\(v=m.lo.toNat\/v=m.hi.toNat)/\t < m.t/\walkM ms (if v=m.lo.toNat then m.hi.toNat else m.lo.toNat) m.t n ns=some r:=by
 unfold walkM at h
 cases e:ms[n.toNat]? with
 | none=>rw [e] at h;cases h
 | some m=>
  rw [e] at h
  dsimp only at h
  split at h
  ·rename_i c;exact ⟨m,rfl,c.1,c.2.1,c.2.2.1,c.2.2.2,h⟩
  ·cases h
end Sm
namespace Sm
open PySem L2 SmSort
def closedB (ws:List W3) (f:Fn):Bool:=ws.all λx=>!(below (f x.g) x.t) || upto (f x.o) x.t
def spOtherAt:Sp:=λvs H Q _=>∃ b,∃ k:Nat,∃ v:Int,∃ rooms tr tm ps,∃ m:M4,vs=[.ref b,.int k,.int v]/\BookAt H b rooms tr tm ps/\(ps.map (·.2))[k]?=some m/\Q (.int (if v=m.lo then m.hi else m.lo)) H
def spIsMeetNo:Sp:=λvs H Q _=>∃ b x t rooms tr tm ps,vs=[.ref b,x]/\BookAt H b rooms tr tm ps/\tyS H x=some t/\Q (.bl (inB 0 ((ps.length:Int) - 1) x)) H
theorem early_closed {n s:Nat}{x:Int}{ms:List M4} (g:Good n ms):closedB (ways2 ms) (fwd ms (lone s x))=true:=by
 refine yj.mpr λa ha=>?_
 cases h:below (fwd ms (lone s x) a.g) a.t with
 | false=>rfl
 | true=>
  obtain ⟨y,hy,lt⟩:=below_iff.mp h
  obtain ⟨e,he,le⟩:=(early_fwd (s:=s) (x:=x) g).clos a ha y hy lt
  rw [upto_iff.mpr ⟨e,he,le⟩];rfl
end Sm
namespace Sm
open PySem L2 SmSort
end Sm
namespace L2
open PySem
theorem iteN {c:Bool}{A:Prop}{D:Ends}{σ:St}{H:Hp} (Pre:St->Hp->Prop) (k:∀ σ H,Pre σ H->D.nx σ H) (h1:c=true->(∀ σ H,Pre σ H->D.nx σ H)->A) (h2:c=false->Pre σ H):if c=true then A else tNext D σ H:=by
 cases c with
 | true=>exact h1 rfl k
 | false=>exact k _ _ (h2 rfl)
end L2
namespace Sm
open PySem L2 SmSort
theorem iteO {c:Bool}{A B:Prop}{D:Ends}{σ:St}{H:Hp} (Pre:St->Hp->Prop) (k:∀ σ H,Pre σ H->D.nx σ H) (h1:c=true->(∀ σ H,Pre σ H->D.nx σ H)->A) (h2:c=false->(∀ σ H,Pre σ H->D.nx σ H)->B):if c=true then (if true=true then A else tNext D σ H) else B:=by
 cases c with
 | true=>exact h1 rfl k
 | false=>exact h2 rfl k
theorem iteA {c:Bool} {T2 A:Prop}{D:Ends}{σ:St}{H:Hp} (Pre:St->Hp->Prop) (k:∀ σ H,Pre σ H->D.nx σ H) (h1:c=true->(∀ σ H,Pre σ H->D.nx σ H)->T2) (h2:c=false->Pre σ H):if c=true then T2 else (if false=true then A else tNext D σ H):=by
 cases c with
 | true=>exact h1 rfl k
 | false=>exact k _ _ (h2 rfl)
end Sm
namespace Sm
open PySem L2 SmSort
def oth (v:Nat) (m:M4):Nat:=if v=m.lo.toNat then m.hi.toNat else m.lo.toNat
end Sm
namespace Sm
open PySem L2 SmSort
theorem ahead {n:Nat}{ms:List M4}{m:M4} (g:Good n (ms++[m])) {v:Nat}{x y:Int}{i:Nat} (hi:i≠v) (h:fwd ms (lone v x) i=some y):y<=m.t/\((i=m.lo.toNat\/i=m.hi.toNat)->y < m.t):=by
 obtain ⟨a,ha,ao,at',_⟩:=run_from (ws:=ways2 ms) h (by simp [lone,hi])
 unfold ways2 at ha
 obtain ⟨c,hc,hx⟩:=List.mem_flatMap.mp ha
 have od:=(yh.mp g.order).2.2 c hc m (by simp)
 obtain ⟨c1,c2,c3,_⟩:=g.each c (by simp [hc])
 obtain ⟨m1,m2,m3,_⟩:=g.each m (by simp)
 unfold two at hx
 simp only [zV,List.not_mem_nil,or_false] at hx
 have ct:c.t=y:=by rcases hx with rfl | rfl <;> exact at'
 have ci:i=c.lo.toNat\/i=c.hi.toNat:=by
  rcases hx with rfl | rfl
  ·exact .inr ao.symm
  ·exact .inl ao.symm
 refine ⟨by rcases od with h | h <;> omega,λhm=>?_⟩
 rcases od with h | ⟨h1,h2,h3,h4,h5,h6⟩
 ·omega
 ·exfalso
  rcases ci with e | e <;> rcases hm with e' | e' <;> omega
end Sm
namespace L2
open PySem PySem.Spec PyProof.Rows
section
variable {X:Cx}{pins:List (Addr×Obj)}{σ:St}{H:Hp}{s:Shared}
theorem ps_setComp {ix:Nat}{xn:Str}{pos' spos:Pos}{own:List Str}{caps:List Nat}{elt tg iter:Expr}{ifs:List Expr}{scope:Scope}{pos:Pos}{wi:TI}{g:TG}{tc:TT}{te:TE} (hN:X.N.Nodup) (hix:X.N[ix]?=some xn) (hxl:Loc X.env.scope xn) (hc:X.calm=true) (S:CompScope own caps X.N X.env.scope scope) (hi:PI X tg iter wi)
  (hg:∀ s H fp C,PG (cxComp X own caps scope s H fp C) tg g) (ht:∀ s H fp C,PTs (cxComp X own caps scope s H fp C) ifs tc) (he:∀ s H fp C,PE (cxComp X own caps scope s H fp C) elt te)
  (hs:∀ x,foldedSetIterable iter X.env x=pure x:=by intro _;rfl) (hsw:swapsWith (.ListComp elt [⟨tg,iter,ifs,0⟩] scope pos) (some (.Name xn pos')) spos.line X.env=pure true:=by rfl)
  (hf:X.fn xn=true\/X.env.scope.names.lookup xn=some .local:=by first | exact .inl rfl | exact .inr rfl | assumption) :
  PS X (.Assign [.Name xn pos'] (.ListComp elt [⟨tg,iter,ifs,0⟩] scope pos) spos) (tAsg (tComp own.length caps wi g tc te) (gName ix)):=by
 intro pins s σ H D0 I h
 rw [exec_Assign_Name_used _ _ _ _ hsw,arm_evalThenUse_ListComp]
 suffices main:wpAny (model X.prog X.w) X.A (comprehension (.ListComp elt [⟨tg,iter,ifs,0⟩] scope pos) scope X.env (firstIterPos [⟨tg,iter,ifs,0⟩] pos) (newList []) false (eval iter X.env) (some (assign (.Name xn pos') X.env))) (λ_ s1=>SP X pins D0 .next s1) X.xe s from
  wpAny_bind (wpAny_standAt (wpAny_bind (wpAny_bind (wpAny_mono main (λ_ s1 h=>wpAny_pure (wpAny_pure h)) λ_ _ e=>e))))
 refine wpAny_comprehension_free (use:=some _) (cl:=clOf scope.names X.env []) rfl hs (closureFor_eq λy hy e=>I.ok.has y.1 (S.fr y hy e)) S.kind S.loc
  (wpAny_mono (hi pins s σ H _ I h) (λv s1 h1=>thn h1 λitv s2 h2=>?_) λ_ _ e=>e)
 obtain ⟨it,fp,tn,J,H2,e,I2,T,st2,f2,W,⟨m0,w0⟩,turn⟩:=h2
 subst e
 refine wpAny_newObj_type (wpAny_newFunctionEnv S.nocell (by intro y hy;simp at hy) (λh₁ hns₁ hsb₁=>?_) S.kind)
 dsimp only at hns₁ hsb₁ ⊢
 generalize hH2:s2.heap.push { cls:=.type "list", dict:=none,data:=.seq ([]:List Value).toArray }=G at hns₁ hsb₁ ⊢
 have hG:G.objs.size=s2.heap.objs.size + 1:=by rw [<-hH2,Heap.size_push]
 have hDC:s2.heap.objs.size≠G.objs.size:=by rw [hG];exact zS (xB _)
 have hCle:s2.heap.objs.size<=G.objs.size:=by rw [hG];exact yT _
 have below:∀ b,b < s2.heap.objs.size->b≠G.objs.size:=λb hb=>by rw [hG];exact zS (yg hb)
 have old:∀ b o,s2.heap.get? b=some o->h₁.get? b=some o:=λb o e=>hsb₁.extBut b o (below b (Heap.lt_size e)) (Heap.get?_push_of_some _ (hH2 ▸ Heap.get?_push_of_some _ e))
 have hacc:h₁.get? s2.heap.objs.size=some { cls:=.type "list", dict:=none,data:=.seq ([]:List Value).toArray }:=hsb₁.extBut _ _ hDC (Heap.get?_push_of_some _ (hH2 ▸ Heap.get?_push_size _ rfl))
 have fl:∀ b∈fp,b < s2.heap.objs.size:=λb hb=>let ⟨o,e,_⟩:=T.obj _ _ st2 b hb;Heap.lt_size e
 have hns₁':h₁.Ns G.objs.size λ_=>none:=hns₁
 have I4:=inv_comp (tk:=s2.toks + ([]:List (Str×Value)).length) I2 S f2 fl (zK _) hCle hDC old hns₁' hacc (λv z=>nomatch z)
 have st4:tn 0 h₁:=T.keep _ _ _ st2 λb _ o e=>old b o e
 generalize hs4:({ s2 with heap:=h₁,toks:=s2.toks + ([]:List (Str×Value)).length }:Shared)=s4 at I4 ⊢
 have e4:s4.heap=h₁:=by rw [<-hs4]
 rw [<-e4] at st4
 -- the loop
 have loop:codeAny (model X.prog X.w) X.A (.compLoop (.ListComp elt [⟨tg,iter,ifs,0⟩] scope pos) 0 (.ref it) (.ref s2.heap.objs.size) (compEnvC scope (clOf scope.names X.env []) G.objs.size X.env))
   (compPost (model X.prog X.w) X.A X.xe (some (assign (.Name xn pos') X.env)) (λ_ s1=>SP X pins D0 .next s1) (.ref s2.heap.objs.size) G.objs.size) s4:=by
  let Y:=cxComp X own caps scope s2 H2 fp G.objs.size
  have stat:∀ {H':Hp}{its:List Value}{n:Nat},(∀ b∈fp,H' b=none)->∀ b∈fp,FpOk Y [(s2.heap.objs.size,({ cls:=.type "list", data:=.seq its.toArray n }:Obj))] H' b:=λ{H' its n} hn b hb=>by
   refine ⟨hn b hb,below b (fl b hb),λz=>?_,.inl hb,λx c e=>(f2 b hb).2.2.2.2.1 x c (xv e),λp hp=>?_⟩
   ·rcases zV.mp (I2.stkSub b z) with e | e
    ·exact (f2 b hb).2.1 e
    ·exact (f2 b hb).2.2.1 e
   ·have e:p=(s2.heap.objs.size,({ cls:=.type "list", data:=.seq its.toArray n }:Obj)):=by simpa using (show p∈[]++[_] from hp)
    subst e
    exact xA (fl b hb)
  refine loop_comp (λn s'=>∃ i τ acc its k H',Inv Y [(s2.heap.objs.size,({ cls:=.type "list", data:=.seq its.toArray k }:Obj))] τ H' s'/\tn i s'.heap/\(∀ b∈fp,H' b=none)/\Vals acc its/\W i n τ acc H') ?_ m0
   ⟨0,_,[],[],0,H2,I4,st4,λb hb=>(f2 b hb).1,.nil,w0⟩
  rintro n s5 ⟨i,τ,acc,its,k,H5,I5,st5,fr5,rv5,w5⟩
  rcases turn i n τ acc H5 w5 with ⟨stop,hz,q⟩ | ⟨go,hz,step⟩
  ·refine thn (T.done Y rfl rfl rfl hc i _ s5 τ H5 (λ_ _=>False) I5 (stat fr5) st5 stop) λr s6 ⟨hr,I6⟩=>?_
   subst hr
   obtain ⟨eD,nD,_,_,_⟩:=I6.pin _ (zT _ (zN.mpr rfl))
   obtain ⟨m6,hm6,_⟩:=I6.loc
   have hC6:H5 G.objs.size=none:=I6.free
   have hok6:HOk X.prog X.w H5 s6.heap:=I6.hok
   have ub:=I6.base
   have IX:Inv X pins σ (upd H5 s2.heap.objs.size (.lst acc)) s6:=by
    refine I2.call' (ch:=fp) (s':=s6) I6.os ⟨λb o e n' hb hx=>ub.keep b o e n' hb hx,λb o e n' hb hx=>?_,λb o e n' hx=>?_,λb o e hx=>?_,λb xs e=>?_,λb o u e=>?_,λb ps e=>?_⟩
     (hok6.track nD ⟨hz,its,k,rv5,eD⟩) I6.bare λb hb=>⟨(f2 b hb).2.2.2.1,(f2 b hb).2.1,(f2 b hb).2.2.2.2.1,(f2 b hb).2.2.2.2.2⟩
    ·exact ub.slot b o e n' hb hx
    ·rw [xO (zS (Heap.lt_size e))]
     exact ub.free b o e n' hx
    ·exact ub.there b o e hx
    ·have z:=ub.tups b xs e
     rw [xO (xK z nD)];exact z
    ·have z:=ub.frzs b o u e
     rw [xO (xK z nD)];exact z
    ·obtain ⟨more,z⟩:=ub.tbls b ps e
     exact ⟨more,by rw [xO (xK z nD)];exact z⟩
   have hCX:(upd H5 s2.heap.objs.size (.lst acc)) G.objs.size=none:=by rw [xO (Ne.symm hDC)];exact hC6
   have fC:FpOk X pins (upd H5 s2.heap.objs.size (.lst acc)) G.objs.size:=I2.fpOk hCle hCX
   obtain ⟨oC,esC,epC,gC,dC,rC⟩:=hm6
   have IP:=IX.pinned (fp:=[G.objs.size]) (λb hb=>by cases zN.mp hb;exact fC) (λb hb=>by cases zN.mp hb;exact ⟨oC,gC,λv z=>by rw [dC] at z;cases z⟩)
   refine wpAny_assign_Name (store_ok IP hN hix hxl (v:=.ref s2.heap.objs.size) rfl (λs7 I7=>?_) hf)
   have pC:=(I7.pin (G.objs.size,oC) (zT _ (zT _ (wX (zN.mpr rfl) gC)))).1
   refine ⟨m6,⟨oC,esC,epC,pC,dC,rC⟩,λh' hsb=>?_⟩
   have I8:Inv X pins (σ.set ix (some (.ref s2.heap.objs.size))) (upd H5 s2.heap.objs.size (.lst acc)) { s7 with heap:=h' }:=I7.unpinned.turned (t':=s7.toks) (λb o hb e=>hsb.extBut b o hb e) fC.1 fC.2.1 fC.2.2.2.1 fC.2.2.2.2.1 fC.2.2.2.2.2
   exact ⟨_,_,I8,q _ nD⟩
  ·refine thn (T.item Y rfl rfl rfl hc i _ s5 τ H5 (λ_ _=>False) I5 (stat fr5) st5 go) λr s6 ⟨u,hr,h6⟩=>?_
   subst hr
   refine thn h6 λ_ s7 ⟨x,H7,I7,r7,y7,st7,fr7⟩=>?_
   have I7':=I7.pinned (stat fr7) (T.obj _ _ st7)
   refine thn (hg s2 H2 fp G.objs.size _ s7 τ H7 x u _ I7' r7 (step x H7 y7)) λ_ s8 ⟨τ8,H8,I8,q8⟩=>?_
   refine thn (ht s2 H2 fp G.objs.size _ s8 τ8 H8 _ I8 q8) λok s9 ⟨H9,I9,q9⟩=>?_
   -- the iterator's state behind the turn
   have back:∀ {s':Shared}{τ':St}{H':Hp},Inv Y ([(s2.heap.objs.size,({ cls:=.type "list", data:=.seq its.toArray k }:Obj))]++pinsAt fp s7.heap) τ' H' s'->(tn (i + 1) s'.heap/\∀ b∈fp,H' b=none):=λ{s' τ' H'} Ib=>
    ⟨T.keep _ _ _ st7 λb hb o e=>(Ib.pin (b,o) (zT _ (zT _ (wX hb e)))).1,λb hb=>by
     obtain ⟨o,e,d⟩:=T.obj _ _ st7 b hb
     exact (Ib.pin (b,o) (zT _ (zT _ (wX hb e)))).2.1⟩
   cases ok with
   | false=>
    obtain ⟨m',hm',w'⟩:=q9
    obtain ⟨sb,fb⟩:=back I9
    exact ⟨m',hm',i + 1,τ8,acc,its,k,H9,I9.unpinned,sb,fb,rv5,w'⟩
   | true=>
    refine thn (he s2 H2 fp G.objs.size _ s9 τ8 H9 _ I9 q9) λy s10 ⟨yv,H10,I10,r10,q10⟩=>?_
    obtain ⟨m',hm',w'⟩:=q10
    obtain ⟨sb,fb⟩:=back I10
    obtain ⟨eD,nD,neD,nfD,_⟩:=I10.pin (s2.heap.objs.size,_) (zT _ (yd _ (zN.mpr rfl)))
    have hl:acc.length=its.length:=rv5.length
    refine call_meets F.slot_list_append ⟨_,eD,rfl⟩ F.entry_list_append (F.args_list_append_2 _ _) (PySem.list_append s2.heap.objs.size its.toArray k y (by rw [zP];omega)) ⟨eD,?_⟩
    have q:=PySem.IsL.update eD (λa:Array Value=>a.push y)
    have Iu:Inv Y [] τ8 H10 s10:=I10.pins_of λp hp=>nomatch hp
    have It:=Iu.turned (t':=s10.toks) (it:=s2.heap.objs.size) (h':=s10.heap.update s2.heap.objs.size (Obj.mapSeq (λa:Array Value=>a.push y))) (λb o hb e=>(Heap.get?_update_other s10.heap _ (Ne.symm hb)).trans e) nD neD (.inr (zK _))
     (λx c e z=>by
      obtain ⟨v,ob,hob,_⟩:=I2.cell x c (xv e)
      exact absurd (Heap.lt_size hob) (by rw [z];exact zu _)) (λp hp=>nomatch hp)
    have It':=It.pins_of (pins':=[(s2.heap.objs.size,({ cls:=.type "list", data:=.seq (its++[y]).toArray (k + 1) }:Obj))]) λp hp=>by
     have e:p=_:=zN.mp hp
     subst e
     exact ⟨by simpa using q,nD,neD,nfD,λv z=>nomatch z⟩
    refine ⟨m',hm',i + 1,τ8,acc++[yv],its++[y],_,H10,It',T.keep _ _ _ sb λb hb o e=>(Heap.get?_update_other s10.heap _ (xA (fl b hb))).trans e,fb,rv5.append (.cons r10 .nil),w'⟩
 exact codeAny_compStart_list loop (T.self _ 0 s4 _ _ st4 loop)
end
end L2
namespace Sm
open PySem L2 SmSort
theorem walk_snoc {n:Nat}{ms:List M4} (g:Good n ms) {m:M4}{k:Nat} (hm:ms[k]?=some m):∀ {ns:List Int}{v v':Nat}{t t' A:Int},walkM ms v t A ns=some (v',t')->(A=-1\/∃ i:Nat,∃ mi,A=i/\ms[i]?=some mi/\mi.t<=t)->(v'=m.lo.toNat\/v'=m.hi.toNat)->t' < m.t->walkM ms v t A (ns++[(k:Int)])=some (oth v' m,m.t)
 | [],v,v',t,t',A,h,hA,hv,ht=>by
  have:=Option.some.inj h
  obtain ⟨rfl,rfl⟩:=Prod.mk.inj this
  have an:A < k:=by
   rcases hA with rfl | ⟨k',m',rfl,hm',lt'⟩
   ·omega
   ·have:=idx_lt g.ord.2 hm' hm (by omega)
    omega
  show walkM ms v t A [(k:Int)]=_
  unfold walkM
  rw [zH,hm]
  dsimp only
  rw [if_pos ⟨an,by omega,hv,ht⟩]
  rfl
 | n0::ns,v,v',t,t',A,h,hA,hv,ht=>by
  obtain ⟨m0,hm0,h1,h2,h3,h4,wk⟩:=walk_step h
  obtain ⟨j,rfl⟩:=zM h2
  rw [zH] at hm0
  show walkM ms v t A ((j:Int)::(ns++[(k:Int)]))=_
  unfold walkM
  rw [zH,hm0]
  dsimp only
  rw [if_pos ⟨h1,h2,h3,h4⟩]
  exact walk_snoc g hm wk (.inr ⟨j,m0,rfl,hm0,zo _⟩) hv ht
end Sm
namespace Sm
open PySem L2 SmSort
def jstep (row F:Fn) (x:W3):Fn:=if below (row x.g) x.t=true/\upto (F x.o) x.t=false then put F x.o (some x.t) else F
def jac (ws:List W3) (row:Fn):Fn:=ws.foldl (jstep row) row
def jrow (ws:List W3) (row:Fn):Nat->Fn
 | 0=>row
 | k + 1=>jac ws (jrow ws row k)
def rk (ws:List W3):Option Int->Nat
 | none=>ws.length + 1
 | some y=>ws.countP λx=>decide (x.t < y)
end Sm
namespace Sm
open PySem L2 SmSort
structure Rows (H0 H:Hp) (ms:List M4) (n k:Nat) (x:Int) (as:List Addr):Prop where
 pos:as≠[]
 few:as.length<=200000
 at':∀ (i:Nat) (a:Addr),as[i]?=some a->H0 a=none/\H a=some (.lst ((rep n (jrow (ways2 ms) (lone k x) i)).map oV))
 ne:∀ i,i + 1 < as.length->rep n (jrow (ways2 ms) (lone k x) (i + 1))≠rep n (jrow (ways2 ms) (lone k x) i)
 last:rep n (jrow (ways2 ms) (lone k x) as.length)=rep n (jrow (ways2 ms) (lone k x) (as.length - 1))
end Sm
namespace L2
open PySem PySem.Spec PyProof.Rows
section
variable {K:PySem.W.Frag}{a:Addr}{xs:List V}{n:Nat}{caps:List Nat}{g:TG}{tc:TT}{te:TE}{σ:St}{H:Hp}{Qf:Addr->Hp->List V->Prop}
end
end L2
namespace Sm
open PySem L2 SmSort
end Sm
namespace Sm
open PySem L2 SmSort
end Sm
namespace Sm
open PySem L2
end Sm
namespace Sm
open PySem L2 SmSort
def again (ms:List M4) (day first:Int):Nat->List M4
 | 0=>[]
 | r + 1=>again ms day first r++ms.map (M4.late ((first + r) * day))
end Sm
namespace L2
open PySem PySem.Spec PyProof.Rows
def Itd (lo c:Int) (n:Nat):It:=⟨λi _=>i < n,λi H x H'=>H'=H/\x=.int (lo + i * c),λi _=>n<=i⟩
theorem turn_rangeS {P:Program}{w:World}{K:PySem.W.Frag}{tg:Expr} (it:Addr) (lo c:Int) (n:Nat):Turn P w K tg (Itd lo c n) [it] it (λi h=>IsRangeIter h it (lo + (i:Nat) * c) ((n:Int) - (i:Nat)) c) where
 mem:=by simp
 obj:=λi h st b hb=>by
  have e:b=it:=by simpa using hb
  subst e
  exact ⟨_,st,λv z=>by
   have z':Data.fields _=Data.cell v:=z
   cases z'⟩
 keep:=λi h h' st k=>k it (by simp) _ st
 item:=by
  intro X hP hw hK hc i pins s σ H E I hf st hg
  subst hP hw hK
  obtain ⟨f0,f1,f2,f3,f4,f5⟩:=hf it (by simp)
  have W:=Walks.range (prog:=X.prog) (w:=X.w) (I.ok.hd hc) it lo c n
  refine W.item i s _ _ hg st λv h' tk hv st' kk=>?_
  obtain ⟨t,rfl⟩:=hv
  have I1:Inv X pins σ H { s with heap:=h',toks:=tk }:=I.turned (λb o hb e=>kk b o (by simpa using hb) e) f0 f1 f3 f4 f5
  exact ⟨_,rfl,go_of (s:={ s with heap:=h',toks:=tk }) (n := "range_iterator") st' rfl rfl (by decide) ⟨.int (lo + i * c),H,I1,⟨t,rfl⟩,⟨rfl,rfl⟩,st',λb hb=>(hf b hb).1⟩⟩
 done:=by
  intro X hP hw hK hc i pins s σ H E I hf st hg
  subst hP hw hK
  obtain ⟨f0,f1,f2,f3,f4,f5⟩:=hf it (by simp)
  exact wpAny_pyNext_range_end (I.ok.hd hc) st (by have:n<=i:=hg;omega) λh' eb=>⟨rfl,I.turned (t':=s.toks) (λb o hb e=>eb b o hb e) f0 f1 f3 f4 f5⟩
 self:=λ_ _ _ _ _ st h=>wpAny_pyIter_rangeiter st h
section
variable {X:Cx}{tg:Expr}
theorem range_itS {pins:List (Addr×Obj)}{σ:St}{H:Hp}{s:Shared}{R:It->Hp->Prop}{E:Value->Shared->Prop}{lo hi c:Int}{n:Nat}{t u v:Tok}{tk:Nat} (I:Inv X pins σ H s) (hs:Builtin.Range.small lo hi c=true) (hn:Builtin.Range.rangeSize lo hi c=(n:Int))
  (q:R (Itd lo c n) H):wpAny (model X.prog X.w) X.A (pyIter (.ref s.heap.objs.size)) (PIE X pins σ tg R) E { s with heap:=s.heap.push { cls:=.type "range", data:=.fields #[.int lo t,.int hi u,.int c v] },toks:=tk }:=by
 refine wpAny_pyIter_range (IsRange.new ..) hs ?_
 have I1:Inv X pins σ H { s with heap:=s.heap.push { cls:=.type "range", data:=.fields #[.int lo t,.int hi u,.int c v] },toks:=tk }:=I.kept λb o e=>Heap.get?_push_of_some _ e
 refine ⟨(s.heap.push { cls:=.type "range", data:=.fields #[.int lo t,.int hi u,.int c v] }).objs.size,[(s.heap.push { cls:=.type "range", data:=.fields #[.int lo t,.int hi u,.int c v] }).objs.size],_,_,H,rfl,
  I1.kept (t':=tk) λb o e=>Heap.get?_push_of_some _ e,turn_rangeS _ lo c n,?_,λb hb=>?_,q⟩
 ·show IsRangeIter _ _ (lo + ((0:Nat):Int) * c) ((n:Int) - ((0:Nat):Int)) c
  rw [show lo + ((0:Nat):Int) * c=lo by simp,show (n:Int) - ((0:Nat):Int)=Builtin.Range.rangeSize lo hi c by rw [hn];simp]
  exact Heap.get?_push_size _ rfl
 ·have e:b=(s.heap.push { cls:=.type "range", data:=.fields #[.int lo t,.int hi u,.int c v] }).objs.size:=by simpa using hb
  subst e
  exact I1.fpOk (zK _) (I1.hok.fresh (zK _))
def iRng3 (ta:TA):TI:=fun σ H R=>ta σ H λvs H1=>∃ i j c:Int,∃ n:Nat,vs=[.int i,.int j,.int c]/\c≠0/\Builtin.divisionGoesByPylong (j - i) c=false/\Builtin.Range.small i j c=true/\Builtin.Range.rangeSize i j c=(n:Int)/\R (Itd i c n) H1
theorem pi_range3 {a b d:Expr}{ta:TA}{p pos:Pos} (hg:Gl X "range") (hm:X.mg "range" = none) (ha:PA X [a,b,d] ta) (hs:starEach [a,b,d] X.env=[(false,eval a X.env),(false,eval b X.env),(false,eval d X.env)]:=by rfl) (hs2:starEach [b,d] X.env=[(false,eval b X.env),(false,eval d X.env)]:=by rfl) :
  PI X tg (.Call (.Name "range" p) [a,b,d] [] pos) (iRng3 ta):=by
 intro pins s σ H R I h
 refine Call_ (ld_blt I hg hm boot_range (PyProof.Rows.callWith_type1 (thn (ha pos pins s σ H _ I h) λus s1 ⟨vs,H1,I1,r1,q1⟩=>?_) (by rw [hs,hs2]) (by rw [hs2];rfl)))
 obtain ⟨i,j,c,n,e,c0,np,sm,hn,q⟩:=q1
 subst e
 cases r1 with
 | cons r rr=>
  cases rr with
  | cons r' rr=>
   cases rr with
   | cons r'' rr=>
    cases rr
    obtain ⟨t,rfl⟩:=r
    obtain ⟨t',rfl⟩:=r'
    obtain ⟨t'',rfl⟩:=r''
    exact call_range_3 c0 (range_itS I1 sm hn q) (.inl np)
theorem for_rangeS {lo c:Int}{n:Nat}{g:TG}{tb:TS}{D:Ends}{σ:St}{H:Hp} (Pv:Nat->St->Hp->Prop) (h0:Pv 0 σ H)
  (hs:∀ i σ H,i < n->Pv i σ H->g (.int (lo + i * c)) σ H fun σ2 H2=>tb { D with nx:=Pv (i + 1),ct:=Pv (i + 1),bk:=D.nx } σ2 H2) (hd:∀ σ H,Pv n σ H->D.nx σ H) :
  ∃ W:Nat->Nat->St->Hp->Prop,(∃ m,W 0 m σ H)/\∀ i m σ H,W i m σ H ->
   ((Itd lo c n).stop i H/\D.nx σ H)\/((Itd lo c n).go i H/\∃ N:St->Hp->Prop,(∀ σ' H',N σ' H'->∃ m',m' < m/\W (i + 1) m' σ' H')/\∀ x H',(Itd lo c n).yld i H x H'->g x σ H' fun σ2 H2=>tb { D with nx:=N,ct:=N,bk:=D.nx } σ2 H2):=by
 refine ⟨λi m σ H=>m=n - i/\i<=n/\Pv i σ H,⟨n,by simp,zZ _,h0⟩,?_⟩
 rintro i m σ H ⟨rfl,hi,p⟩
 by_cases hlt:i < n
 ·refine .inr ⟨hlt,Pv (i + 1),fun σ' H' p'=>⟨n - (i + 1),by omega,rfl,hlt,p'⟩,λx H' y=>?_⟩
  obtain ⟨e,y⟩:=y
  subst e;subst y
  exact hs i σ _ hlt p
 ·have e:i=n:=by omega
  subst e
  exact .inl ⟨zK _,hd σ H p⟩
end
end L2
namespace L2
open PySem PySem.Spec PyProof.Rows
section
variable {X:Cx}
end
end L2
namespace HT
open PySem PySem.Spec PyProof.Rows
section
variable {prog:Program}{w:World}{A:Around}{E:Value->Shared->Prop}{s:Shared}
end
end HT
namespace L2
open PySem PySem.Spec PyProof.Rows
section
variable {X:Cx}
end
end L2
namespace L2
open PySem PySem.Spec PyProof.Rows
section
variable {X:Cx}{pins:List (Addr×Obj)}{σ:St}{H:Hp}{s:Shared}
theorem wO {xs:List V}{us:List Value} (r:Vals xs us) {j:Nat} (h:j < us.toArray.size):∃ x,xs[j]?=some x/\RelV x us.toArray[j]:=by
 have hl:=r.length
 simp only [zP] at h
 have a1:j < xs.length:=by omega
 obtain ⟨u,eu,ru⟩:=r.get (i:=j) (x:=xs[j]) (by simp [a1])
 have e1:us.toArray[j]=u:=by rw [List.getElem_toArray];exact Option.some.inj ((zE h).symm.trans eu)
 exact ⟨xs[j],by simp [a1],by rw [e1];exact ru⟩
end
end L2
namespace Sm
open PySem L2 SmSort
def whenOf (ms:List M4) (j:Int):Int:=((ms[j.toNat]?).map (·.t)).getD 0
def whens (ms:List M4) (k:Nat):List Int:=(numsTo ms k ms.length).map (whenOf ms)
section
variable {n k w:Nat}{ms:List M4}{day:Int}
end
end Sm
namespace L2
open PySem PySem.Spec PyProof.Rows
def Eqv (K:PySem.W.Frag) (H:Hp):Nat->V->V->Bool->Prop
 | 0,x,y,b=>(x=y/\(∃ a,x=.ref a)/\b=true)\/(flatV x=true/\flatV y=true/\b=eqV x y)
 | n + 1,x,y,b=>(x=y/\(∃ a,x=.ref a)/\b=true)\/(flatV x=true/\flatV y=true/\b=eqV x y)\/∃ (a c:Addr) (xs ys:List V) (e:Nat->Bool),x=.ref a/\y=.ref c/\((SqL K H a xs/\SqL K H c ys)\/(SqT K H a xs/\SqT K H c ys))/\(a=c->b=true)/\b=(decide (xs.length=ys.length) && (List.range xs.length).all e)/\∀ (i:Nat) (x y:V),xs[i]?=some x->ys[i]?=some y->Eqv K H n x y (e i)
section
variable {X:Cx}{pins:List (Addr×Obj)}{σ:St}{H:Hp}{s:Shared}
theorem eqv_eq (I:Inv X pins σ H s):∀ (n:Nat) {A:Around}{x y:V}{b:Bool}{u v:Value},A.units + n < cLine->Eqv X.K H n x y b->RelV x u->RelV y v->SeqAt.EqAt A s u v b
 | n,A,x,y,b,u,v,hu,h,ru,rv=>by
  have base1:x=y/\(∃ a,x=.ref a)/\b=true->SeqAt.EqAt A s u v b:=by
   rintro ⟨rfl,⟨a,rfl⟩,rfl⟩
   cases ru;cases rv
   exact SeqAt.EqAt.same _
  have base2:flatV x=true/\flatV y=true/\b=eqV x y->SeqAt.EqAt A s u v b:=by
   rintro ⟨h1,h2,rfl⟩
   exact eqAt_V (A:=A) (s:=s) ru rv h1 h2
  cases n with
  | zero=>exact h.elim base1 base2
  | succ n=>
   rcases h with h | h | ⟨a,c,xs,ys,e,rfl,rfl,h,hs,hb,hi⟩
   ·exact base1 h
   ·exact base2 h
   ·cases ru;cases rv
    by_cases ne:a=c
    ·rw [hs ne,ne];exact SeqAt.EqAt.same _
    refine SeqAt.EqAt.of_refs ne ?_
    rcases h with ⟨h1,h2⟩ | ⟨h1,h2⟩
    ·obtain ⟨its,r1,p1,_⟩:=I.list h1
     obtain ⟨its2,r2,p2,_⟩:=I.list h2
     have l1:=r1.length
     have l2:=r2.length
     by_cases hl:xs.length=ys.length
     ·have:=SeqAt.RcAt.lists (A:=A) (e:=e) p1.isList p2.isList (by simp;omega) (by omega) λj h1 h2=>by
       obtain ⟨x,ex,rx⟩:=wO r1 h1
       obtain ⟨y,ey,ry⟩:=wO r2 h2
       exact eqv_eq I n (by show A.units + 1 + n < cLine;omega) (hi j x y ex ey) rx ry
      rw [hb,decide_eq_true hl,yU,l1]
      simpa using this
     ·rw [hb,decide_eq_false hl,yJ]
      exact SeqAt.RcAt.lists_lengths (A:=A) p1.isList p2.isList (by simp;omega) (by omega)
    ·obtain ⟨its,r1,p1,_⟩:=I.tuple h1
     obtain ⟨its2,r2,p2,_⟩:=I.tuple h2
     have l1:=r1.length
     have l2:=r2.length
     have:=SeqAt.RcAt.tuples (A:=A) (e:=e) p1 p2 (by omega) λj h1 h2=>by
      obtain ⟨x,ex,rx⟩:=wO r1 h1
      obtain ⟨y,ey,ry⟩:=wO r2 h2
      exact eqv_eq I n (by show A.units + 1 + n < cLine;omega) (hi j x y ex ey) rx ry
     by_cases hl:xs.length=ys.length
     ·rw [hb,decide_eq_true hl,yU,l1]
      have e1:its2.length=its.length:=by omega
      simpa [e1] using this
     ·rw [hb,decide_eq_false hl,yJ]
      have e1:¬ its.length=its2.length:=by omega
      have e2:(its.toArray.size == its2.toArray.size)=false:=by simp [e1]
      rw [e2,Bool.and_false] at this
      exact this
def rEqv (K:PySem.W.Frag) (neg:Bool):R2:=λx y H Q=>∃ (n:Nat) (a c:Addr) (xs ys:List V) (e:Nat->Bool) (b:Bool),n<=20/\x=.ref a/\y=.ref c/\((SqL K H a xs/\SqL K H c ys)\/(SqT K H a xs/\SqT K H c ys))/\b=(decide (xs.length=ys.length) && (List.range xs.length).all e)/\(∀ (i:Nat) (x y:V),xs[i]?=some x->ys[i]?=some y->Eqv K H n x y (e i))/\Q (.bl (if neg then !b else b)) H
theorem op_eqE (hu:X.A.units + 64 < cLine):OpR X (compareOp .Eq) (rEqv X.K false):=by
 intro pins s σ H x y v u Q I rx ry h
 obtain ⟨n,a,c,xs,ys,e,b,hn,rfl,rfl,h,hb,hi,q⟩:=h
 cases rx;cases ry
 rw [if_neg (by decide),hb] at q
 rcases h with ⟨h1,h2⟩ | ⟨h1,h2⟩
 ·obtain ⟨its,r1,p1,_⟩:=I.list h1
  obtain ⟨its2,r2,p2,_⟩:=I.list h2
  have l1:=r1.length
  have l2:=r2.length
  by_cases hl:xs.length=ys.length
  ·rw [decide_eq_true hl,yU,l1] at q
   exact SeqAt.RcAt.lists (e:=e) p1.isList p2.isList (by simp;omega) (by omega) (λj h1 h2=>by
    obtain ⟨x,ex,rx⟩:=wO r1 h1
    obtain ⟨y,ey,ry⟩:=wO r2 h2
    exact eqv_eq I n (by show X.A.units + 1 + n < cLine;omega) (hi j x y ex ey) rx ry) _ _ _ _ ⟨.bl _,H,I,rfl,by simpa using q⟩
  ·rw [decide_eq_false hl,yJ] at q
   exact SeqAt.RcAt.lists_lengths p1.isList p2.isList (by simp;omega) (by omega) _ _ _ _ ⟨.bl _,H,I,rfl,q⟩
 ·obtain ⟨its,r1,p1,_⟩:=I.tuple h1
  obtain ⟨its2,r2,p2,_⟩:=I.tuple h2
  have l1:=r1.length
  have l2:=r2.length
  have key:((List.range (min its.toArray.size its2.toArray.size)).all e && its.toArray.size == its2.toArray.size)=(decide (xs.length=ys.length) && (List.range xs.length).all e):=by
   by_cases hl:xs.length=ys.length
   ·have e1:its2.length=its.length:=by omega
    rw [decide_eq_true hl,yU,l1];simp [e1]
   ·have e1:¬ its.length=its2.length:=by omega
    rw [decide_eq_false hl,yJ];simp [e1]
  rw [<-key] at q
  exact SeqAt.RcAt.tuples (e:=e) p1 p2 (by omega) (λj h1 h2=>by
   obtain ⟨x,ex,rx⟩:=wO r1 h1
   obtain ⟨y,ey,ry⟩:=wO r2 h2
   exact eqv_eq I n (by show X.A.units + 1 + n < cLine;omega) (hi j x y ex ey) rx ry) _ _ _ _ ⟨.bl _,H,I,rfl,q⟩
theorem op_neE (hu:X.A.units + 64 < cLine):OpR X (compareOp .NotEq) (rEqv X.K true):=by
 intro pins s σ H x y v u Q I rx ry h
 obtain ⟨n,a,c,xs,ys,e,b,hn,rfl,rfl,h,hb,hi,q⟩:=h
 cases rx;cases ry
 rw [if_pos rfl,hb] at q
 rcases h with ⟨h1,h2⟩ | ⟨h1,h2⟩
 ·obtain ⟨its,r1,p1,_⟩:=I.list h1
  obtain ⟨its2,r2,p2,_⟩:=I.list h2
  have l1:=r1.length
  have l2:=r2.length
  by_cases hl:xs.length=ys.length
  ·rw [decide_eq_true hl,yU,l1] at q
   exact SeqAt.RcNeAt.lists (e:=e) p1.isList p2.isList (by simp;omega) (by omega) (λj h1 h2=>by
    obtain ⟨x,ex,rx⟩:=wO r1 h1
    obtain ⟨y,ey,ry⟩:=wO r2 h2
    exact eqv_eq I n (by show X.A.units + 1 + n < cLine;omega) (hi j x y ex ey) rx ry) _ _ _ _ ⟨.bl _,H,I,rfl,by simpa using q⟩
  ·rw [decide_eq_false hl,yJ] at q
   exact SeqAt.RcNeAt.lists_lengths p1.isList p2.isList (by simp;omega) (by omega) _ _ _ _ ⟨.bl _,H,I,rfl,q⟩
 ·obtain ⟨its,r1,p1,_⟩:=I.tuple h1
  obtain ⟨its2,r2,p2,_⟩:=I.tuple h2
  have l1:=r1.length
  have l2:=r2.length
  have key:((List.range (min its.toArray.size its2.toArray.size)).all e && its.toArray.size == its2.toArray.size)=(decide (xs.length=ys.length) && (List.range xs.length).all e):=by
   by_cases hl:xs.length=ys.length
   ·have e1:its2.length=its.length:=by omega
    rw [decide_eq_true hl,yU,l1];simp [e1]
   ·have e1:¬ its.length=its2.length:=by omega
    rw [decide_eq_false hl,yJ];simp [e1]
  rw [<-key] at q
  exact SeqAt.RcNeAt.tuples (e:=e) p1 p2 (by omega) (λj h1 h2=>by
   obtain ⟨x,ex,rx⟩:=wO r1 h1
   obtain ⟨y,ey,ry⟩:=wO r2 h2
   exact eqv_eq I n (by show X.A.units + 1 + n < cLine;omega) (hi j x y ex ey) rx ry) _ _ _ _ ⟨.bl _,H,I,rfl,q⟩
end
theorem Eqv.rows {α:Type} [DecidableEq α] {f:α->V} (hf:∀ x,flatV (f x)=true) (he:∀ x y,eqV (f x) (f y)=decide (x=y)) {K:PySem.W.Frag}{H:Hp}{n:Nat}{a c:Addr}{xs ys:List α} (h:(H a=some (.lst (xs.map f))/\H c=some (.lst (ys.map f)))\/(H a=some (.tup (xs.map f))/\H c=some (.tup (ys.map f)))):Eqv K H (n + 1) (.ref a) (.ref c) (decide (xs=ys)):=by
 have fi:∀ x y,f x=f y->x=y:=λx y e=>by
  have:=he x y
  rw [e,he y y] at this
  simpa using this.symm
 have inj:∀ {l m:List α},l.map f=m.map f->l=m:=λ{l m} e=>List.map_inj_right (λx y=>fi x y) |>.mp e
 refine .inr (.inr ⟨a,c,xs.map f,ys.map f,λi=>decide (xs[i]?=ys[i]?),rfl,rfl,h.imp (λh=>⟨SqL.of h.1,SqL.of h.2⟩) (λh=>⟨SqT.of h.1,SqT.of h.2⟩),λe=>?_,?_,λi x y hx hy=>?_⟩)
 ·subst e
  rw [decide_eq_true_eq]
  rcases h with ⟨h1,h2⟩ | ⟨h1,h2⟩
  ·rw [h1] at h2
   injection h2 with h2;injection h2 with h2;exact inj h2
  ·rw [h1] at h2
   injection h2 with h2;injection h2 with h2;exact inj h2
 ·rw [zA,zA]
  by_cases hl:xs.length=ys.length
  ·rw [decide_eq_true hl,yU]
   symm
   refine all_range ?_
   simp only [decide_eq_true_eq]
   constructor
   ·intro h
    apply yP
    intro j
    by_cases hj:j < xs.length
    ·exact h j hj
    ·rw [za (by omega),za (by omega)]
   ·rintro rfl j _;rfl
  ·rw [decide_eq_false hl,yJ,decide_eq_false_iff_not]
   rintro rfl;exact hl rfl
 ·rw [zC] at hx hy
  cases e1:xs[i]? with
  | none=>rw [e1] at hx;cases hx
  | some p=>
   cases e2:ys[i]? with
   | none=>rw [e2] at hy;cases hy
   | some q=>
    rw [e1] at hx;rw [e2] at hy
    cases hx;cases hy
    have key:flatV (f p)=true/\flatV (f q)=true/\decide (some p=some q)=eqV (f p) (f q):=⟨hf p,hf q,by
     rw [he]
     simp⟩
    cases n with
    | zero=>exact .inr (by simpa only [e1,e2] using key)
    | succ n=>exact .inr (.inl (by simpa only [e1,e2] using key))
theorem eqV_int (x y:Int):eqV (.int x) (.int y)=decide (x=y):=rfl
end L2
namespace SmSet
open PySem
def adv (m:Nat) (p:SetTable.Probe):SetTable.Probe:=
 if p.more > 0 then { p with j:=p.j + 1,more:=p.more - 1 } else
 { p with j:=(SetTable.leap m p.i p.perturb).1,more:=SetTable.runEnd m (SetTable.leap m p.i p.perturb).1 - (SetTable.leap m p.i p.perturb).1,i:=(SetTable.leap m p.i p.perturb).1,perturb:=(SetTable.leap m p.i p.perturb).2 }
def run (m i u:Nat):SetTable.Probe:={ j:=i,more:=SetTable.runEnd m i - i,i,perturb:=u,dummy:=none }
def start (m:Nat) (h:Int):SetTable.Probe:=run m (SetTable.bits h % (m + 1)) (SetTable.bits h)
def ad (m:Nat):Nat->SetTable.Probe->SetTable.Probe
 | 0,p=>p
 | n + 1,p=>ad m n (adv m p)
def at' (m:Nat) (h:Int) (n:Nat):Nat:=(ad m n (start m h)).j
def runs (m:Nat):Nat->Nat->Nat->Nat×Nat
 | 0,i,u=>(i,u)
 | r + 1,i,u=>runs m r ((i * 5 + 1 + u / 32) % (m + 1)) (u / 32)
theorem runs_add {m:Nat}:∀ (a b i u:Nat),runs m (a + b) i u=runs m b (runs m a i u).1 (runs m a i u).2
 | 0,b,i,u=>by rw [Nat.zero_add];rfl
 | a + 1,b,i,u=>by rw [Nat.succ_add];exact runs_add a b _ _
theorem runs_perturb {m:Nat}:∀ (r i u:Nat),(runs m r i u).2=u / 32 ^ r
 | 0,i,u=>by simp [runs]
 | r + 1,i,u=>by
  show (runs m r _ (u / 32)).2=_
  rw [runs_perturb r,Nat.div_div_eq_div_mul,Nat.pow_succ,Nat.mul_comm]
theorem runs_small {m:Nat}:∀ (r i u:Nat),i<=m->(runs m r i u).1<=m
 | 0,i,u,h=>h
 | r + 1,i,u,h=>runs_small r _ _ (Nat.lt_succ_iff.mp (Nat.mod_lt _ (by omega)))
def f5 (m:Nat):Nat->Nat->Nat
 | 0,i=>i
 | s + 1,i=>f5 m s ((i * 5 + 1) % (m + 1))
theorem runs_f5 {m:Nat}:∀ (s i:Nat),(runs m s i 0).1=f5 m s i
 | 0,i=>rfl
 | s + 1,i=>by
  show (runs m s ((i * 5 + 1 + 0 / 32) % (m + 1)) (0 / 32)).1=f5 m s ((i * 5 + 1) % (m + 1))
  rw [Nat.zero_div,Nat.add_zero]
  exact runs_f5 s _
theorem f5_add {m:Nat}:∀ (a b i:Nat),f5 m (a + b) i=f5 m b (f5 m a i)
 | 0,b,i=>by rw [Nat.zero_add];rfl
 | a + 1,b,i=>by rw [Nat.succ_add];exact f5_add a b _
def bitsOf (m:Nat):Nat->Nat->Nat->Nat
 | 0,_,acc=>acc
 | s + 1,i,acc=>bitsOf m s ((i * 5 + 1) % (m + 1)) (acc ||| (2 ^ i))
theorem bitsOf_spec {m j:Nat}:∀ (s i acc:Nat),(bitsOf m s i acc).testBit j=true->acc.testBit j=true\/∃ a,a < s/\f5 m a i=j
 | 0,i,acc,h=>.inl h
 | s + 1,i,acc,h=>by
  rcases bitsOf_spec s _ _ h with h | ⟨a,ha,e⟩
  ·rw [Nat.testBit_or,Bool.or_eq_true] at h
   rcases h with h | h
   ·exact .inl h
   ·rw [Nat.testBit_two_pow] at h
    exact .inr ⟨0,by omega,of_decide_eq_true h⟩
  ·exact .inr ⟨a + 1,by omega,e⟩
def Mask (m:Nat):Prop:=m=7\/m=31\/m=127\/m=511\/m=2047\/m=8191
theorem cover0 {m:Nat} (hm:Mask m):f5 m (m + 1) 0=0/\∀ j,j<=m->∃ a,a<=m/\f5 m a 0=j:=by
 have key:f5 m (m + 1) 0=0/\bitsOf m (m + 1) 0 0=2 ^ (m + 1) - 1:=by
  rcases hm with rfl | rfl | rfl | rfl | rfl | rfl <;> constructor <;> decide +kernel
 refine ⟨key.1,λj hj=>?_⟩
 have:(bitsOf m (m + 1) 0 0).testBit j=true:=by
  rw [key.2,Nat.testBit_two_pow_sub_one]
  exact decide_eq_true (by omega)
 rcases bitsOf_spec _ _ _ this with h | ⟨a,ha,e⟩
 ·simp at h
 ·exact ⟨a,by omega,e⟩
theorem cover {m i j:Nat} (hm:Mask m) (hi:i<=m) (hj:j<=m):∃ s,s<=m/\f5 m s i=j:=by
 obtain ⟨z,all⟩:=cover0 hm
 obtain ⟨a,ha,rfl⟩:=all i hi
 obtain ⟨b,hb,rfl⟩:=all j hj
 by_cases c:a<=b
 ·exact ⟨b - a,by omega,by rw [<-f5_add];congr 1;omega⟩
 ·refine ⟨b + (m + 1) - a,by omega,?_⟩
  rw [<-f5_add,show a + (b + (m + 1) - a)=(m + 1) + b from by omega,f5_add,z]
theorem reach {m i u j:Nat} (hm:Mask m) (hi:i<=m) (hu:u < 2 ^ 64) (hj:j<=m):∃ r,r<=m + 13/\(runs m r i u).1=j:=by
 have p0:(runs m 13 i u).2=0:=by
  rw [runs_perturb]
  exact Nat.div_eq_of_lt (zU hu (by decide))
 obtain ⟨s,hs,e⟩:=cover hm (runs_small 13 i u hi) hj
 refine ⟨13 + s,by omega,?_⟩
 rw [runs_add,p0,runs_f5,e]
theorem least {P:Nat->Prop}:∀ n,P n->∃ k,k<=n/\P k/\∀ i,i < k->¬ P i:=by
 intro n
 induction n using Nat.strongRecOn with
 | _ n ih=>
  intro h
  by_cases c:∃ i,i < n/\P i
  ·obtain ⟨i,hi,pi⟩:=c
   obtain ⟨k,hk,pk,al⟩:=ih i hi pi
   exact ⟨k,by omega,pk,al⟩
  ·exact ⟨n,zK _,h,λi hi pi=>c ⟨i,hi,pi⟩⟩
end SmSet
namespace L2
open PySem PySem.Spec PyProof.Rows
section
variable {K:PySem.W.Frag}{a:Addr}{xs:List V}{n:Nat}{caps:List Nat}{g:TG}{tc:TT}{te:TE}{σ:St}{H:Hp}{Qf:Addr->Hp->List V->Prop}
end
end L2
namespace Sm
open PySem L2 SmSort
abbrev Mk:=Nat->Nat
end Sm
namespace Sm
open PySem L2 SmSort
structure L4 where
 s:Nat
 w:Nat
 a:Int
 z:Int
end Sm
namespace Sm
open PySem L2 SmSort
end Sm
namespace L2
open PySem PySem.Spec PyProof.Rows
section
variable {P:Program}{w:World}{H H':Hp}{h:Heap}{a:Addr}{o:HO}
theorem ObjOk.has (x:ObjOk P w H h a o):∃ u,h.get? a=some u:=by
 cases o with
 | lst xs=>obtain ⟨_,_,_,_,e⟩:=x;exact ⟨_,e⟩
 | tup xs=>obtain ⟨_,_,_,u,e,_⟩:=x;exact ⟨u,e⟩
 | dK kvs=>obtain ⟨_,_,_,_,u,_,_,e,_⟩:=x;exact ⟨u,e⟩
 | dT kvs=>obtain ⟨_,_,_,_,u,_,_,e,_⟩:=x;exact ⟨u,e⟩
 | set S n=>obtain ⟨u,_,_,_,e,_⟩:=x;exact ⟨u,e⟩
 | ins C dx fs=>obtain ⟨_,_,_,e,_⟩:=x;exact ⟨_,e⟩
 | own y=>exact x
 | xd fs=>obtain ⟨_,⟨u,_,_,e,_⟩,_⟩:=x;exact ⟨u,e⟩
 | rng lo hi=>obtain ⟨_,_,_,e⟩:=x;exact ⟨_,e⟩
 | frz ob u=>obtain ⟨e,_⟩:=x;exact ⟨_,e⟩
 | tbl ps=>exact ⟨_,(show h.get? a=some _ from x)⟩
 | met f y=>exact ⟨_,(show h.get? a=some _ from x)⟩
 | ext φ=>exact x.2.1
end
structure XL (P:Program) (w:World) (l:List Env) (H:Hp) (s:Shared) (H':Hp) (B:Heap) (s':Shared):Prop where
 os:s'.os=s.os
 bare:AllBare s'.gens
 keepB:∀ b o,s.heap.get? b=some o->H b=none->b ∉ frs l->B.get? b=some o
 allB:∀ b o,s.heap.get? b=some o->b ∉ frs l->∃ o',B.get? b=some o'
 trkB:∀ b u,H' b=some u->∃ o,B.get? b=some o
 frm:∀ b o,s.heap.get? b=some o->b∈frs l->∃ sl,s'.heap.get? b=some { o with slots:=sl }
 free:∀ b o,s.heap.get? b=some o->H b=none->H' b=none
 tups:∀ b xs,H b=some (.tup xs)->H' b=some (.tup xs)
 frzs:∀ b o u,H b=some (.frz o u)->H' b=some (.frz o u)
 tbls:∀ b ps,H b=some (.tbl ps)->∃ more,H' b=some (.tbl (ps++more))
 hok:HOk P w H' s'.heap
 stays:B.StaysIn s'.heap
section
variable {P:Program}{w:World}{l:List Env}{H H':Hp}{s s':Shared}{B base:Heap}
theorem XL.un (x:XL P w l H s H' B s'):Un (frs l) [] H H' s.heap s'.heap where
 keep:=λb o e n hb _=>x.stays _ _ (x.keepB b o e n hb)
 slot:=λb o e n hb _=>x.frm b o e hb
 free:=λb o e n _=>x.free b o e n
 there:=λb o e _=>by
  by_cases hb:b∈frs l
  ·obtain ⟨sl,q⟩:=x.frm b o e hb;exact ⟨_,q⟩
  ·obtain ⟨o',q⟩:=x.allB b o e hb;exact ⟨o',x.stays _ _ q⟩
 tups:=x.tups
 frzs:=x.frzs
 tbls:=x.tbls
theorem XL.step {h2:Heap} (x:XL P w l H s H' B s') (ff:s.heap.FunFrames base l) (k:B.StaysIn h2) (u:s'.heap.UpToSlots h2):XL P w l H s H' B { s' with heap:=h2 } where
 os:=x.os
 bare:=x.bare
 keepB:=x.keepB
 allB:=x.allB
 trkB:=x.trkB
 frm:=λb o e hb=>by
  obtain ⟨sl,q⟩:=x.frm b o e hb
  obtain ⟨_,o1,e1,nf⟩:=ff.mem hb
  rw [e] at e1;cases e1
  obtain ⟨sl2,q2⟩:=u b _ q nf
  exact ⟨sl2,q2⟩
 free:=x.free
 tups:=x.tups
 frzs:=x.frzs
 tbls:=x.tbls
 hok:=λa o e=>by
  have st:∀ b v,H' b=some v->∀ ob,s'.heap.get? b=some ob->h2.get? b=some ob:=λb v hv ob q=>by
   obtain ⟨o1,e1⟩:=x.trkB b v hv
   have z:=x.stays _ _ e1
   rw [q] at z;cases z
   exact k _ _ e1
  refine (x.hok a o e).stay (λb v hb q=>?_) (λ_ q=>q) λ_ _ q=>q
  rcases hb with rfl | hb
  ·exact st _ _ e _ q
  ·exact st _ _ hb _ q
 stays:=k
end
def TrD (h B:Heap) (e:Addr) (cls fl:Value):Prop:=∃ oe vs T oT ts,h.get? e=some oe/\oe.cls=cls/\oe.dict=none/\oe.data=.fields vs/\vs[1]?=some (Value.ref T)/\B.get? T=none/\T≠e/\h.get? T=some oT/\oT.data=.fields ts/\ts[3]?=some fl
def MdD (h:Heap) (e:Addr) (cls:Value):Prop:=∃ oe vs,h.get? e=some oe/\oe.cls=cls/\oe.dict=none/\oe.data=.fields vs/\vs[1]?=some Value.none
def CXE (P:Program) (w:World):CXT:=λl H s E e s'=>∃ a cls H' B,e=Value.ref a/\XL P w l H s H' B s'/\B.get? a=none/\s'.heap.FunFrames B l/\TrD s'.heap B a cls Value.none/\E cls none H'
theorem passN {P:Program}{w:World}{X:Cx}:Passes (CXE P w) X E0:=λ_ _ _ _ _ _ _ ⟨_,_,_,_,_,_,_,_,_,q⟩=>q.elim
def FlyS (B:Heap) (env:Env) (outer:List Env) (a:Addr) (cls:Value) (h:Heap):Prop:=
 B.get? a=none/\h.FunFrames B (env::outer)/\(MdD h a cls\/TrD h B a cls Value.none\/∃ L,env.frame=some L/\TrD h B a cls (rawInt L))
def WX (X:Cx) (E:XK):Value->Shared->Prop:=λe s'=>(X.A.frames=some (X.env::X.outer)/\X.env.frame=some X.env.locals/\X.s₀.heap.FunFrames X.base X.outer)/\∃ a cls H' B,e=Value.ref a/\XL X.prog X.w X.outer X.H₀ X.s₀ H' B s'/\FlyS B X.env X.outer a cls s'.heap/\E cls none H'
abbrev Cx.exc (X:Cx) (E:XK):Cx:=X.wish (WX X E)
theorem rec_far {h B:Heap}{T:Addr}{oT:Obj}{ts:Array Value} (hT:h.get? T=some oT) (hdT:oT.data=.fields ts):∀ b o,h.get? b=some o->(∀ vs,o.data≠.fields vs)->b≠T:=λb o e nf z=>by
 subst z;rw [hT] at e;cases e;exact nf _ hdT
theorem laid_entry {g B:Heap}{e:Addr}{oe:Obj}{vs ts:Array Value}{fl:Value} (he:g.get? e=some oe) (hdc:oe.dict=none) (hd:oe.data=.fields vs) (sz:1 < vs.size) (kb:B.StaysIn g) (h3:ts[3]?=some fl) :
  (∀ b o,b≠e->g.get? b=some o->((g.push { cls:=.type "traceback", dict:=none,data:=.fields ts }).update e (Obj.mapFields (·.setIfInBounds 1 (Value.ref g.objs.size)))).get? b=some o) /\
  TrD ((g.push { cls:=.type "traceback", dict:=none,data:=.fields ts }).update e (Obj.mapFields (·.setIfInBounds 1 (Value.ref g.objs.size)))) B e oe.cls fl:=by
 have he2:=Heap.get?_push_of_some (h:=g) { cls:=.type "traceback", dict:=none,data:=.fields ts } he
 have ne:g.objs.size≠e:=λz=>absurd (Heap.lt_size he) (by rw [z];exact zu _)
 have hd3:=Obj.data_mapFields hd (·.setIfInBounds 1 (Value.ref g.objs.size))
 refine ⟨λb o nb eb=>?_,_,_,g.objs.size,{ cls:=.type "traceback", dict:=none,data:=.fields ts },ts,Heap.get?_update_self _ he2 (Obj.isFreed_of_fields hd3),Obj.cls_mapFields _ _,?_,hd3,by simp [sz],kb.fresh,ne,?_,rfl,h3⟩
 ·rw [Heap.get?_update_other _ _ (Ne.symm nb)];exact Heap.get?_push_of_some _ eb
 ·obtain ⟨c0,d0,dt0,sl0⟩:=oe
  cases dt0 <;> first | exact hdc | cases hd
 ·rw [Heap.get?_update_other _ _ (Ne.symm ne)];exact Heap.get?_push_size g rfl
section
variable {M:Model}{A:Around}{Ex:Value->Shared->Prop}{s:Shared}{B:Heap}{env:Env}{outer:List Env}{a L:Addr}{cls:Value}{Q:Unit->Shared->Prop}
theorem entry_fly {oe:Obj}{vs:Array Value}{head:Value}{hn:Bool} (hfr:A.frames=some (env::outer)) (hf:env.frame=some L) (hk:B.StaysIn s.heap) (hl:s.heap.FunFrames B (env::outer)) (nb:B.get? a=none) (he:s.heap.get? a=some oe) (hdc:oe.dict=none) (hd:oe.data=.fields vs) (sz:1 < vs.size)
  (q:∀ h',B.StaysIn h'->s.heap.UpToSlots h'->h'.FunFrames B (env::outer)->TrD h' B a oe.cls (rawInt L)->Q () { s with heap:=h' }) :
  wpAny M A (do let v <- frameOf env;let pl <- entryPlaceOf L hn;let b <- EntryCells.newEntry head v .none (rawInt L) .none pl;setField (.ref a) 1 b) Q Ex s:=by
 have nf:a ∉ (env::outer).filterMap (·.frame):=λhm=>by
  obtain ⟨_,o,ho,z⟩:=hl.mem hm
  rw [he] at ho;cases ho;exact z vs hd
 refine wpAny_bind (wpAny_frameOf_fun hfr hl hf λg sl=>wpAny_bind (wpAny_entryPlaceOf λpl ip=>?_))
 unfold EntryCells.newEntry newFields
 refine wpAny_bind (wpAny_newObj_type ?_ (ip.sizeOk5 _ _ _ _ _))
 have eg:g.get? a=some oe:=(sl.2.1 a nf).trans he
 have kg:B.StaysIn g:=λb o e=>(sl.2.1 b λhm=>by rw [(hl.mem hm).1] at e;cases e).trans (hk b o e)
 refine wpAny_setField (Heap.get?_push_of_some _ eg) hd sz ?_
 have y:=laid_entry (B:=B) (fl:=rawInt L) (ts:=([head,Value.ref L,Value.none,rawInt L,Value.none]++(if pl.isEmpty then List.replicate 6 Value.none else pl)).toArray) eg hdc hd sz kg (by first | (simp;done) | (rcases ip with rfl | ⟨_,_,_,_,_,_,_,rfl⟩ <;> simp))
 have far:=rec_far (B:=B) he hd
 refine q _ (λb o e=>y.1 b o (λz=>by rw [z,nb] at e;cases e) (kg b o e)) (λb o e nf=>?_) (hl.of_keeps λb o e nf=>?_) y.2
 ·obtain ⟨s2,e2⟩:=sl.2.2 b o e
  exact ⟨s2,y.1 b _ (far b o e nf) e2⟩
 ·obtain ⟨s2,e2⟩:=sl.2.2 b o e
  exact ⟨_,y.1 b _ (far b o e nf) e2,rfl⟩
theorem set_entry {B:Heap}{h:Heap} {cls fl fl2:Value}{oe oT:Obj}{vs ts:Array Value}{T:Addr} (he:h.get? a=some oe) (hc:oe.cls=cls) (hdc:oe.dict=none) (hd:oe.data=.fields vs) (h1:vs[1]?=some (Value.ref T)) (hnT:B.get? T=none) (hTe:T≠a) (hT:h.get? T=some oT) (hdT:oT.data=.fields ts) (sz:3 < ts.size) (hk:B.StaysIn h) (hl:h.FunFrames B (env::outer)) :
  B.StaysIn (h.update T (Obj.mapFields (·.setIfInBounds 3 fl2)))/\h.UpToSlots (h.update T (Obj.mapFields (·.setIfInBounds 3 fl2)))/\(h.update T (Obj.mapFields (·.setIfInBounds 3 fl2))).FunFrames B (env::outer)/\TrD (h.update T (Obj.mapFields (·.setIfInBounds 3 fl2))) B a cls fl2/\(h.update T (Obj.mapFields (·.setIfInBounds 3 fl2))).get? a=some oe:=by
 have far:∀ b,b≠T->(h.update T (Obj.mapFields (·.setIfInBounds 3 fl2))).get? b=h.get? b:=λb hb=>Heap.get?_update_other _ _ (Ne.symm hb)
 have nrec:=rec_far (B:=B) hT hdT
 have ea:=(far a (Ne.symm hTe)).trans he
 exact ⟨λb o e=>(far b (λz=>by subst z;rw [hnT] at e;cases e)).trans (hk _ _ e),λb o e nf=>⟨o.slots,(far b (nrec b o e nf)).trans e⟩,hl.of_keeps λb o e nf=>⟨o,(far b (nrec b o e nf)).trans e,rfl⟩,
  ⟨oe,vs,T,_,_,ea,hc,hdc,hd,h1,hnT,hTe,Heap.get?_update_self _ hT (Obj.isFreed_of_fields (Obj.data_mapFields hdT _)),Obj.data_mapFields hdT _,by simp [sz]⟩,ea⟩
theorem note_fly (hfr:A.frames=some (env::outer)) (hf:env.frame=some L) (hk:B.StaysIn s.heap) (x:FlyS B env outer a cls s.heap)
  (q:∀ h',B.StaysIn h'->s.heap.UpToSlots h'->h'.FunFrames B (env::outer)->TrD h' B a cls (rawInt L)->Q () { s with heap:=h' }):wpAny M A (noteFrame (.ref a) env) Q Ex s:=by
 obtain ⟨hn,hl,⟨oe,vs,he,hc,hdc,hd,h1⟩ | ⟨oe,vs,T,oT,ts,he,hc,hdc,hd,h1,hnT,hTe,hT,hdT,h3⟩ | ⟨L',hL,ht⟩⟩:=x
 ·subst hc
  unfold noteFrame
  rw [hf]
  dsimp only
  refine wpAny_bind (wpAny_field (x:=_) he hd h1 ?_)
  rw [if_neg (by decide)]
  exact entry_fly hfr hf hk hl hn he hdc hd (Array.getElem?_eq_some_iff.mp h1).1 q
 ·have sz:3 < ts.size:=(Array.getElem?_eq_some_iff.mp h3).1
  obtain ⟨k2,u2,l2,_,e2⟩:=set_entry (fl:=Value.none) (fl2:=Value.none) he hc hdc hd h1 hnT hTe hT hdT sz hk hl
  unfold noteFrame
  rw [hf]
  dsimp only
  refine wpAny_bind (wpAny_field (x:=_) he hd h1 ?_)
  rw [if_pos (by simp)]
  refine wpAny_bind (wpAny_field (x:=_) hT hdT h3 ?_)
  rw [if_neg (by simp [rawInt])]
  refine wpAny_bind (wpAny_setField hT hdT sz ?_)
  subst hc
  exact entry_fly hfr hf k2 l2 hn e2 hdc hd (Array.getElem?_eq_some_iff.mp h1).1 λh' y1 y2 y3 y4=>q h' y1 (u2.trans y2) y3 y4
 ·cases hL.symm.trans hf
  obtain ⟨oe,vs,T,oT,ts,he,hc,hdc,hd,h1,hnT,hTe,hT,hdT,h3⟩:=id ht
  unfold noteFrame
  rw [hf]
  dsimp only
  refine wpAny_bind (wpAny_field (x:=_) he hd h1 ?_)
  rw [if_pos (by simp)]
  refine wpAny_bind (wpAny_field (x:=_) hT hdT h3 ?_)
  rw [if_pos (by simp)]
  exact wpAny_pure (q s.heap hk (Heap.UpToSlots.refl _) hl ht)
theorem mark_fly {fl:Value}{fo:Option Addr} (hk:B.StaysIn s.heap) (hl:s.heap.FunFrames B (env::outer)) (ht:TrD s.heap B a cls fl)
  (q:∀ h',B.StaysIn h'->s.heap.UpToSlots h'->h'.FunFrames B (env::outer)->TrD h' B a cls (fo.elim Value.none λf=>rawInt f)->Q () { s with heap:=h' }):wpAny M A (setFlight (.ref a) fo) Q Ex s:=by
 obtain ⟨oe,vs,T,oT,ts,he,hc,hdc,hd,h1,hnT,hTe,hT,hdT,h3⟩:=ht
 have sz:3 < ts.size:=(Array.getElem?_eq_some_iff.mp h3).1
 obtain ⟨k2,u2,l2,t2,e2⟩:=set_entry (fl:=fl) (fl2:=fo.elim Value.none λf=>rawInt f) he hc hdc hd h1 hnT hTe hT hdT sz hk hl
 unfold setFlight
 refine wpAny_bind (wpAny_field (x:=_) he hd h1 ?_)
 rw [if_pos (by simp)]
 exact wpAny_setField hT hdT sz (q _ k2 u2 l2 t2)
end
section
variable {X:Cx}{E:XK}
theorem wx_leaves {P:Program}{w:World}{A:Around}{env:Env}{outer:List Env}{H:Hp}{s s':Shared}{base:Heap}{L:Addr}{e:Value}{Ex:Value->Shared->Prop} (hst:A.frames=some (env::outer)) (hf:env.frame=some L) (ff:s.heap.FunFrames base outer)
  (h:∃ a cls H' B,e=Value.ref a/\XL P w outer H s H' B s'/\FlyS B env outer a cls s'.heap/\E cls none H'):wpAny (model P w) A (leaving env e) (λ_ s''=>CXE P w outer H s E e s'') Ex s':=by
 obtain ⟨a,cls,H',B,rfl,x,y,q⟩:=h
 unfold leaving
 refine wpAny_bind (note_fly hst hf x.stays y λh1 k1 u1 l1 t1=>?_)
 refine mark_fly k1 l1 t1 λh2 k2 u2 l2 t2=>?_
 exact ⟨a,cls,H',B,rfl,(x.step ff k1 u1).step ff k2 u2,y.1,l2.2.2,t2,q⟩
theorem pass_on {E':XK} (hs:X.stack=X.env::X.outer) (hf:X.env.frame=some X.env.locals) (hex:X.ex=[]) (hE:∀ cls H',E' cls none H'->E cls none H'):Passes (CXE X.prog X.w) (X.exc E) E':=by
  rintro pins σ H s e s' I0 ⟨a,cls,H',B,rfl,x,f2,f3,f4,q⟩
  have I:=I0.unwish
  have nex:∀ b,b ∉ X.ex:=λb hb=>by rw [hex] at hb;cases hb
  have nst:∀ b o,X.s₀.heap.get? b=some o->b ∉ X.fs->b ∉ frs X.stack:=λb o e nb hb=>by
    rcases zV.mp (I.stkSub b hb) with z | z
    · subst z;exact absurd (zU (Heap.lt_size e) I.ok.above) (zu _)
    · exact nb z
  have inst:∀ b,b∈X.fs->b∈frs X.stack:=λb hb=>by
    rw [hs];unfold frs;rw [List.filterMap_cons]
    split
    · exact hb
    · exact zn _ hb
  rw [show (X.exc E).stack=X.env::X.outer from hs] at f3
  exact ⟨⟨by rw [<-hs];exact I.ok.frames,hf,I.ok.funs⟩,a,cls,H',B,rfl,
    { os:=x.os.trans I.os
      bare:=x.bare
      keepB:=λb o e n hb=>x.keepB b o (I.base.keep b o e n hb (nex b)) (I.base.free b o e n (nex b)) (nst b o e hb)
      allB:=λb o e hb=>by
        obtain ⟨o1,e1⟩:=I.base.there b o e (nex b)
        exact x.allB b o1 e1 (nst b o e hb)
      trkB:=x.trkB
      frm:=λb o e hb=>by
        obtain ⟨sl,e1⟩:=I.base.slot b o e (I.ok.frf b hb) hb (nex b)
        obtain ⟨sl2,e2⟩:=x.frm b _ e1 (inst b hb)
        exact ⟨sl2,e2⟩
      free:=λb o e n=>by
        obtain ⟨o1,e1⟩:=I.base.there b o e (nex b)
        exact x.free b o1 e1 (I.base.free b o e n (nex b))
      tups:=λb xs e=>x.tups b xs (I.base.tups b xs e)
      frzs:=λb o u e=>x.frzs b o u (I.base.frzs b o u e)
      tbls:=λb ps e=>by
        obtain ⟨m1,e1⟩:=I.base.tbls b ps e
        obtain ⟨m2,e2⟩:=x.tbls b _ e1
        exact ⟨m1++m2,by rw [e2,Array.append_assoc]⟩
      hok:=x.hok
      stays:=x.stays },⟨f2,f3,.inr (.inl f4)⟩,hE _ _ q⟩
theorem raise_wx {pins:List (Addr×Obj)}{σ:St}{H:Hp}{s:Shared}{h':Heap}{e:Addr}{cls:Value}{args:List Value} (hs:X.stack=X.env::X.outer) (hf:X.env.frame=some X.env.locals) (hex:X.ex=[]) (I:Inv X pins σ H s) (hx:Heap.MadeExcOf s.heap h' e cls args) (q:E cls none H):WX X E (.ref e) { s with heap:=h' }:=by
  have nex:∀ b,b ∉ X.ex:=λb hb=>by rw [hex] at hb;cases hb
  have nst:∀ b o,X.s₀.heap.get? b=some o->b ∉ X.fs->b ∉ frs X.stack:=λb o e nb hb=>by
    rcases zV.mp (I.stkSub b hb) with z | z
    · subst z;exact absurd (zU (Heap.lt_size e) I.ok.above) (zu _)
    · exact nb z
  obtain ⟨t,he,hnt,ht⟩:=hx.there
  have hin:∀ env∈X.stack,∀ b,env.frame=some b->b∈frs X.stack:=λenv hm b hb=>yn.mpr ⟨env,hm,hb⟩
  have fr:=(PySem.W.funFrames_hide I.stack hin).of_keeps (h':=h') λb o e _=>⟨o,hx.keeps b o e,rfl⟩
  rw [hs] at fr
  refine ⟨⟨by rw [<-hs];exact I.ok.frames,hf,I.ok.funs⟩,e,cls,H,PySem.W.hideAll s.heap (frs X.stack),rfl,
    { os:=I.os
      bare:=I.bare
      keepB:=λb o e n hb=>PySem.W.hideAll_get _ (I.base.keep b o e n hb (nex b)) (nst b o e hb)
      allB:=λb o e hb=>by
        obtain ⟨o1,e1⟩:=I.base.there b o e (nex b)
        exact ⟨o1,PySem.W.hideAll_get _ e1 (nst b o e hb)⟩
      trkB:=λb u hu=>by
        obtain ⟨o1,e1⟩:=(I.hok b u hu).has
        exact ⟨o1,PySem.W.hideAll_get _ e1 λhb=>by rw [I.stkFree b hb] at hu;cases hu⟩
      frm:=λb o e hb=>by
        obtain ⟨sl,e1⟩:=I.base.slot b o e (I.ok.frf b hb) hb (nex b)
        exact ⟨sl,hx.keeps _ _ e1⟩
      free:=λb o e n=>I.base.free b o e n (nex b)
      tups:=I.base.tups
      frzs:=I.base.frzs
      tbls:=I.base.tbls
      hok:=I.hok.kept hx.keeps
      stays:=λb o e=>hx.keeps _ _ (PySem.W.of_hideAll _ e) },⟨?_,by rw [<-hs];rw [hs];exact fr,.inl ⟨_,_,he,rfl,rfl,rfl,rfl⟩⟩,q⟩
  cases z:(PySem.W.hideAll s.heap (frs X.stack)).get? e with
  | none=>rfl
  | some o=>have:=PySem.W.of_hideAll _ z;rw [hx.new] at this;cases this
end
end L2
namespace L2
open PySem PySem.Spec PyProof.Rows
abbrev veB:List Value:=[.type "ValueError", .type "Exception", .type "BaseException", .type "object"]
def xclsB (K:PySem.W.Frag) (C:Addr):Bool:=
 PySem.W.excIn K C veB "ValueError.__new__" && (zL K (.ref C) "__getattribute__" == some (some (.builtin "BaseException.__getattribute__"))) && (zL K (.ref C) "__getattr__" == some none) &&
 (zL K (.ref C) "__class__" == some (some (.builtin "object.__class__"))) && (yt K C (.type "object") == some true) && (yt K C (.type "BaseException") == some true) && (PySem.W.clsIn K C).isSome &&
 (yw K (.builtin "object.__class__") "__get__" == some (some (.builtin "getset_descriptor.__get__"))) && (xE K (.builtin "object.__class__") == some true)
structure XCls (K:PySem.W.Frag) (C:Addr):Prop where
 exc:PySem.W.excIn K C veB "ValueError.__new__" = true
 ga:zL K (.ref C) "__getattribute__" = some (some (.builtin "BaseException.__getattribute__"))
 gn:zL K (.ref C) "__getattr__" = some none
 cl:zL K (.ref C) "__class__" = some (some (.builtin "object.__class__"))
 ob:yt K C (.type "object")=some true
 bx:yt K C (.type "BaseException")=some true
 ic:(PySem.W.clsIn K C).isSome=true
 sp:yw K (.builtin "object.__class__") "__get__" = some (some (.builtin "getset_descriptor.__get__"))
 tk:xE K (.builtin "object.__class__")=some true
theorem XCls.of {K:PySem.W.Frag}{C:Addr} (h:xclsB K C=true):XCls K C:=by
 simp only [xclsB,zh,beq_iff_eq] at h
 obtain ⟨⟨⟨⟨⟨⟨⟨⟨h1,h2⟩,h3⟩,h4⟩,h5⟩,h6⟩,h7⟩,h8⟩,h9⟩:=h
 exact ⟨h1,h2,h3,h4,h5,h6,h7,h8,h9⟩
theorem XCls.find {K:PySem.W.Frag}{C:Addr} (c:XCls K C):PySem.W.findObj K C none "__class__" = some (.bind (.builtin "getset_descriptor.__get__") (.builtin "object.__class__")):=by
 obtain ⟨cd,e⟩:=zp.mp c.ic
 unfold PySem.W.findObj
 rw [e,Option.bind_some,c.cl,Option.bind_some]
 simp [c.sp,c.tk]
section
open PySem.W
variable {prog:Program}{w:World}{A:Around}{E:Value->Shared->Prop}{s:Shared}{K:PySem.W.Frag}{x C:Addr}{ox:Obj}{Q:Option Value->Shared->Prop}
theorem exc_class (X:K.In s.heap) (I:PySem.W.InstAt s.heap x ox C none) (c:XCls K C) (h:Q (some (.ref C)) { s with toks:=s.toks + 1 }):wpAny (model prog w) A (getAttr? (.ref x) "__class__") Q E s:=by
 obtain ⟨hh,g,d,t,os⟩:=s
 have M0:=I.type (M:=model prog w)
 have M1:=looks_findIn (M:=model prog w) X c.ga
 have M2:=looks_findIn (M:=model prog w) X c.gn
 have M3:=looks_find (M:=model prog w) X I c.find
 have M4:=looks_mroIn (M:=model prog w) X c.bx
 have ne:(Value.builtin "BaseException.__getattribute__" == Value.builtin "object.__getattribute__")=false:=by decide +kernel
 unfold getAttr? getAttrBy? getAttrBy
 refine wpAny_bind (wpAny_mkText (wpAny_bind (wpAny_attempt (wpAny_holding (wpAny_bind (M0.at (wpAny_bind (M1.at ?_))))))))
 dsimp only
 rw [if_neg (by rw [ne,Bool.and_false];exact zG)]
 unfold getAttrByItsOwn hookBefore
 refine wpAny_bind (M2.at (wpAny_bind (wpAny_attempt (wpAny_holding ?_))))
 unfold callGetattribute
 rw [if_neg (by simp [onTheHeap])]
 unfold boundAndCalled
 refine wpAny_bind (wpAny_of_eq (PySem.F.excAttr_ValueError.ga.bind (.ref x)) ?_)
 refine wpAny_call (codeAny_call_builtin PySem.F.excAttr_ValueError.ga.plain PySem.F.entry_bexc_ga ?_)
 have kd:builtinKind "BaseException.__getattribute__" = some .slot:=by decide +kernel
 have sp:splitId "BaseException.__getattribute__" = some ("BaseException", "__getattribute__"):=by decide +kernel
 have ao:=PySem.F.args_bexc_ga (.ref x) (.str "__class__" t)
 have LI:Looks (model prog w) hh (isInstance (.ref x) (.type "BaseException")) true:=M0.andThen M4
 simp only [checkBuiltinCall,kd,sp]
 refine wpAny_bind (LI.at ?_)
 rw [if_neg (by decide)]
 refine wpAny_of_eq (a:=()) ao ?_
 unfold Builtin.«object.__getattribute__»
 repeat (first | refine wpAny_bind (M0.at ?_) | refine wpAny_bind (M3.at ?_) | wp_step)
 refine class_get (ox:=ox) (od:=none) X I c.ob ?_
 exact wpAny_pure (wpAny_pure (wpAny_pure h))
theorem kitx_exc (c:XCls K C):KitX K (.ref x) (.ref C) (λh=>∃ ox,PySem.W.InstAt h x ox C none) where
 ty:=λ_ _ _ ⟨_,I⟩=>I.type
 it:=λ_ _ X _=>by
  have q:=c.ic
  unfold clsIn at q
  split at q
  ·rename_i lk
   intro A' Q' E' s' kp qq
   unfold isType loadHead
   exact wpAny_bind (wpAny_loadPart (kp _ _ (X _ _ lk)) (wpAny_pure qq))
  ·cases q
 ne:=λh tp dd its n sl X ht=>by
  have q:=c.ic
  unfold clsIn at q
  split at q
  ·rename_i lk
   refine Bool.eq_false_iff.mpr λz=>?_
   obtain rfl:C=tp:=Value.ref.inj (beq_iff_eq.mp z)
   cases (X _ _ lk).symm.trans ht
  ·cases q
 ca:=λX ⟨_,I⟩ k=>exc_class X I c k
end
def excO (x C:Addr):HO:=.ext λh=>∃ ox,PySem.W.InstAt h x ox C none
def vv:V->Value
 | .ref a=>.ref a
 | .ty n=>.type n
 | _=>.none
def isCls:V->Bool
 | .ref _=>true
 | .ty _=>true
 | _=>false
theorem vv_of {x:V}{u:Value} (h:isCls x=true) (r:RelV x u):u=vv x:=by
 cases x <;> first | exact r | cases h
theorem vv_all:∀ {xs:List V}{us:List Value},xs.all isCls=true->Vals xs us->us=xs.map vv
 | [],_,_,.nil=>rfl
 | x::xs,_,h,.cons r t=>by
  rw [List.all_cons,zh] at h
  rw [zf,vv_of h.1 r,vv_all h.2 t]
section
variable {X:Cx}{K:PySem.W.Frag}
theorem Inv.excAt {pins:List (Addr×Obj)}{σ:St}{H:Hp}{s:Shared}{a C:Addr} (I:Inv X pins σ H s) (h:H a=some (excO a C)):∃ ox,PySem.W.InstAt s.heap a ox C none:=(I.hok a _ h).1
theorem call_isX (hK:X.K=K):CallR X (.builtin "isinstance") (λxs H Q=>∃ a C c b,xs=[.ref a,c]/\H a=some (excO a C)/\XCls K C/\isCls c=true/\zc K (.ref C) (vv c)=some b/\Q (.bl b) H):=by
 subst hK
 intro pins s σ H xs us Q I r h
 obtain ⟨a,C,c,b,rfl,ha,xc,hc,hk,q⟩:=h
 obtain ⟨u,w',rfl,r1,r2⟩:=vals2 r
 cases r1
 cases vv_of hc r2
 exact zl (kitx_exc xc) I.kIn (I.excAt ha) hk (by intro z;cases z) λtk=>⟨.bl _,H,I.tok tk,rfl,q⟩
theorem call_isXT (hK:X.K=K):CallR X (.builtin "isinstance") (λxs H Q=>∃ a C tp cs b,xs=[.ref a,.ref tp]/\H a=some (excO a C)/\XCls K C/\SqT K H tp cs/\cs.all isCls=true/\yG K (.ref C) (cs.map vv)=some b/\Q (.bl b) H):=by
 subst hK
 intro pins s σ H xs us Q I r h
 obtain ⟨a,C,tp,cs,b,rfl,ha,xc,ht,hc,hk,q⟩:=h
 obtain ⟨u,w',rfl,r1,r2⟩:=vals2 r
 cases r1;cases r2
 obtain ⟨its,rv,⟨o,ho,hoc,n,hod⟩,_⟩:=I.tuple ht
 cases vv_all hc rv
 obtain ⟨ocl,odc,odt,osl⟩:=o
 cases hoc;cases hod
 exact PySem.W.kia_tup (kitx_exc xc) I.kIn (I.excAt ha) ho hk (by intro z;cases z) λtk=>⟨.bl _,H,I.tok tk,rfl,q⟩
end
theorem exc_of {K:PySem.W.Frag}{h:Heap}{C:Addr}{bmB:List Value}{ni:String} (X:K.In h) (q:PySem.W.excIn K C bmB ni=true):∃ bm N nm qn bs hd sn sub ab col dd k0 k1 k2 k3 k5 mN,
  h.get? C=some (excClassObj nm qn C N bs bm hd sn sub ab col dd k0 k1 k2 k3 k5 ni)/\h.Ns N mN/\mN "__init__" = none/\OwnTail h bmB bm:=by
 simp only [PySem.W.excIn] at q
 split at q
 case h_2=>cases q
 case h_1 d0 c0 z0 lk=>
  split at q
  case h_2=>cases q
  case h_1 C0 bm p0 p1 p2 p3 n0 p5 em es=>
   simp only [zh,beq_iff_eq,Bool.not_eq_true'] at q
   obtain ⟨⟨⟨⟨⟨e1,e2⟩,e3⟩,e4⟩,e5⟩,e6⟩:=q
   subst e1 e2
   have ez:z0=#[p0,p1,p2,p3,some (.builtin n0),p5]:=by rw [<-es]
   have kC:=X _ _ lk
   rw [ez] at kC
   rcases c0 with ⟨nm,bs,mro,ns,qn,hd,sn,sub,ab,col,del⟩
   have em':mro=.ref C0::bm:=em
   have e3':del=false:=e3
   subst em' e3'
   exact ⟨bm,ns,nm,qn,bs,hd,sn,sub,ab,col,d0,p0,p1,p2,p3,p5,_,kC,.of_isNs (PySem.W.isNs_of_in X e5),PySem.W.nsMap_none_of_in X e5 e6,PySem.W.tail_of_in X e4⟩
section
variable {X:Cx}{E:XK}
theorem PS.nox {st:Stmt}{t:TS} (h:PS X.nox st t):PS X st t:=λpins s σ H D I hw=>
 wpAny_mono (h pins s σ H D (I.wish _) hw) (λ_ _ q=>q.unwish) λ_ _ z=>False.elim z
def tRaise (E:XK) (C:Addr):TS:=λ_ _ H=>E (.ref C) none H
theorem wI {x:Str}{C:Addr} {np cpos pos p1:Pos}{t:Str} {j} (hs:X.stack=X.env::X.outer) (hf:X.env.frame=some X.env.locals) (hex:X.ex=[]) (hc:X.calm=true) (hg:Gl X x) (hm:X.mg x=some (.ref C)) (xc:XCls X.K C) (hdb:(x == ("__debug__" : Str))=false:=by decide)
  (he:starEach [Expr.Constant (.str t) j p1] X.env=[(false,eval (.Constant (.str t) j p1) X.env)]:=by rfl) :
  PS (X.exc E) (.Raise (some (.Call (.Name x np) [.Constant (.str t) j p1] [] cpos)) none pos) (tRaise E C):=by
 intro pins s σ H D I0 h
 have I:=I0.unwish
 obtain ⟨bm,N,nm,qn,bs,hd,sn,sub,ab,col,dd,k0,k1,k2,k3,k5,mN,kC,kN,kn,kt⟩:=exc_of I.kIn xc.exc
 refine wpAny_Raise_call_subT (env:=X.env) (C:=C) (nm:=nm) (q:=qn) (N:=N) (bs:=bs) (bm:=bm) (hdct:=hd) (sn:=sn) (sub:=sub) (ab:=ab) (col:=col) (dd:=dd) (k0:=k0) (k1:=k1) (k2:=k2) (k3:=k3) (k5:=k5)
  PySem.F.excBase_ValueError (mN:=mN) (kt.hasType PySem.F.excBase_ValueError.hasBase) (I.ok.hd hc) (by rw [he];rfl) kn (ld_glob I0 hg hm ⟨rfl,?_⟩ hdb)
 rw [he]
 refine Calls.evalArgs_plain (Calls.spliced_cons (Calls.Constant_str (pos:=p1) (k:=j) (Calls.spliced_nil ?_)))
 refine ⟨rfl,by show 1<=sizeLine;decide,kC,kN,kt,λh' e me=>?_⟩
 exact raise_wx (s:={ s with toks:=s.toks + 1 }) hs hf hex (I.tok _) me h
end
section
variable {P:Program}{w:World}{K:PySem.W.Frag}{mg:Str->Option Value}{base:Heap}
theorem Fun.okE {x qual:Str}{st:Stmt}{f:Addr}{fd:FuncData}{N ps:List Str}{k:Nat}{sp:Sp} (F:Fun K x qual st f fd) (S:FnScope N ps (defScope st)) (len:∀ vs H Q E,sp vs H Q E->vs.length=ps.length)
  (hbody:∀ (cdv:Value) (A:Around) (outer:List Env) (s:Shared) (H:Hp) (vs:List V) (Q:VK) (E:XK),Room k (A.deeper (envOfC qual (defScope st) s.heap.objs.size f cdv))->sp vs H Q E ->
   ∃ t,PSs ((cxOf (CXE P w) P w K mg base N qual (defScope st) f cdv A outer s H E).exc E) (defBody st) t/\t { nx:=λ_ H'=>Q .non H',rt:=Q } (start N vs) H):FnOk P w K mg base (CXE P w) (k + 1) f fd ps sp:=by
 obtain ⟨oc,od,kV,doc,pm,an,cdv,ct,osl,rfl,lk,hcd⟩:=F.ex
 refine fn_of lk hcd S len λA outer s H vs Q E hr hsp=>?_
 obtain ⟨t,h,q⟩:=hbody cdv A outer s H vs Q E hr hsp
 refine ⟨t,λpins s1 σ H1 D I hw=>?_,q⟩
 exact wpAny_mono (h pins s1 σ H1 D (I.wish _) hw) (λ_ _ z=>z.unwish) λe s2 z=>wx_leaves (base:=base) I.ok.frames rfl I.ok.funs z.2
end
end L2
namespace L2
open PySem PySem.Spec PyProof.Rows
section
variable {X:Cx}{pins:List (Addr×Obj)}{σ:St}{H:Hp}{s:Shared}
theorem gone_ok {M:Model}{A:Around}{Ex:Value->Shared->Prop}{i:Nat}{x:Str}{pos:Pos}{Q:Unit->Shared->Prop} (I:Inv X pins σ H s) (hN:X.N.Nodup) (hi:X.N[i]?=some x) (hk:X.env.kindOf x=some .local)
  (h:∀ s',Inv X pins (σ.set i none) H s'->Q () s'):wpAny M A (do bindName X.env x .none;unbindBehindTheSuite X.env x pos) Q Ex s:=by
 obtain ⟨m,hn,hl⟩:=id I.loc
 have hcls:(X.env.scope.kind == .class || (X.env.scope.kind == .module && X.env.locals != X.env.globals))=false:=by rw [I.ok.kind];rfl
 have cne:=I.cne
 refine wpAny_nameGoes_keeps hk hn hcls λh' v hn' hs=>?_
 obtain ⟨oL,_,_,hoL,_⟩:=id hn
 have far:∀ b o,X.s₀.heap.get? b=some o->b≠X.env.locals:=λb o e=>zS (zU (Heap.lt_size e) I.ok.above)
 refine h _ ⟨I.ok,I.os,I.bare,⟨λb o e n hb hx=>?_,λb o e n hb hx=>?_,I.base.free,λb o e hx=>?_,I.base.tups,I.base.frzs,I.base.tbls⟩,⟨_,hn',λj y v' e1 e2 e3=>?_⟩,λy c e=>?_,I.free,I.freeC,λp hp=>?_,λb ob e=>?_,by simpa using I.len⟩
 ·exact (hs.2 b (far b o e)).trans (I.base.keep b o e n hb hx)
 ·obtain ⟨sl,e1⟩:=I.base.slot b o e n hb hx
  exact ⟨sl,(hs.2 b (far b o e)).trans e1⟩
 ·obtain ⟨o',e1⟩:=I.base.there b o e hx
  exact ⟨o',(hs.2 b (far b o e)).trans e1⟩
 ·by_cases hj:j=i
  ·subst hj
   have hj':j < σ.length:=by
    by_cases z:j < σ.length
    ·exact z
    ·rw [za (by rw [zm];omega)] at e2;cases e2
   rw [yI hj'] at e2;cases e2
  ·rw [ye (Ne.symm hj)] at e2
   obtain ⟨u',r',q⟩:=hl j y v' e1 e2 e3
   refine ⟨u',r',?_⟩
   rcases q with ⟨k,e⟩ | ⟨k,c,e,z⟩
   ·refine .inl ⟨k,?_⟩
    have:y≠x:=λe=>hj (nodup_ix hN e1 (e ▸ hi))
    simp [this,e]
   ·exact .inr ⟨k,c,e,z.sameBut hs (cne y c e)⟩
 ·obtain ⟨w',z⟩:=I.cell y c e
  exact ⟨w',z.sameBut hs (cne y c e)⟩
 ·obtain ⟨e,n,ne,nf,d⟩:=I.pin p hp
  exact ⟨(hs.2 p.1 ne).trans e,n,ne,nf,d⟩
 ·have hfree:=I.free
  refine (I.hok b ob e).stay (λc w' hc q=>(hs.2 c ?_).trans q) (λ_ q=>q) λ_ _ q=>q
  rintro rfl
  rcases hc with rfl | hc
  ·rw [hfree] at e;cases e
  ·rw [hfree] at hc;cases hc
end
def Cx.hand (X:Cx) (e:Addr):Cx:={ X with A:=X.A.mark (some (.ref e)),calm:=false,xe:=λ_ _=>False }
section
variable {X:Cx}{pins:List (Addr×Obj)}{σ:St}{H:Hp}{s:Shared}{e:Addr}
theorem Inv.hand (I:Inv X pins σ H s) (e:Addr):Inv (X.hand e) pins σ H s:=
 ⟨⟨I.ok.mod,I.ok.kind,I.ok.glob,I.ok.blt,I.ok.above,I.ok.inj,I.ok.has,I.ok.cab,(λz=>by cases z),I.ok.frames,I.ok.stk,I.ok.exf,I.ok.bs,I.ok.bsz,I.ok.noex,I.ok.exfs,I.ok.funs,I.ok.frf⟩,I.os,I.bare,I.base,I.loc,I.cell,I.free,I.freeC,I.pin,I.hok,I.len⟩
theorem Inv.unhand (ok:X.Ok) (I:Inv (X.hand e) pins σ H s):Inv X pins σ H s:=⟨ok,I.os,I.bare,I.base,I.loc,I.cell,I.free,I.freeC,I.pin,I.hok,I.len⟩
end
def PSx (X:Cx) (st:List Stmt) (t:XK->TS):Prop:=∀ (pins:List (Addr×Obj)) (s:Shared) (σ:St) (H:Hp) (D:Ends) (Eh:XK) (Z:Value->Shared->Prop),Inv X pins σ H s->t Eh D σ H ->
 (∀ H1 s1 e s',Inv X pins σ H1 s1->CXE X.prog X.w X.stack H1 s1 Eh e s'->Z e s')->wpAny (model X.prog X.w) X.A (execs st X.env) (SP X pins D) Z s
section
variable {X:Cx}{k:Nat}{f:Addr}{fd:FuncData}{ps:List Str}{sp:Sp}{dvs:List V}{ds:List Value}{x:Str}{p pos cpos:Pos}{e:Expr}{es:List Expr}{t:TA}
theorem run_fnX {pins:List (Addr×Obj)}{σ:St}{H:Hp}{s:Shared}{Q:VK}{us:List Value}{vs:List V}{Eh:XK}{Z:Value->Shared->Prop} (F:FnOk X.prog X.w X.K X.mg X.base (CXE X.prog X.w) k f fd ps sp) (hr:Room k X.A) (hb:Binds X.K fd ps ds) (hd:Vals dvs ds)
  (hx:∀ e s',CXE X.prog X.w X.stack H s Eh e s'->Z e s') (I:Inv X pins σ H s) (r:Vals vs us) (h:sp (vs++dvs) H Q Eh):wpAny (model X.prog X.w) X.A (call (.ref f) us) (EP X pins σ Q) Z s:=by
 have r2:Vals (vs++dvs) (us++ds):=r.append hd
 have hl:(us++ds).length=ps.length:=by rw [<-r2.length];exact F.len _ _ _ _ h
 refine wpAny_call (codeAny_mono (F.run X.A X.stack s H ⟨us,[]⟩ (us++ds) (vs++dvs) Q Eh hr I.env0 (hb s us I.kIn hl) r2 h) λr s' hq=>?_)
 cases r with
 | error e=>exact hx e s' hq
 | ok fl=>
  cases fl with
  | ret u=>exact I.after hq
  | next=>exact False.elim hq
  | brk=>exact False.elim hq
  | cont=>exact False.elim hq
theorem callX {pins:List (Addr×Obj)}{σ:St}{H:Hp}{s:Shared}{Q:VK}{Eh:XK}{Z:Value->Shared->Prop} (F:FnOk X.prog X.w X.K X.mg X.base (CXE X.prog X.w) k f fd ps sp) (hr:Room k X.A) (hg:Gl X x) (hm:X.mg x=some (.ref f)) (hk:zF X.K (.ref f)=true) (hb:Binds X.K fd ps ds) (hd:Vals dvs ds)
  (ha:PA X.nox (e::es) t) (I:Inv X pins σ H s) (h:tCall sp dvs Eh t σ H Q) (hx:∀ H1 s1 e s',Inv X pins σ H1 s1->CXE X.prog X.w X.stack H1 s1 Eh e s'->Z e s') (hdb:(x == ("__debug__" : Str))=false)
  (he:starEach (e::es) X.env=(false,eval e X.env)::starEach es X.env) (hpl:(backTo cpos (starEach es X.env)).any (·.1)=false) :
  wpAny (model X.prog X.w) X.A (eval (.Call (.Name x p) (e::es) [] cpos) X.env) (EP X pins σ Q) Z s:=by
 refine wpAny_Call_Name_kw (ld_glob I hg hm ?_ hdb)
 refine yo (h₀:=X.base) I.ok.mod.kin hk (wpAny_mono (ha cpos pins s σ H _ (I.wish _) h) (λus s1 ⟨vs,H1,I1,r,q⟩=>⟨I1.unwish.kIn,?_⟩) λ_ _ z=>z.elim) he hpl
 exact run_fnX F hr hb hd (λe s' z=>hx H1 s1 e s' I1.unwish z) I1.unwish r q
theorem psx_call (F:FnOk X.prog X.w X.K X.mg X.base (CXE X.prog X.w) k f fd ps sp) (hr:Room k X.A) (hg:Gl X x) (hm:X.mg x=some (.ref f)) (hk:zF X.K (.ref f)=true) (hb:Binds X.K fd ps ds) (hd:Vals dvs ds)
  (ha:PA X.nox (e::es) t) (hdb:(x == ("__debug__" : Str))=false:=by decide) (he:starEach (e::es) X.env=(false,eval e X.env)::starEach es X.env:=by rfl) (hpl:(backTo cpos (starEach es X.env)).any (·.1)=false:=by rfl)
  (hs:swapsWith (.Call (.Name x p) (e::es) [] cpos) none pos.line X.env=pure false:=by rfl) :
  PSx X [.Expr (.Call (.Name x p) (e::es) [] cpos) pos] (λEh=>tDrop (tCall sp dvs Eh t)):=by
 intro pins s σ H D Eh Z I h hx
 refine wpAny_execs_cons (wpAny_Expr_any (thn (callX F hr hg hm hk hb hd ha I h hx hdb he hpl) λv s1 ⟨y,H1,I1,r1,q1⟩=>?_) I.quiet hs)
 exact wpAny_execs_nil ⟨σ,H1,I1,q1⟩
end
def tTry (K:PySem.W.Frag) (cy:Value) (i:Nat) (tb:XK->TS) (th:TS):TS:=λD σ H=>
 tb (λcls _ H'=>PySem.W.exmOne K cls cy=some true/\∃ C,cls=Value.ref C/\∀ x,H' x=none ->
  th { nx:=fun σ' H2=>D.nx (σ'.set i none) H2,rt:=D.rt,bk:=fun σ' H2=>D.bk (σ'.set i none) H2,ct:=fun σ' H2=>D.ct (σ'.set i none) H2 } (σ.set i (some (.ref x))) (upd H' x (excO x C))) D σ H
section
variable {X:Cx}{K:PySem.W.Frag}
theorem ps_tryAs {body:List Stmt}{tb:XK->TS}{b₀:Stmt}{suite:List Stmt}{y n:Str}{np hpos pos:Pos}{th:TS}{i:Nat}{cy:Value} (hK:X.K=K) (hb:PSx X body tb) (hs:X.stack=X.env::X.outer) (hf:X.env.frame=some X.env.locals)
    (hg:Gl X y) (hm:X.mg y=some cy) (hN:X.N.Nodup) (hi:X.N[i]?=some n) (hl:X.env.kindOf n=some .local) (hh:∀ e,PSs (X.hand e) (b₀::suite) th) (hdb:(y == ("__debug__" : Str))=false:=by decide) :
    PS X (.Try body [.ExceptHandler (some (.Name y np)) (some n) (b₀::suite) hpos] [] [] pos) (tTry K cy i tb th):=by
  subst hK
  intro pins s σ H D I h
  refine wpAny_Try_except (thn (hb pins s σ H D _ _ I h ?_) λf s1 q=>?_)
  · intro H1 s1 e s' I1 ⟨a,cls,H',B,ee,x,nb,ff,ht,em,C,ec,q⟩
    subst ee ec
    have fr:X.A.frames=some (X.env::X.outer):=by rw [<-hs];exact I1.ok.frames
    have ff1:=I1.stack
    rw [hs] at ff
    refine note_fly (cls:=.ref C) fr hf x.stays ⟨nb,ff,.inr (.inl ht)⟩ λh2 k2 u2 l2 t2=>?_
    refine mark_fly (fo:=none) k2 l2 t2 λh3 k3 u3 l3 t3=>?_
    have x3:=(x.step ff1 k2 u2).step ff1 k3 u3
    have J3:Inv X pins σ H' { s' with heap:=h3 }:=I1.call' (ch:=[]) x3.os x3.un x3.hok x3.bare (λb z=>absurd z (by simp))
    obtain ⟨oe,vs,T,oT,ts,he,hc,_⟩:=id t3
    refine wpAny_handleBy_cons (codeAny_handlers_test (ld_glob (X:=X.hand a) (J3.hand a) hg hm ?_ hdb)) (by intro z;cases z)
    have LT:PySem.W.Looks (model X.prog X.w) h3 (typeOf (.ref a)) (.ref C):=hc ▸ (PySem.W.Looks.ld he).andThen .now
    refine (PySem.W.exm_one J3.kIn LT em).here ?_
    refine codeAny_handlers_suite_as (mark_fly (fo:=none) k3 l3 t3 λh4 k4 u4 l4 t4=>?_)
    have x4:=x3.step ff1 k4 u4
    obtain ⟨oe4,vs4,T4,oT4,ts4,he4,hc4,hdc4,hd4,_⟩:=id t4
    have na:H' a=none:=by
      cases z:H' a with
      | none=>rfl
      | some u=>obtain ⟨o,eo⟩:=x4.trkB a u z;rw [nb] at eo;cases eo
    have nfr:a ∉ frs X.stack:=λhm=>by
      rw [hs] at hm
      obtain ⟨_,o,eo,nf⟩:=l4.mem hm
      rw [he4] at eo;cases eo;exact nf _ hd4
    have un4:Un (frs X.stack) [] H1 (upd H' a (excO a C)) s1.heap h4:=
      { keep:=x4.un.keep
        slot:=x4.un.slot
        free:=λb o e n hx=>by
          have nea:b≠a:=λz=>by
            subst z
            obtain ⟨o',eo⟩:=x4.allB b o e nfr
            rw [nb] at eo;cases eo
          rw [xO nea];exact x4.un.free b o e n hx
        there:=x4.un.there
        tups:=λb xs e=>by have e2:=x4.tups b xs e;rw [xO (xK e2 na)];exact e2
        frzs:=λb o u e=>by have e2:=x4.frzs b o u e;rw [xO (xK e2 na)];exact e2
        tbls:=λb ps e=>by obtain ⟨m,e2⟩:=x4.tbls b ps e;exact ⟨m,by rw [xO (xK e2 na)];exact e2⟩ }
    have hok4:HOk X.prog X.w (upd H' a (excO a C)) h4:=λb u e=>by
      by_cases z:b=a
      · subst z
        rw [xJ] at e;cases e
        have mk:∀ h:Heap,h.get? b=some oe4->∃ ox,PySem.W.InstAt h b ox C none:=λh eh=>by
          obtain ⟨c0,d0,dt0,sl0⟩:=oe4
          cases hdc4;cases hd4
          exact ⟨_,eh,hc4,rfl,trivial⟩
        refine ⟨mk h4 he4,⟨_,he4⟩,λg1 g2 ⟨ox,i1⟩ kk=>⟨ox,kk _ i1.at_,i1.cls,i1.no,?_⟩⟩
        have:=i1.dict
        cases zz:ox.dict with
        | none=>trivial
        | some d0=>rw [zz] at this;exact this.elim
      · rw [xO z] at e
        exact (x4.hok b u e).stay (λ_ _ _ q=>q) (λc q=>by rw [xO (xK q na)];exact q) λc xs q=>by rw [xO (xK q na)];exact q
    have J4:Inv X pins σ (upd H' a (excO a C)) { s' with heap:=h4 }:=I1.call' (ch:=[]) x4.os un4 hok4 x4.bare (λb z=>absurd z (by simp))
    refine store_ok (X:=X.hand a) (J4.hand a) hN hi (.inl hl) (v:=.ref a) rfl (λs5 I5=>?_) (.inr hl)
    refine wpAny_mono (hh a pins s5 _ _ _ I5 (q a na)) (λf s6 z=>?_) λ_ _ z=>z.elim
    cases f with
    | next=>obtain ⟨σ',H2,I6,q6⟩:=z;exact gone_ok (I6.unhand I.ok) hN hi hl λs7 I7=>⟨_,H2,I7,q6⟩
    | brk=>obtain ⟨σ',H2,I6,q6⟩:=z;exact gone_ok (I6.unhand I.ok) hN hi hl λs7 I7=>⟨_,H2,I7,q6⟩
    | cont=>obtain ⟨σ',H2,I6,q6⟩:=z;exact gone_ok (I6.unhand I.ok) hN hi hl λs7 I7=>⟨_,H2,I7,q6⟩
    | ret u=>obtain ⟨v,σ',H2,I6,r6,q6⟩:=z;exact gone_ok (I6.unhand I.ok) hN hi hl λs7 I7=>⟨v,_,H2,I7,r6,q6⟩
  · cases f with
    | next=>exact wpAny_execs_nil q
    | brk=>exact q
    | cont=>exact q
    | ret u=>exact q
end
end L2
namespace L2
open PySem PySem.Spec PyProof.Rows
section
variable {X:Cx}{K:PySem.W.Frag}{e o:Expr}{es:List Expr}{to:TE}{t:TA}{T id:String}{name:Str}{apos cpos:Pos}{r:V->List V->Hp->VK->Prop}
theorem pe_bmK (hK:X.K=K) (pa:PlainAttrs T) (slot:Slot T name id) (hty:typeOf (.builtin id)=pure (.type "method_descriptor")) (hm:MtR X id r) (ho:PE X o to) (ha:PA X (e::es) t)
  (hbase:attributeBase o name X.env (eval o X.env)=eval o X.env:=by rfl)
  (hfew:((backTo cpos (starEach (e::es) X.env)).all (λx=>!x.1) && (backToKw cpos (keywordEach [] X.env)).all (λx=>x.1.isSome)
   && decide ((e::es).length + ([]:List Keyword).length + (if ([]:List Keyword).isEmpty then 0 else 1) < 30))=true:=by rfl)
  (hline:(apos.endLine == cpos.line)=true:=by rfl) (hs:starEach (e::es) X.env=(false,eval e X.env)::starEach es X.env:=by rfl) (hplain:(backTo cpos (starEach es X.env)).any (·.1)=false:=by rfl) :
  PE X (.Call (.Attribute o name apos) (e::es) [] cpos) (tBM K T r to t):=by
 subst hK
 exact pe_bm pa slot hty hm ho ha hbase hfew hline hs hplain
end
end L2
namespace Sm
open PySem L2 SmSort
theorem inv_self {K:PySem.W.Frag}{t:Value}:zc K t t=some true:=by
 unfold zc
 rw [if_pos (beq_self_eq_true t)]
end Sm
namespace Sm
open PySem L2 SmSort
end Sm
namespace Sm
open PySem L2 SmSort
end Sm
namespace L2
open PySem PySem.Spec PyProof.Rows
def oclsB (K:PySem.W.Frag) (C:Addr):Bool:=
 z4 K C "__class__" && yC K C && (zL K (.ref C) "__class__" == some (some (.builtin "object.__class__"))) && (yt K C (.type "object") == some true) &&
 (yw K (.builtin "object.__class__") "__get__" == some (some (.builtin "getset_descriptor.__get__"))) && (xE K (.builtin "object.__class__") == some true)
structure OCls (K:PySem.W.Frag) (C:Addr):Prop where
 pg:z4 K C "__class__" = true
 hd:yC K C=true
 cl:zL K (.ref C) "__class__" = some (some (.builtin "object.__class__"))
 ob:yt K C (.type "object")=some true
 sp:yw K (.builtin "object.__class__") "__get__" = some (some (.builtin "getset_descriptor.__get__"))
 tk:xE K (.builtin "object.__class__")=some true
theorem OCls.of {K:PySem.W.Frag}{C:Addr} (h:oclsB K C=true):OCls K C:=by
 simp only [oclsB,zh,beq_iff_eq] at h
 obtain ⟨⟨⟨⟨⟨h1,h2⟩,h3⟩,h4⟩,h5⟩,h6⟩:=h
 exact ⟨h1,h2,h3,h4,h5,h6⟩
def vo:V->Value
 | .ref a=>.ref a
 | .ty n=>.type n
 | _=>.none
def isCl:V->Bool
 | .ref _=>true
 | .ty _=>true
 | _=>false
theorem vo_of {x:V}{u:Value} (h:isCl x=true) (r:RelV x u):u=vo x:=by
 cases x <;> first | exact r | cases h
section
variable {X:Cx}{K:PySem.W.Frag}
theorem Inv.instAt {pins:List (Addr×Obj)}{σ:St}{H:Hp}{s:Shared}{a C dx:Addr}{fs:List (Str×V)} (I:Inv X pins σ H s) (h:H a=some (.ins C dx fs)):∃ od,PySem.W.InstAt s.heap a (yM C dx) C (some od):=by
 obtain ⟨_,_,_,e,mA,⟨od,_,_,e2,_⟩,_⟩:=I.hok a _ h
 exact ⟨od,e,rfl,rfl,e2⟩
theorem call_isO (hK:X.K=K):CallR X (.builtin "isinstance") (λxs H Q=>∃ a C dx fs c b,xs=[.ref a,c]/\H a=some (.ins C dx fs)/\OCls K C/\isCl c=true/\zc K (.ref C) (vo c)=some b/\Q (.bl b) H):=by
 subst hK
 intro pins s σ H xs us Q I r h
 obtain ⟨a,C,dx,fs,c,b,rfl,ha,oc,hc,hk,q⟩:=h
 obtain ⟨u,w',rfl,r1,r2⟩:=vals2 r
 cases r1
 cases vo_of hc r2
 obtain ⟨od,i⟩:=I.instAt ha
 exact zl (PySem.W.kitx_own oc.pg oc.hd oc.cl oc.sp oc.tk oc.ob) I.kIn i hk (by intro z;cases z) λtk=>⟨.bl _,H,I.tok tk,rfl,q⟩
end
end L2
namespace L2
open PySem PySem.Spec PyProof.Rows
theorem collect_seq {prog:Program}{w:World}{A:Around}{E:Value->Shared->Prop}{s:Shared}{l:Addr}{o:Obj}{vs:List Value}{n:Nat}{Q:List Value->Shared->Prop} (ho:s.heap.get? l=some o) (hc:o.cls=.type "list" \/ o.cls=.type "tuple") (hd:o.data=.seq vs.toArray n)
  (h:Q vs { s with heap:=(s.heap.push (seqObj "list" #[] 0)).update s.heap.objs.size (Obj.mapSeq (·++vs.toArray)) }) (hsz:vs.length<=sizeLine):wpAny (model prog w) A (collect (.ref l)) Q E s:=by
 have ho2:=Heap.get?_push_of_some (seqObj "list" #[] 0) ho
 unfold collect
 refine wpAny_bind (wpAny_runValue (codeAny_builtin entry_proto_collect' (wpAny_bind (wpAny_newList (wpAny_pure ⟨Code.quiet_builtin _ (by decide +kernel),codeAny_builtin entry_list_iadd' ?_⟩)))))
 show wpAny (model prog w) _ (Builtin.List.listExtendWith (.ref s.heap.objs.size) (.ref l) (.ref s.heap.objs.size)) _ _ { s with heap:=s.heap.push (seqObj "list" #[] 0) }
 unfold Builtin.List.listExtendWith
 obtain ⟨T,h1,h2⟩:∃ T,o.cls=.type T/\(Value.type T == Value.type "list" || Value.type T == Value.type "tuple")=true:=by
  rcases hc with z | z
  ·exact ⟨_,z,by decide⟩
  ·exact ⟨_,z,by decide⟩
 refine wpAny_bind (wpAny_typeOf (T:=T) ⟨o,ho2,h1⟩ ?_)
 rw [if_pos (by rw [Bool.or_assoc,h2,Bool.or_true])]
 refine wpAny_bind (listItems_at ho2 hd (wpAny_bind (listItems_at (xs:=#[]) (n:=0) (Heap.get?_push_size _ rfl) rfl ?_)))
 rw [if_neg (by simp)]
 refine wpAny_bind (listUpdate_at (xs:=#[]) (n:=0) (Heap.get?_push_size _ rfl) rfl ?_ (zZ _) (by show (#[]++vs.toArray).size<=_;simp;omega))
 refine wpAny_pure ?_
 refine wpAny_bind (wpAny_load (get?_update_seq (Heap.get?_push_size _ rfl) _) ?_)
 show wpAny (model prog w) A (pure ((#[]:Array Value)++vs.toArray).toList) Q E _
 rw [Array.empty_append]
 exact wpAny_pure h
theorem sorted_seq {prog:Program}{w:World}{A:Around}{E:Value->Shared->Prop}{s:Shared}{l:Addr}{o:Obj}{vs:List Value}{n:Nat}{ns:List Int}{Q:Value->Shared->Prop} (ho:s.heap.get? l=some o) (hc:o.cls=.type "list" \/ o.cls=.type "tuple") (hd:o.data=.seq vs.toArray n) (hI:IntsAre vs ns) (h64:vs.length < 64)
  (h:∀ (out:Array Value) (ms:List Int),IntsAre out.toList ms->ms.Perm ns->ms.Pairwise (·<=·)->Q (.ref (s.heap.objs.size + 1)) { s with heap:=sortedAll s.heap vs out }):wpAny (model prog w) A (call (.builtin "sorted") [.ref l]) Q E s:=by
 have line:1002<=sizeLine:=by rw [sizeLine_eq];decide
 refine Calls.call_function_entry kind_sorted plain_sorted entry_sorted (args_sorted1 (.ref l)) ?_
 unfold Builtin.«sorted»
 refine wpAny_bind (m:=checkCount "sorted" 1 1 _) (wpAny_pure (wpAny_bind (collect_seq ho hc hd ?_ (by omega))))
 refine wpAny_bind (wpAny_newList ?_)
 have sz:((s.heap.push (seqObj "list" #[] 0)).update s.heap.objs.size (Obj.mapSeq (·++vs.toArray))).objs.size=s.heap.objs.size + 1:=by rw [Heap.size_update,size_push']
 have hL:(((s.heap.push (seqObj "list" #[] 0)).update s.heap.objs.size (Obj.mapSeq (·++vs.toArray))).push (seqObj "list" vs.toArray 0)).get? (s.heap.objs.size + 1)=some (seqObj "list" vs.toArray 0):=by
  rw [<-sz];exact Heap.get?_push_size _ rfl
 dsimp only
 rw [sz]
 refine wpAny_bind (wpAny_holding (wpAny_call_entry slot_list_sort ⟨_,hL,rfl⟩ entry_list_sort (list_sort_tree hL hI h64 λout ms a1 a2 a3=>⟨_,rfl,?_⟩) (args_list_sort _)))
 exact wpAny_pure ⟨_,rfl,h out ms a1 a2 a3⟩
theorem call_sortI {X:Cx}{K:PySem.W.Frag} (hK:X.K=K):CallR X (.builtin "sorted") (λxs H Q=>∃ p ns,xs=[.ref p]/\(SqL K H p (List.map V.int ns)\/SqT K H p (List.map V.int ns))/\ns.length < 64/\∀ l ms,H l=none->List.Perm ms ns->ms.Pairwise (·<=·)->Q (.ref l) (upd H l (.lst (ms.map V.int)))):=by
 subst hK
 intro pins s σ H xs us Q I r h
 obtain ⟨p,ns,rfl,hq,h64,q⟩:=h
 obtain ⟨u,rfl,rx⟩:=vals1 r
 cases rx
 have line:1002<=sizeLine:=by rw [sizeLine_eq];decide
 have fin:∀ (vs:List Value) (o:Obj) (n:Nat),Vals (ns.map V.int) vs->s.heap.get? p=some o->(o.cls=.type "list" \/ o.cls=.type "tuple")->o.data=.seq vs.toArray n->wpAny (model X.prog X.w) X.A (call (.builtin "sorted") [.ref p]) (EP X pins σ Q) X.xe s:=λvs o n rv ho hc hd=>by
  have lv:vs.length=ns.length:=by rw [<-rv.length,zA]
  refine sorted_seq ho hc hd (intsAre_of rv) (by omega) λout ms hI pm pw=>?_
  have kp:∀ b o,s.heap.get? b=some o->(sortedAll s.heap vs out).get? b=some o:=λb o e=>by
   have lb:b < s.heap.objs.size:=Heap.lt_size e
   unfold sortedAll sortedHeap
   rw [Heap.get?_update_ne _ _ _ _ (zS (yg lb))]
   refine Heap.get?_push_of_some _ (Heap.get?_push_of_some _ ?_)
   rw [Heap.get?_update_ne _ _ _ _ (zS (yg lb))]
   refine Heap.get?_push_of_some _ ?_
   rw [Heap.get?_update_ne _ _ _ _ (zS lb)]
   exact Heap.get?_push_of_some _ e
  have sz:((s.heap.push (seqObj "list" #[] 0)).update s.heap.objs.size (Obj.mapSeq (·++vs.toArray))).objs.size=s.heap.objs.size + 1:=by rw [Heap.size_update,size_push']
  obtain ⟨c,ec⟩:∃ c,(sortedAll s.heap vs out).get? (s.heap.objs.size + 1)=some (seqObj "list" out c):=by
   have e0:=Heap.get?_push_size ((s.heap.push (seqObj "list" #[] 0)).update s.heap.objs.size (Obj.mapSeq (·++vs.toArray))) (o:=seqObj "list" vs.toArray 0) rfl
   rw [sz] at e0
   unfold sortedAll sortedHeap
   have e1:=get?_update_seq e0 (λ_=>(#[]:Array Value))
   exact ⟨_,get?_update_seq (Heap.get?_push_of_some _ (Heap.get?_push_of_some _ e1)) _⟩
  have lm:ms.length=ns.length:=pm.length_eq
  have rv2:Vals (ms.map V.int) out.toList:=vals_ints hI
  refine ⟨.ref (s.heap.objs.size + 1),_,I.laid (t':=s.toks) kp (yT _) (show ObjOk X.prog X.w _ _ _ (.lst (ms.map V.int)) from ⟨by rw [zA];omega,out.toList,c,rv2,by rw [Array.toArray_toList];exact ec⟩),rfl,q _ ms (I.hok.fresh (yT _)) pm pw⟩
 rcases hq with hq | hq
 ·obtain ⟨its,rv,pl,_⟩:=I.list hq
  obtain ⟨o,ho,hc,n,hd⟩:=pl.isList
  exact fin its o n rv ho (.inl hc) hd
 ·obtain ⟨its,rv,⟨o,ho,hc,n,hd⟩,_⟩:=I.tuple hq
  exact fin its o n rv ho (.inr hc) hd
end L2
namespace L2
open PySem PySem.Spec PyProof.Rows
section
variable {X:Cx}
def rInT (K:PySem.W.Frag):R2:=λx y H Q=>∃ (n:Nat) (p:Addr) (rs:List (Addr×Bool)),n<=20/\y=.ref p/\SqT K H p (rs.map λr=>V.ref r.1)/\(∀ r∈rs,Eqv K H n (.ref r.1) x r.2)/\Q (.bl (rs.any (·.2))) H
theorem op_inT (hu:X.A.units + 64 < cLine):OpR X (compareOp .In) (rInT X.K):=by
 intro pins s σ H x y v u Q I rx ry h
 obtain ⟨n,p,rs,hn,rfl,hq,hg,q⟩:=h
 cases ry
 obtain ⟨its,r,pl,hz⟩:=I.tuple hq
 have back:∀ w∈its,∃ r∈rs,w=.ref r.1:=λw hw=>by
  obtain ⟨j,hj,rfl⟩:=List.getElem_of_mem hw
  obtain ⟨x0,ex,rx0⟩:=wO r (j:=j) (by simpa using hj)
  rw [zC] at ex
  cases e:rs[j]? with
  | none=>rw [e] at ex;cases ex
  | some a=>
   rw [e] at ex
   cases ex
   simp only [List.getElem_toArray] at rx0
   exact ⟨a,zD e,rx0⟩
 have forth:∀ a∈rs,Value.ref a.1∈its:=λa ha=>by
  obtain ⟨j,hj,rfl⟩:=List.getElem_of_mem ha
  obtain ⟨u,eu,ru⟩:=r.get (i:=j) (x:=V.ref rs[j].1) (by simp [hj])
  cases ru
  exact zD eu
 haveI:DecidablePred λu:Value=>∃ r∈rs,u=.ref r.1/\r.2=true:=λ_=>Classical.propDecidable _
 refine SeqAt.in_tupleAt (λu=>decide (∃ r∈rs,u=.ref r.1/\r.2=true)) pl (λw hw=>?_) ⟨.bl _,H,I,rfl,?_⟩
 ·have hw:w∈its:=by simpa using hw
  by_cases c:∃ r∈rs,w=.ref r.1/\r.2=true
  ·rw [decide_eq_true c]
   obtain ⟨r0,m0,rfl,b0⟩:=c
   have:=eqv_eq I n (A:=X.A.in1) (by show X.A.units + 1 + n < cLine;omega) (hg r0 m0) (u:=.ref r0.1) rfl rx
   rw [b0] at this;exact this
  ·rw [decide_eq_false c]
   obtain ⟨r0,m0,rfl⟩:=back w hw
   have b0:r0.2=false:=by
    cases e:r0.2 with
    | false=>rfl
    | true=>exact absurd ⟨r0,m0,rfl,e⟩ c
   have:=eqv_eq I n (A:=X.A.in1) (by show X.A.units + 1 + n < cLine;omega) (hg r0 m0) (u:=.ref r0.1) rfl rx
   rw [b0] at this;exact this
 ·have e:its.toArray.any (λu=>decide (∃ r∈rs,u=.ref r.1/\r.2=true))=rs.any (·.2):=by
   rw [yp]
   simp only [List.any_toArray,List.any_eq_true,decide_eq_true_eq]
   constructor
   ·rintro ⟨u,_,r0,m0,_,b0⟩;exact ⟨r0,m0,b0⟩
   ·rintro ⟨r0,m0,b0⟩;exact ⟨_,forth r0 m0,r0,m0,rfl,b0⟩
  rw [e];exact q
end
end L2
namespace L2
open PySem PySem.Spec PyProof.Rows
section
variable {X:Cx}{K:PySem.W.Frag}
theorem op_inT' (hK:X.K=K) (hu:X.A.units + 64 < cLine):OpR X (compareOp .In) (rInT K):=by subst hK;exact op_inT hu
theorem op_eqE' (hK:X.K=K) (hu:X.A.units + 64 < cLine):OpR X (compareOp .Eq) (rEqv K false):=by subst hK;exact op_eqE hu
end
end L2
namespace Sm
open PySem L2 SmSort
def metB (i j:Int) (m:M4):Bool:=decide ([i,j]=[m.lo,m.hi]) || decide ([j,i]=[m.lo,m.hi])
def metN (ms:List M4) (i j:Int):Nat:=(ms.filter (metB i j)).length
def spMet:Sp:=λvs H Q _=>∃ b i j rooms tr tm ps,vs=[.ref b,.int i,.int j]/\BookAt H b rooms tr tm ps/\ps.length<=1000/\∀ H',Same H H'->Q (.int (metN (ps.map (·.2)) i j)) H'
def spLMet:Sp:=λvs H Q _=>∃ b i j rooms tr tm ps,vs=[.ref b,.int i,.int j]/\BookAt H b rooms tr tm ps/\Good rooms.length (ps.map (·.2))/\∀ H',Same H H'->Q (.int (metN (ps.map (·.2)) i j)) H'
def shareV (ms:List M4) (g o w:Int):V:=if o=w\/metN ms g w < metN ms o w then .int 0 else .non
def NearAt (C:Addr) (H:Hp) (x b:Addr):Prop:=∃ dx,H x=some (.ins C dx [("past", .ref b)])
theorem NearAt.same {C:Addr}{H H':Hp}{x b:Addr} (h:NearAt C H x b) (s:Same H H'):NearAt C H' x b:=h.elim λdx e=>⟨dx,s _ _ e⟩
def spInitN (C:Addr):Sp:=λvs H Q _=>∃ x dx b,vs=[.ref x,.ref b]/\H x=some (.ins C dx [])/\∀ H',But x H H'->NearAt C H' x b->Q .non H'
def spFirst0:Sp:=λvs H Q _=>∃ x,vs=[x]/\Q (.int 0) H
def spShare (C:Addr):Sp:=λvs H Q _=>∃ x b lt g o tok s a w z rooms tr tm ps,vs=[.ref x,.ref lt,.int g,.int o,.int tok]/\NearAt C H x b/\BookAt H b rooms tr tm ps/\ps.length<=1000/\H lt=some (.tup [.int s,.int a,.int w,.int z])/\∀ H',Same H H'->Q (shareV (ps.map (·.2)) g o w) H'
def spIs:Sp:=λvs H Q _=>∃ x,vs=[x,x]/\(x=.non\/∃ i,x=.int i)/\Q (.bl true) H
theorem sort2 {a b:Int}{ms:List Int} (p:ms.Perm [a,b]) (s:ms.Pairwise (·<=·)):ms=[min a b,max a b]:=by
 have l:=p.length_eq
 match ms,l with
 | [x,y],_=>
  have h1:x<=y:=by simpa using s
  have hx:x∈[a,b]:=p.mem_iff.mp (by simp)
  simp at hx
  have e:(x=a/\y=b)\/(x=b/\y=a):=by
   rcases hx with rfl | rfl
   ·exact .inl ⟨rfl,by simpa using (List.perm_cons x).mp p⟩
   ·exact .inr ⟨rfl,by simpa using (List.perm_cons x).mp (p.trans (List.Perm.swap x a []))⟩
  rcases e with ⟨rfl,rfl⟩ | ⟨rfl,rfl⟩ <;> simp <;> omega
theorem metB_sort {w:Int}{ms:List M4} (g:Good w ms) {m:M4} (hm:m∈ms) (i j:Int):decide ([min m.lo m.hi,max m.lo m.hi]=[min i j,max i j])=metB i j m:=by
 obtain ⟨_,h2,_⟩:=g.each m hm
 have e1:min m.lo m.hi=m.lo:=by omega
 have e2:max m.lo m.hi=m.hi:=by omega
 rw [e1,e2]
 unfold metB
 rw [<-Bool.decide_or,decide_eq_decide]
 simp
 omega
theorem filt_len {ps:List (Addr×M4)}{p:M4->Bool}:((ps.map (·.2)).filter p).length=(ps.filter λa=>p a.2).length:=by
 rw [List.filter_map,zA];rfl
end Sm
namespace Sm
open PySem L2 SmSort
theorem filt_sn {fs:List (Addr×M4)}{i:Nat}{r:Addr×M4}{p:Addr×M4->Bool} (h:fs[i]?=some r):(fs.take (i + 1)).filter p=(fs.take i).filter p++(if p r then [r] else []):=by
 rw [wZ h,List.filter_append]
 congr 1
 by_cases e:p r
 ·rw [if_pos e,List.filter_cons_of_pos e];rfl
 ·rw [if_neg e,List.filter_cons_of_neg e];rfl
end Sm
namespace Sm
open PySem L2 SmSort
theorem all_at {ns ms:List Int}:(decide (ns.length=ms.length) && (List.range ns.length).all λi=>decide (ns[i]?=ms[i]?))=decide (ns=ms):=by
 by_cases e:ns=ms
 ·subst e;simp
 ·rw [decide_eq_false e]
  by_cases l:ns.length=ms.length
  ·rw [decide_eq_true l,yU]
   cases c:(List.range ns.length).all λi=>decide (ns[i]?=ms[i]?) with
   | false=>rfl
   | true=>
    exfalso
    apply e
    apply yP 
    intro i
    by_cases hi:i < ns.length
    ·have:=yj.mp c i (zx.mpr hi)
     exact of_decide_eq_true this
    ·rw [za (by omega),za (by omega)]
  ·rw [decide_eq_false l,yJ]
theorem eq_ints {K:PySem.W.Frag}{H:Hp}{a c:Addr}{ns ms:List Int}{Q:VK} (ha:H a=some (.lst (ns.map V.int))) (hc:H c=some (.lst (ms.map V.int))) (q:Q (.bl (decide (ns=ms))) H):rEqv K false (.ref a) (.ref c) H Q:=by
 refine ⟨0,a,c,_,_,λi=>decide (ns[i]?=ms[i]?),decide (ns=ms),by decide,rfl,rfl,.inl ⟨SqL.of ha,SqL.of hc⟩,by rw [zA,zA];exact all_at.symm,λi x y hx hy=>?_,q⟩
 obtain ⟨u,hu,rfl⟩:=wB hx
 obtain ⟨v,hv,rfl⟩:=wB hy
 refine .inr ⟨rfl,rfl,?_⟩
 show decide (ns[i]?=ms[i]?)=_
 rw [hu,hv,eqV_int]
 simp
end Sm
namespace Sm
open PySem L2 SmSort
end Sm
namespace Sm
open PySem L2 SmSort
def halfV (o w tok:Int):V:=if o=w then .int 0 else if 2<=tok then .int (tok / 2) else .non
def HalfAt (C:Addr) (H:Hp) (x:Addr) (n:Int):Prop:=∃ dx,H x=some (.ins C dx [("tokens", .int n)])
theorem HalfAt.same {C:Addr}{H H':Hp}{x:Addr}{n:Int} (h:HalfAt C H x n) (s:Same H H'):HalfAt C H' x n:=h.elim λdx e=>⟨dx,s _ _ e⟩
def spInitA:Sp:=λvs H Q _=>∃ x,vs=[x]/\Q .non H
def spShare0:Sp:=λvs H Q _=>∃ x l g o t,vs=[x,l,g,o,t]/\Q (.int 0) H
def spInitH (C N:Addr):Sp:=λvs H Q E=>∃ x dx v t,vs=[.ref x,v]/\H x=some (.ins C dx [])/\tyS H v=some t /\
 ((inB 1 64 v=false/\E (.ref N) none H)\/∃ n,v=.int n/\1<=n/\n<=64/\∀ H',But x H H'->HalfAt C H' x n->Q .non H')
def spFirstH (C:Addr):Sp:=λvs H Q _=>∃ x n,vs=[.ref x]/\HalfAt C H x n/\Q (.int n) H
def spShareH:Sp:=λvs H Q _=>∃ x lt g o tok s a w z,vs=[x,.ref lt,.int g,.int o,.int tok]/\H lt=some (.tup [.int s,.int a,.int w,.int z])/\0<=tok/\tok<=64/\Q (halfV o w tok) H
theorem same_two {H:Hp}{x dx:Addr} {o1 o2:HO} (nx:H x=none) (ndx:H dx=none) (ne:dx≠x):Same H (upd (upd H dx o1) x o2):=
 (xM ndx).trans (xM (by rw [xO (Ne.symm ne)];exact nx))
theorem same_twice {H:Hp}{x:Addr} {o1 o2:HO} (h:H x=none):Same H (upd (upd H x o1) x o2):=λb u e=>by
 rw [xO (xK e h),xO (xK e h)];exact e
end Sm
namespace L2
open PySem PySem.Spec PyProof.Rows PySem.W SmSort
def addT (H:Hp):List (Addr×List V)->Hp
 | []=>H
 | p::r=>upd (addT H r) p.1 (.tup p.2)
theorem addT_ne {H:Hp}{b:Addr}:∀ {ps:List (Addr×List V)},(∀ p∈ps,p.1≠b)->addT H ps b=H b
 | [],_=>rfl
 | p::r,h=>by
  show upd (addT H r) p.1 (.tup p.2) b=H b
  rw [xO (Ne.symm (h p (.head _)))]
  exact addT_ne λq hq=>h q (.tail _ hq)
theorem addT_at {H:Hp}:∀ {ps:List (Addr×List V)},(ps.map (·.1)).Nodup->∀ p∈ps,addT H ps p.1=some (.tup p.2)
 | [],_,_,h=>nomatch h
 | q::r,nd,p,h=>by
  rw [zf,yQ] at nd
  show upd (addT H r) q.1 (.tup q.2) p.1=_
  rcases zV.mp h with rfl | h
  ·exact xJ
  ·rw [xO (λe=>nd.1 (by rw [<-e];exact zO.mpr ⟨p,h,rfl⟩))]
   exact addT_at nd.2 p h
theorem addT_same {H:Hp}{ps:List (Addr×List V)} (h:∀ p∈ps,H p.1=none):Same H (addT H ps):=λb u e=>by
 rw [addT_ne λp hp z=>by have:=h p hp;rw [z,e] at this;cases this];exact e
section
variable {X:Cx}{pins:List (Addr×Obj)}{σ:St}{H:Hp}{s:Shared}
theorem Inv.tupsLaid {h':Heap}{t':Nat}{ps:List (Addr×List V)} (I:Inv X pins σ H s) (k:∀ b o,s.heap.get? b=some o->h'.get? b=some o) (hp:∀ p∈ps,s.heap.objs.size<=p.1) (nd:(ps.map (·.1)).Nodup)
  (ok:∀ p∈ps,p.2.length<=sizeLine/\∃ its:List Value,Vals p.2 its/\IsTup h' p.1 its.toArray):Inv X pins σ (addT H ps) { s with heap:=h',toks:=t' }:=by
 have hn:∀ p∈ps,H p.1=none:=λp h=>I.hok.fresh (hp p h)
 have ne:∀ b u,H b=some u->∀ p∈ps,p.1≠b:=λb u e p h z=>by have:=hn p h;rw [z,e] at this;cases this
 have old:∀ b u,H b=some u->addT H ps b=some u:=λb u e=>by rw [addT_ne (ne b u e)];exact e
 refine I.un ⟨λb o e _ _ _=>k b o e,λb o e _ _ _=>⟨o.slots,k b o e⟩,λb o e n _=>?_,λb o e _=>⟨o,k b o e⟩,λb xs e=>old b _ e,λb o u e=>old b _ e,λb qs e=>⟨#[],by rw [old b _ e];simp⟩⟩ λb u e=>?_
 ·rw [addT_ne (b:=b) λp h z=>absurd (Heap.lt_size e) (Nat.not_lt.mpr (by rw [<-z];exact hp p h))];exact n
 ·by_cases c:∃ p∈ps,p.1=b
  ·obtain ⟨p,h,rfl⟩:=c
   rw [addT_at nd p h] at e;cases e
   obtain ⟨z,its,r,t⟩:=ok p h
   exact ⟨z,its,r,t⟩
  ·have e':=e
   rw [addT_ne λp h z=>c ⟨p,h,z⟩] at e'
   exact (I.hok b u e').stay (λc v _ q=>k c v q) (λc q=>old c _ q) λc xs q=>old c _ q
theorem Inv.newsIn {m:Str->Option Value}{h':Heap}{D:Addr}{its:List Value}{c:Nat}{xs ys:List V} (I:Inv X pins σ H s) (F0:Fr X.base X.env.locals s.heap m) (F:Fr X.base X.env.locals h' m) (hD:H D=some (.lst ys))
  (N:News X.base X.env.locals h' ((D,listOf its.toArray c)::rest X.base s.heap X.env.locals D)) (hv:Vals xs its) (hz:xs.length<=sizeLine):Inv X pins σ (upd H D (.lst xs)) { s with heap:=h' }:=by
 have eD:=(N (D,listOf its.toArray c) (.head _)).1
 have keep:=kept_of_news (h:=s.heap) (d:=D) I.bk F (λp hp=>N p (.tail _ hp))
 have neD:∀ b,H b=none->b≠D:=λb n z=>by rw [z,hD] at n;cases n
 have neL:∀ b u,H b=some u->b≠X.env.locals:=λb u e z=>by rw [z,I.free] at e;cases e
 refine I.step (g':=s.gens) (t':=s.toks) (d':=s.drawn) (ch:=[]) (λ_ z=>nomatch z) (λb o hb _ _ e n=>keep b o hb (neD b n) e) (λb o hb _ _ e n=>⟨o.slots,keep b o hb (neD b n) e⟩) (λb o _ e n=>by rw [xO (neD b n)];exact n) (λb o _ e=>?_)
  (λb ys e=>by rw [xO (wP e hD (by intro z;cases z))];exact e) (λb o u e=>by rw [xO (wP e hD (by intro z;cases z))];exact e) (λb ps e=>⟨#[],by rw [xO (wP e hD (by intro z;cases z)),e,Array.append_empty]⟩) (λm' hm=>?_) (λb u e=>?_) I.bare
 ·by_cases hb:b=X.env.locals
  ·obtain ⟨o',_,_,q,_⟩:=F.ns
   exact ⟨o',by rw [hb];exact q⟩
  ·by_cases hb2:b=D
   ·exact ⟨_,by rw [hb2];exact eD⟩
   ·exact ⟨o,keep b o hb hb2 e⟩
 ·obtain ⟨o1,es1,ep1,e1,d1,k1,f1⟩:=hm
  obtain ⟨o2,es2,ep2,e2,d2,k2,f2⟩:=F0.ns
  rw [e1] at e2;cases e2
  rw [d1] at d2;cases d2
  obtain ⟨o3,es3,ep3,e3,d3,k3,f3⟩:=F.ns
  exact ⟨o3,es3,ep3,e3,d3,k3,λname=>(f3 name).trans ((f2 name).symm.trans (f1 name))⟩
 ·by_cases hb:b=D
  ·subst hb;rw [xJ] at e;cases e
   exact ⟨hz,its,c,hv,eD⟩
  ·rw [xO hb] at e
   refine (I.hok b u e).stay (λc v hc q=>?_) (λc q=>by rw [xO (wP q hD (by intro z;cases z))];exact q) λc ys q=>by rw [xO (wP q hD (by intro z;cases z))];exact q
   rcases hc with rfl | hc
   ·exact keep c v (neL c u e) hb q
   ·exact keep c v (neL c _ hc) (wP hc hD (by intro z;cases z)) q
theorem lsortT {l:Addr}{ps:List (Addr×List Int)}{A':Around}{E':Value->Shared->Prop}{Z:Shared->Prop} (I:Inv X pins σ H s) (hl:H l=some (.lst (ps.map λa=>V.ref a.1))) (h64:ps.length < 64) (hrow:∀ a∈ps,H a.1=some (.tup (a.2.map V.int))/\a.2≠[])
  (q:∀ (qs:List (Addr×List Int)) (s':Shared),List.Perm qs ps->qs.Pairwise (λa b=>lx b.2 a.2=false)->Inv X pins σ (upd H l (.lst (qs.map λa=>V.ref a.1))) s'->Z s') :
  wpAny (model X.prog X.w) A' (call (.builtin "list.sort") [.ref l]) (λ_ s'=>Z s') E' s:=by
 obtain ⟨z0,its,n,r',_,el⟩:=I.lstM hl
 have ei:=vals_refs r'
 subst ei
 have hlen:(ps.map λa=>Value.ref a.1).length=ps.length:=by simp
 have nL:l≠X.env.locals:=λz=>by rw [z,I.free] at hl;cases hl
 have nB:X.base.get? l=none:=by
  cases e:X.base.get? l with
  | none=>rfl
  | some u=>have:=(I.bs l u e).2;rw [hl] at this;cases this
 by_cases h2:ps.length < 2
 ·refine wpAny_call_entry slot_list_sort ⟨_,el,rfl⟩ entry_list_sort (sort_short el (by omega) ⟨_,rfl,?_⟩) (args_list_sort _)
  have e1:=get?_update_seq el (λ_=>(#[]:Array Value))
  refine q ps _ (List.Perm.refl _) ?_ (I.write (x:=l) (e:=l) (t':=s.toks) (by rw [hl];trivial) (.inl rfl) (λb u hb e=>?_) ⟨_,get?_update_seq (Heap.get?_push_of_some _ (Heap.get?_push_of_some _ e1)) _⟩ ⟨z0,_,_,r',get?_update_seq (Heap.get?_push_of_some _ (Heap.get?_push_of_some _ e1)) _⟩)
  ·match ps,h2 with
   | [],_=>exact .nil
   | [_],_=>exact zw _ _
  ·unfold sortedHeap
   rw [Heap.get?_update_ne _ _ _ _ hb]
   refine Heap.get?_push_of_some _ (Heap.get?_push_of_some _ ?_)
   rw [Heap.get?_update_ne _ _ _ _ hb]
   exact e
 ·obtain ⟨m,F⟩:=I.fr
  refine kat_lsort F (news_at nL nB el) (UpdF.head rest_ne) rfl (by simpa using h2) (by simpa using h64) λe1 h' F' N'=>?_
  have keep:=kept_of_news (h:=s.heap) (d:=l) I.bk F' (λp hp=>N' p (.tail _ hp))
  have rowAt:∀ a∈ps,RowAt h' a.1 a.2/\a.2≠[]:=λa ha=>by
   obtain ⟨ht,hn⟩:=hrow a ha
   obtain ⟨_,its,rv,o,e,c,n,d⟩:=I.hok a.1 _ ht
   refine ⟨⟨o,_,n,keep a.1 o (λz=>?_) (wP ht hl (by intro z;cases z)) e,c,d,rv⟩,hn⟩
   rw [z,I.free] at ht;cases ht
  obtain ⟨fs,kt,lf,hf⟩:=kat_tups rowAt
  simp only [List.toList_toArray] at *
  refine kat_kind (T:=.type "int") kt (by omega) (λv hv=>?_) (by decide) ?_
  ·obtain ⟨i,t,rfl⟩:=hf v hv
   exact Looks.now
  have n1:1<=(ps.map λa=>Value.ref a.1).length:=by omega
  refine KOK.wp (c:=cf λi=>rk (ps.map (·.2)) ((ps.map (·.2)).getD i [])) (λi j C hi hj hC=>?_) (λpp hp=>?_) _ (sort_ok (f:=λi=>rk (ps.map (·.2)) ((ps.map (·.2)).getD i [])) n1)
  ·have hi':i < ps.length:=by omega
   have hj':j < ps.length:=by omega
   obtain ⟨⟨o,items,n,ho,hc,hd,hv⟩,hn⟩:=rowAt ps[i] (zi hi')
   obtain ⟨⟨o',items',n',ho',hc',hd',hv'⟩,hn'⟩:=rowAt ps[j] (zi hj')
   unfold kas_ask
   have ei:(ps.map λa=>Value.ref a.1).getD i Value.none=.ref ps[i].1:=by simp [hi']
   have ej:(ps.map λa=>Value.ref a.1).getD j Value.none=.ref ps[j].1:=by simp [hj']
   rw [ei,ej]
   refine kat_lt ho hd ho' hd' (vals_lex hv hv' (by simp) ?_)
   have e:cf (λi=>rk (ps.map (·.2)) ((ps.map (·.2)).getD i [])) i j=lx ps[i].2 ps[j].2:=by
    unfold cf
    have e1:(ps.map (·.2)).getD i []=ps[i].2:=by simp [hi']
    have e2:(ps.map (·.2)).getD j []=ps[j].2:=by simp [hj']
    simp only [e1,e2]
    exact rk_lt (zO.mpr ⟨ps[i],zi hi',rfl⟩)
   rw [e] at hC
   exact hC
  ·obtain ⟨pm,up⟩:=hp
   refine KasFin.intro F' N' (UpdF.head rest_ne) λh2' c F2 N2=>?_
   have pl:pp.toList.Perm (List.range ps.length):=by
    have:=pm.toList
    rw [hlen] at this
    simpa using this
   have eo:(pp.toList.map λi=>(ps.map λa=>Value.ref a.1).getD i Value.none)=(pp.toList.map λi=>ps.getD i (0,[])).map λa=>Value.ref a.1:=by
    rw [zX]
    refine yL λi hi=>?_
    have hi':i < ps.length:=zx.mp (pl.mem_iff.mp hi)
    simp [hi']
   have perm:(pp.toList.map λi=>ps.getD i (0,[])).Perm ps:=by
    have:=pl.map λi=>ps.getD i (0,[])
    rwa [range_map] at this
   rw [eo] at N2
   have hzz:((pp.toList.map λi=>ps.getD i (0,[])).map λa=>V.ref a.1).length<=sizeLine:=by
    rw [zA,perm.length_eq,sizeLine_eq];omega
   refine q _ _ perm ?_ (I.newsIn F F2 hl N2 (vals_of_refs _) hzz)
   rw [yA]
   intro i j hi hj hij
   simp only [zA,Array.length_toList] at hi hj
   simp only [z6,Array.getElem_toList]
   have hn:pp.size=ps.length:=by rw [pm.size];exact hlen
   have key:=up i j (yz hij) (by omega)
   have a1:pp[i] < ps.length:=zx.mp (pl.mem_iff.mp (by simp))
   have a2:pp[j] < ps.length:=zx.mp (pl.mem_iff.mp (by simp))
   unfold g at'  at key
   simp only [hi,hj,getElem?_pos,Option.getD_some] at key
   have e1:(ps.map (·.2)).getD pp[i] []=ps[pp[i]].2:=by simp [a1]
   have e2:(ps.map (·.2)).getD pp[j] []=ps[pp[j]].2:=by simp [a2]
   rw [e1,e2] at key
   have e3:ps.getD pp[i] (0,[])=ps[pp[i]]:=by simp [a1]
   have e4:ps.getD pp[j] (0,[])=ps[pp[j]]:=by simp [a2]
   rw [e3,e4]
   have:=rk_lt (rs:=ps.map (·.2)) (a:=ps[pp[j]].2) (b:=ps[pp[i]].2) (zO.mpr ⟨_,zi a2,rfl⟩)
   rw [<-this]
   simp only [decide_eq_false_iff_not]
   omega
end
end L2
namespace L2
open PySem PySem.Spec PyProof.Rows PySem.W SmSort
def viewO (v d:Addr):HO:=.ext λh=>h.IsItemsView v d
section
variable {X:Cx}
theorem mt_items:MtR X "dict.items" (λx xs H Q=>∃ d kvs,x=.ref d/\xs=[]/\H d=some (.dK kvs)/\∀ v,H v=none->Q (.ref v) (upd H v (viewO v d))):=by
 intro pins s σ H x xs v us Q I rx rs h
 obtain ⟨d,kvs,rfl,rfl,hd,q⟩:=h
 cases rx
 cases rs
 obtain ⟨_,hS,vs,r,m⟩:=dk_of I.hok hd
 refine call_meetsIn PySem.F.slot_dict_items m.typeIs PySem.F.entry_dict_items (PySem.F.args_dict_items_1 _) (meets_dict_items (mixKind X.prog X.w) d hS) ⟨⟨vs,m⟩,?_⟩
 exact ⟨.ref _,_,I.laid (t':=s.toks) (λ_ _ q=>Heap.get?_push_of_some _ q) (zK _) (show ObjOk X.prog X.w _ _ _ (viewO s.heap.objs.size d) from ⟨⟨_,Heap.get?_push_size _ rfl,rfl,rfl⟩,⟨_,Heap.get?_push_size _ rfl⟩,λh1 h2 ⟨o,e,c,dd⟩ k=>⟨o,k o e,c,dd⟩⟩),rfl,q _ I.fresh⟩
theorem kv_get {kv:List (Int×Int)}{vs:List (Key×Value)} (r:KV (kv.map λp=>(Sum.inl p.1,V.int p.2)) vs) {j:Nat}{k:Key}{x:Value} (h:vs[j]?=some (k,x)):∃ p t,kv[j]?=some p/\k=Sum.inl p.1/\x=Value.int p.2 t:=by
 induction kv generalizing vs j with
 | nil=>cases r;cases h
 | cons p kv ih=>
  cases r with
  | cons a b=>
   cases j with
   | zero=>
    obtain rfl:_=(k,x):=Option.some.inj h
    obtain ⟨e1,t,e2⟩:=a
    exact ⟨p,t,rfl,e1.symm,e2⟩
   | succ j=>exact ih b h
theorem call_sortItems (hc:X.calm=true):CallR X (.builtin "sorted") (λxs H Q=>∃ v d,∃ kv:List (Int×Int),xs=[.ref v]/\H v=some (viewO v d)/\H d=some (.dK (kv.map λp=>(Sum.inl p.1,V.int p.2)))/\kv.length < 64 /\
  ∀ l (qs:List (Addr×List Int)) H',Same H H'->H l=none->(∀ a∈qs,H a.1=none)->H' l=some (.lst (qs.map λa=>V.ref a.1))->(∀ a∈qs,H' a.1=some (.tup (a.2.map V.int)))->(qs.map (·.2)).Perm (kv.map λp=>[p.1,p.2])->qs.Pairwise (λa b=>lx b.2 a.2=false)->Q (.ref l) H'):=by
 intro pins s σ H xs us Q I r h
 obtain ⟨v,d,kv,rfl,hv,hd,h64,q⟩:=h
 obtain ⟨u,rfl,rx⟩:=vals1 r
 cases rx
 have line:1002<=sizeLine:=by rw [sizeLine_eq];decide
 obtain ⟨_,hS,vs,rv,m⟩:=dk_of I.hok hd
 have lv:vs.length=kv.length:=by have:=Paired.length rv;rw [zA] at this;omega
 obtain ⟨od,es,ep,ho,hx,hdat,hk,hp,hnd⟩:=m
 have view:s.heap.IsItemsView v d:=(I.hok v _ hv).1
 refine Calls.call_function_entry kind_sorted plain_sorted entry_sorted (args_sorted1 _) ?_
 unfold Builtin.«sorted»
 refine wpAny_bind (m:=checkCount "sorted" 1 1 _) (wpAny_pure ?_)
 refine wpAny_bind (kdx_collect (knd:=mixKind X.prog X.w) (kvs:=vs) (ep:=ep) (I.ok.hd hc) view ⟨od,es,ho,hx,hdat,hk,hp,hnd⟩ (by omega) λh1 tk as hk1 hl hG=>?_)
 have la:as.length=kv.length:=hl.trans lv
 have each:∀ p∈as.zip (kv.map λp=>[p.1,p.2]),p.1∈as/\∃ i j:Int,∃ t t',p.2=[i,j]/\h1.get? p.1=some { cls:=.type "tuple", data:=.seq #[.int i t,.int j t'] }:=λp hp=>by
  obtain ⟨j,hj⟩:=List.mem_iff_getElem?.mp hp
  rw [List.getElem?_zip_eq_some] at hj
  obtain ⟨e1,e2⟩:=hj
  obtain ⟨key,k,x,g1,g2,g3⟩:=hG.pairs j p.1 e1
  obtain ⟨w,t,w1,w2,w3⟩:=kv_get rv g1
  rw [zC,w1] at e2
  have e3:[w.1,w.2]=p.2:=Option.some.inj e2
  rcases xu g2 with ⟨i,t',f1,f2⟩ | ⟨i,t',f1,f2⟩
  ·rw [f1] at w2
   cases w2
   exact ⟨zD e1,_,_,t',t,e3.symm,by rw [g3,f2,w3]⟩
  ·rw [f1] at w2;cases w2
 have fst:(as.zip (kv.map λp=>[p.1,p.2])).map (·.1)=as:=by
  rw [List.map_fst_zip];rw [zA];omega
 have snd:(as.zip (kv.map λp=>[p.1,p.2])).map (·.2)=kv.map λp=>[p.1,p.2]:=by
  rw [List.map_snd_zip];rw [zA];omega
 have ndA:as.Nodup:=hG.rise.imp λh=>zS h
 have lps:(as.zip (kv.map λp=>[p.1,p.2])).length=kv.length:=by rw [List.length_zip,zA];omega
 have efst:as.map Value.ref=(as.zip (kv.map λp=>[p.1,p.2])).map λa=>Value.ref a.1:=by
  conv=>lhs;rw [<-fst]
  rw [zX];rfl
 generalize as.zip (kv.map λp=>[p.1,p.2])=ps at each fst snd lps efst
 have ndP:((ps.map λa=>(a.1,a.2.map V.int)).map (·.1)).Nodup:=by
  rw [zX]
  show (ps.map λa=>a.1).Nodup
  rw [show (ps.map λa=>a.1)=as from fst];exact ndA
 have I1:Inv X pins σ (addT H (ps.map λa=>(a.1,a.2.map V.int))) { s with heap:=h1,toks:=tk }:=by
  refine I.tupsLaid hk1 (λp hp=>?_) ndP λp hp=>?_
  ·obtain ⟨a,ha,rfl⟩:=zO.mp hp
   exact yz (hG.above _ (each a ha).1)
  ·obtain ⟨a,ha,rfl⟩:=zO.mp hp
   obtain ⟨_,i,j,t,t',e1,e2⟩:=each a ha
   refine ⟨by rw [e1];show 2<=_;omega,[.int i t,.int j t'],?_,?_⟩
   ·rw [e1];exact .cons ⟨t,rfl⟩ (.cons ⟨t',rfl⟩ .nil)
   ·exact ⟨_,e2,rfl,_,rfl⟩
 have fr:∀ p∈ps,H p.1=none:=λp hp=>I.hok.fresh (yz (hG.above _ (each p hp).1))
 have sm:Same H (addT H (ps.map λa=>(a.1,a.2.map V.int))):=addT_same λp hp=>by
  obtain ⟨a,ha,rfl⟩:=zO.mp hp
  exact fr a ha
 rw [efst]
 refine wpAny_bind (wpAny_newList ?_ (by rw [zA];omega))
 have I2:=I1.lnew (t':=tk) (vals_of_refs ps) (by rw [zA];omega)
 have nB:=I1.fresh
 refine wpAny_bind (wpAny_holding (wpAny_mono (lsortT (Z:=λs'=>EP X pins σ Q (.ref h1.objs.size) s') I2 xJ (by omega) (λa ha=>?_) λqs s' pm pw I3=>?_) (λ_ s' z=>wpAny_pure ⟨_,rfl,z⟩) λ_ _ e=>e))
 ·obtain ⟨_,i,j,t,t',e1,e2⟩:=each a ha
  refine ⟨?_,by rw [e1];simp⟩
  have:=addT_at (H:=H) ndP (a.1,a.2.map V.int) (zO.mpr ⟨a,ha,rfl⟩)
  rw [xO (xK this nB)];exact this
 ·rw [upd_upd] at I3
  refine ⟨.ref h1.objs.size,_,I3,rfl,q _ qs _ ?_ ?_ ?_ xJ ?_ ?_ pw⟩
  ·intro b u e
   have:=sm b u e
   rw [xO (xK this nB)];exact this
  ·cases e:H h1.objs.size with
   | none=>rfl
   | some u=>have:=sm _ u e;rw [nB] at this;cases this
  ·exact λa ha=>fr a (pm.mem_iff.mp ha)
  ·intro a ha
   have:=addT_at (H:=H) ndP (a.1,a.2.map V.int) (zO.mpr ⟨a,pm.mem_iff.mp ha,rfl⟩)
   rw [xO (xK this nB)];exact this
  ·rw [<-snd];exact pm.map _
end
end L2
namespace L2
open PySem PySem.Spec PyProof.Rows
theorem op_inD {X:Cx} (hu:X.A.units + 64 < cLine):OpR X (compareOp .In) (λx y H Q=>∃ a o,y=.ref a/\DGet H a x o/\Q (.bl o.isSome) H):=by
 intro pins s σ H x y v u Q I rx ry h
 obtain ⟨a,o,rfl,g,q⟩:=h
 cases ry
 exact d_in (by omega) I g rx λs' I'=>⟨.bl _,H,I',rfl,q⟩
theorem op_notInD {X:Cx} (hu:X.A.units + 64 < cLine):OpR X (compareOp .NotIn) (λx y H Q=>∃ a o,y=.ref a/\DGet H a x o/\Q (.bl (!o.isSome)) H):=by
 intro pins s σ H x y v u Q I rx ry h
 obtain ⟨a,o,rfl,g,q⟩:=h
 cases ry
 exact d_notIn (by omega) I g rx λs' I'=>⟨.bl _,H,I',rfl,q⟩
end L2
namespace Sm
open PySem L2 SmSort
def letRow (x:L4):List V:=[.int (x.s:Int),.int x.a,.int (x.w:Int),.int x.z]
def kvV (kv:List (Int×Int)):List (Key×V):=kv.map λp=>(Sum.inl p.1,V.int p.2)
structure TripAt (C:Addr) (H:Hp) (x b dx lL lH lA lP lD:Addr) (ls:List (Addr×L4)) (hs:List (Addr×List (Int×Int))) (os:List (Option Int)) (ns:List Int) (r:Int) (ds:List V):Prop where
 ins:H x=some (.ins C dx [("book", .ref b),("letters", .ref lL),("holders", .ref lH),("arrivals", .ref lA),("passed", .ref lP),("reached", .int r),("deeds", .ref lD)])
 lts:H lL=some (.lst (ls.map λl=>V.ref l.1))
 rows:∀ l∈ls,H l.1=some (.tup (letRow l.2))
 hol:H lH=some (.lst (hs.map λh=>V.ref h.1))
 hols:∀ h∈hs,H h.1=some (.dK (kvV h.2))
 arr:H lA=some (.lst (os.map oV))
 pas:H lP=some (.lst (ns.map V.int))
 dee:H lD=some (.lst ds)
theorem TripAt.same {C:Addr}{H H':Hp}{x b dx lL lH lA lP lD:Addr}{ls:List (Addr×L4)}{hs:List (Addr×List (Int×Int))}{os:List (Option Int)}{ns:List Int}{r:Int}{ds:List V} (t:TripAt C H x b dx lL lH lA lP lD ls hs os ns r ds) (s:Same H H') :
  TripAt C H' x b dx lL lH lA lP lD ls hs os ns r ds:=⟨s _ _ t.ins,s _ _ t.lts,λl hl=>s _ _ (t.rows l hl),s _ _ t.hol,λh hh=>s _ _ (t.hols h hh),s _ _ t.arr,s _ _ t.pas,s _ _ t.dee⟩
def begA (x:L4):Option Int:=if x.s=x.w/\x.a<=x.z then some x.a else none
def spTakes (C:Addr):Sp:=λvs H Q _=>∃ x b dx lL lH lA lP lD ls hs os ns r ds,∃ n:Nat,∃ w:Int,∃ l,vs=[.ref x,.int (n:Int),.int w]/\TripAt C H x b dx lL lH lA lP lD ls hs os ns r ds/\ls[n]?=some l /\
 ∀ H',Same H H'->Q (.bl (!(decide (w=l.2.s) || decide (w=l.2.w)))) H'
def noteA (os:List (Option Int)) (n:Nat) (l:L4) (w t:Int):List (Option Int):=if w=l.w/\t<=l.z/\os[n]?=some none then os.set n (some t) else os
def spNote (C:Addr):Sp:=λvs H Q _=>∃ x b dx lL lH lA lP lD ls hs os ns r ds,∃ n:Nat,∃ w t:Int,∃ l,vs=[.ref x,.int (n:Int),.int w,.int t]/\TripAt C H x b dx lL lH lA lP lD ls hs os ns r ds/\ls[n]?=some l/\n < os.length /\
 ∀ H',But lA H H'->H' lA=some (.lst ((noteA os n l.2 w t).map oV))->Q .non H'
def spHaving (C:Addr):Sp:=λvs H Q _=>∃ x b dx lL lH lA lP lD ls hs os ns r ds,∃ n:Nat,∃ h,vs=[.ref x,.int (n:Int)]/\TripAt C H x b dx lL lH lA lP lD ls hs os ns r ds/\hs[n]?=some h/\h.2.length < 64 /\
 ∀ l (qs:List (Addr×List Int)) H',Same H H'->H l=none->(∀ a∈qs,H a.1=none)->H' l=some (.lst (qs.map λa=>V.ref a.1))->(∀ a∈qs,H' a.1=some (.tup (a.2.map V.int)))->(qs.map (·.2)).Perm (h.2.map λp=>[p.1,p.2])->qs.Pairwise (λa b=>lx b.2 a.2=false)->Q (.ref l) H'
def spDone (C:Addr):Sp:=λvs H Q _=>∃ x b dx lL lH lA lP lD ls hs os ns r ds,vs=[.ref x]/\TripAt C H x b dx lL lH lA lP lD ls hs os ns r ds/\∀ l,H l=none->Q (.ref l) (upd H l (.lst ds))
def inBag (w:Int) (l:Option (Addr×L4)) (h:Option (Addr×List (Int×Int))):Bool:=match l,h with
 | some l,some h=>(h.2.any λp=>decide (p.1=w)) && !(decide (w=l.2.s) || decide (w=l.2.w))
 | _,_=>false
def bagTo (w:Int) (ls:List (Addr×L4)) (hs:List (Addr×List (Int×Int))):Nat->List Int
 | 0=>[]
 | i + 1=>bagTo w ls hs i++(if inBag w ls[i]? hs[i]? then [(i:Int)] else [])
theorem bagTo_len (w:Int) (ls:List (Addr×L4)) (hs:List (Addr×List (Int×Int))):∀ i,(bagTo w ls hs i).length<=i
 | 0=>zK _
 | i + 1=>by
  have:=bagTo_len w ls hs i
  unfold bagTo
  rw [zW]
  split <;> simp <;> omega
def spBag (C:Addr):Sp:=λvs H Q _=>∃ x b dx lL lH lA lP lD ls hs os ns r ds,∃ w:Int,vs=[.ref x,.int w]/\TripAt C H x b dx lL lH lA lP lD ls hs os ns r ds/\hs.length<=41/\hs.length=ls.length /\
 ∀ l H',Same H H'->H l=none->H' l=some (.lst ((bagTo w ls hs hs.length).map V.int))->Q (.ref l) H'
theorem valV_any {kv:List (Int×Int)}{w:Int}:(valV (kvV kv) (Sum.inl w)).isSome=kv.any λp=>decide (p.1=w):=by
 unfold valV kvV
 rw [yp,yE,List.find?_isSome,List.any_eq_true]
 constructor
 ·rintro ⟨p,hp,e⟩
  obtain ⟨q,hq,rfl⟩:=zO.mp hp
  have e1:=of_decide_eq_true e
  exact ⟨q,hq,decide_eq_true (Sum.inl.inj e1)⟩
 ·rintro ⟨q,hq,e⟩
  exact ⟨_,zO.mpr ⟨q,hq,rfl⟩,decide_eq_true (congrArg Sum.inl (of_decide_eq_true e))⟩
theorem same_put {H H':Hp}{l:Addr}{o:HO} (s:Same H H') (h:H l=none):Same H (upd H' l o):=λb u e=>by
 rw [xO (xK e h)];exact s b u e
theorem Same.but {H H':Hp}{x:Addr} (s:Same H H'):But x H H':=λb u _ e=>s b u e
def osTo (ls:List (Addr×L4)) (i:Nat):List (Option Int):=((ls.take i).map λl=>begA l.2)++List.replicate (ls.length - i) none
theorem osTo_0 (ls:List (Addr×L4)):osTo ls 0=List.replicate ls.length none:=by simp [osTo]
theorem osTo_all (ls:List (Addr×L4)):osTo ls ls.length=ls.map λl=>begA l.2:=by simp [osTo]
theorem osTo_len {ls:List (Addr×L4)}{i:Nat} (h:i<=ls.length):(osTo ls i).length=ls.length:=by simp [osTo];omega
theorem osTo_step {ls:List (Addr×L4)}{i:Nat}{l:Addr×L4} (h:ls[i]?=some l):noteA (osTo ls i) i l.2 (l.2.s:Int) l.2.a=osTo ls (i + 1):=by
 have hi:i < ls.length:=(zB.mp h).1
 have lt:((ls.take i).map λl=>begA l.2).length=i:=by simp;omega
 obtain ⟨k,ek⟩:∃ k,ls.length - i=k + 1:=⟨ls.length - i - 1,by omega⟩
 have e1:ls.length - (i + 1)=k:=by omega
 have at1:(osTo ls i)[i]?=some none:=by
  unfold osTo
  rw [zy (by omega),lt,ek,Nat.sub_self]
  rfl
 have e2:osTo ls (i + 1)=((ls.take i).map λl=>begA l.2)++begA l.2::List.replicate k none:=by
  unfold osTo
  rw [wZ h,zQ,e1,List.append_assoc]
  rfl
 have e3:osTo ls i=((ls.take i).map λl=>begA l.2)++none::List.replicate k none:=by
  unfold osTo
  rw [ek,yK]
 rw [e2]
 unfold noteA
 rw [at1]
 by_cases c:l.2.s=l.2.w/\l.2.a<=l.2.z
 ·rw [if_pos ⟨by rw [c.1],c.2,rfl⟩,e3,List.set_append_right _ _ (by omega),lt,Nat.sub_self]
  have:begA l.2=some l.2.a:=by unfold begA;rw [if_pos c]
  rw [this]
  rfl
 ·rw [if_neg (λz=>c ⟨by have:=z.1;omega,z.2.1⟩),e3]
  have:begA l.2=none:=by unfold begA;rw [if_neg c]
  rw [this]
end Sm
namespace L2
open PySem PySem.Spec PyProof.Rows
section
variable {X:Cx}{k:Nat}{f C:Addr}{fd:FuncData}{ps:List Str}{sp:Sp}{dvs:List V}{ds:List Value}{m:Str}{apos pos:Pos}{e o:Expr}{es:List Expr}{ta:TE}{t:TA}
theorem methX {pins:List (Addr×Obj)}{σ:St}{H:Hp}{s:Shared}{Q:VK}{Eh:XK}{Z:Value->Shared->Prop}{pl:Sem Bool} (he:PE X.nox o ta) (c:Cls X.K C) (hm:Meth X.K C m f) (F:FnOk X.prog X.w X.K X.mg X.base (CXE X.prog X.w) k f fd ps sp) (hr:Room k X.A) (hb:Binds X.K fd ps ds) (hd:Vals dvs ds) (ha:PA X.nox (e::es) t)
  (I:Inv X pins σ H s) (h:tMeth C m sp dvs Eh ta t σ H Q) (hx:∀ H1 s1 e s',Inv X pins σ H1 s1->CXE X.prog X.w X.stack H1 s1 Eh e s'->Z e s')
  (hst:starEach (e::es) X.env=(false,eval e X.env)::starEach es X.env) (hpl:(backTo pos (starEach es X.env)).any (·.1)=false)
  (ht:eval (.Call (.Attribute o m apos) (e::es) [] pos) X.env=(do
   let ov <- eval o X.env
   standAt apos.atName
   let (f,first) <- holding [ov] (getMethod ov m pl)
   callWith pos f first (backTo pos (starEach (e::es) X.env)) (backToKw pos (keywordEach [] X.env)))) :
  wpAny (model X.prog X.w) X.A (eval (.Call (.Attribute o m apos) (e::es) [] pos) X.env) (EP X pins σ Q) Z s:=by
 refine PySem.W.methodCall_KW (pl:=pl) (wpAny_mono (he pins s σ H _ (I.wish _) h) (λu s1 ⟨x,H1,I1,rx,a,dx,fs,ex,ea,l,q⟩=>?_) λ_ _ z=>z.elim) ht
 subst ex
 obtain rfl:u=Value.ref a:=rx
 have J1:=I1.unwish
 refine getmeth_ok J1 ea c hm l ?_
 refine yo (first:=[.ref a]) (h₀:=X.base) I.ok.mod.kin hm.kp (wpAny_mono (ha pos pins s1 σ H1 _ I1 q) (λus s2 ⟨vs,H2,I2,r,q2⟩=>⟨I2.unwish.kIn,?_⟩) λ_ _ z=>z.elim) hst hpl
 exact run_fnX (us:=.ref a::us) (vs:=.ref a::vs) F hr hb hd (λe s' z=>hx H2 s2 e s' I2.unwish z) I2.unwish (.cons rfl r) q2
theorem psx_meth {pl:Sem Bool}{pos':Pos} (he:PE X.nox o ta) (c:Cls X.K C) (hm:Meth X.K C m f) (F:FnOk X.prog X.w X.K X.mg X.base (CXE X.prog X.w) k f fd ps sp) (hr:Room k X.A) (hb:Binds X.K fd ps ds) (hd:Vals dvs ds) (ha:PA X.nox (e::es) t)
  (hst:starEach (e::es) X.env=(false,eval e X.env)::starEach es X.env:=by rfl) (hpl:(backTo pos (starEach es X.env)).any (·.1)=false:=by rfl)
  (ht:eval (.Call (.Attribute o m apos) (e::es) [] pos) X.env=(do
   let ov <- eval o X.env
   standAt apos.atName
   let (f,first) <- holding [ov] (getMethod ov m pl)
   callWith pos f first (backTo pos (starEach (e::es) X.env)) (backToKw pos (keywordEach [] X.env))):=by rfl)
  (hs:swapsWith (.Call (.Attribute o m apos) (e::es) [] pos) none pos'.line X.env=pure false:=by rfl) :
  PSx X [.Expr (.Call (.Attribute o m apos) (e::es) [] pos) pos'] (λEh=>tDrop (tMeth C m sp dvs Eh ta t)):=by
 intro pins s σ H D Eh Z I h hx
 refine wpAny_execs_cons (wpAny_Expr_any (thn (methX he c hm F hr hb hd ha I h hx hst hpl ht) λv s1 ⟨y,H1,I1,r1,q1⟩=>?_) I.quiet hs)
 exact wpAny_execs_nil ⟨σ,H1,I1,q1⟩
end
end L2
namespace L2
open PySem PySem.Spec PyProof.Rows
theorem mt_dget {X:Cx} (hu:X.A.units + 64 < cLine):MtR X "dict.get" (λx xs H Q=>∃ a y o,x=.ref a/\xs=[y]/\DGet H a y o/\Q (o.getD .non) H):=by
 intro pins s σ H x xs v us Q I rx rs h
 obtain ⟨a,y,o,rfl,rfl,g,q⟩:=h
 cases rx
 obtain ⟨u,rfl,ru⟩:=vals1 rs
 exact d_get1 (by omega) I g ru λw' s' I' r'=>⟨_,H,I',r',q⟩
end L2
namespace Sm
open PySem L2 SmSort
structure Tr where
 x:Addr
 b:Addr
 dx:Addr
 lL:Addr
 lH:Addr
 lA:Addr
 lP:Addr
 lD:Addr
 ls:List (Addr×L4)
 hs:List (Addr×List (Int×Int))
 os:List (Option Int)
 ns:List Int
 r:Int
 ds:List V
structure TrOk (C:Addr) (H:Hp) (t:Tr) (rooms:List Int) (tr tm:Addr) (ps:List (Addr×M4)) (n0:Nat):Prop where
 at_:TripAt C H t.x t.b t.dx t.lL t.lH t.lA t.lP t.lD t.ls t.hs t.os t.ns t.r t.ds
 bk:BookAt H t.b rooms tr tm ps
 gd:Good rooms.length (ps.map (·.2))
 rm:rooms.length<=12
 lh:t.hs.length=t.ls.length
 lo:t.os.length=t.ls.length
 ln:t.ns.length=ps.length
 few:t.ls.length<=41
 sh:∀ h∈t.hs,h.2.length<=n0
 dn:t.ds.length<=n0
 nd:t.lL≠t.lA/\t.lL≠t.lP/\t.lL≠t.lD/\t.lH≠t.lA/\t.lH≠t.lP/\t.lH≠t.lD/\t.lA≠t.lP/\t.lA≠t.lD/\t.lP≠t.lD
 hnd:(t.hs.map (·.1)).Nodup
def Tr.own (t:Tr) (c:Addr):Prop:=c=t.x\/c=t.lA\/c=t.lP\/c=t.lD\/c∈t.hs.map (·.1)
def Keeps (t:Tr) (H H':Hp):Prop:=∀ c u,¬ t.own c->H c=some u->H' c=some u
theorem Keeps.same {t:Tr}{H H':Hp} (s:Same H H'):Keeps t H H':=λc u _ e=>s c u e
theorem Keeps.trans {t:Tr} {H H1 H2:Hp} (a:Keeps t H H1) (b:Keeps t H1 H2):Keeps t H H2:=λc u n e=>b c u n (a c u n e)
theorem TrOk.same {C:Addr}{H H':Hp}{t:Tr}{rooms:List Int}{tr tm:Addr}{ps:List (Addr×M4)} {n0:Nat} (k:TrOk C H t rooms tr tm ps n0) (s:Same H H'):TrOk C H' t rooms tr tm ps n0:=
 ⟨k.at_.same s,k.bk.same s,k.gd,k.rm,k.lh,k.lo,k.ln,k.few,k.sh,k.dn,k.nd,k.hnd⟩
theorem TrOk.keep {C:Addr}{H H':Hp}{t:Tr}{rooms:List Int}{tr tm:Addr}{ps:List (Addr×M4)} {n0:Nat} (k:TrOk C H t rooms tr tm ps n0) (kp:∀ c u,(t.own c\/c=t.lL\/c=t.lH\/∃ xs,H c=some (.tup xs))->H c=some u->H' c=some u):TrOk C H' t rooms tr tm ps n0:=by
 have tu:Tups H H':=λc xs e=>kp c _ (.inr (.inr (.inr ⟨xs,e⟩))) e
 refine ⟨⟨kp _ _ (.inl (.inl rfl)) k.at_.ins,kp _ _ (.inr (.inl rfl)) k.at_.lts,λl hl=>tu _ _ (k.at_.rows l hl),kp _ _ (.inr (.inr (.inl rfl))) k.at_.hol,λh hh=>kp _ _ (.inl (.inr (.inr (.inr (.inr (zO.mpr ⟨h,hh,rfl⟩)))))) (k.at_.hols h hh),kp _ _ (.inl (.inr (.inl rfl))) k.at_.arr,kp _ _ (.inl (.inr (.inr (.inl rfl)))) k.at_.pas,kp _ _ (.inl (.inr (.inr (.inr (.inl rfl))))) k.at_.dee⟩,k.bk.tups tu,k.gd,k.rm,k.lh,k.lo,k.ln,k.few,k.sh,k.dn,k.nd,k.hnd⟩
def kvget (kv:List (Int×Int)) (w:Int):Option Int:=(kv.find? λp=>decide (p.1=w)).map (·.2)
def kvput (kv:List (Int×Int)) (w t:Int):List (Int×Int):=if (kv.any λp=>decide (p.1=w))=true then kv.map (λp=>if p.1=w then (p.1,t) else p) else kv++[(w,t)]
def kvdel (kv:List (Int×Int)) (w:Int):List (Int×Int):=kv.filter λp=>decide (p.1≠w)
theorem valV_kv {w:Int}:∀ {kv:List (Int×Int)},valV (kvV kv) (Sum.inl w)=(kvget kv w).map V.int
 | []=>rfl
 | p::kv=>by
  have ih:=valV_kv (w:=w) (kv:=kv)
  by_cases c:p.1=w
  ·rw [show kvV (p::kv)=(Sum.inl p.1,V.int p.2)::kvV kv from rfl,wG (congrArg Sum.inl c)]
   simp [kvget,c]
  ·rw [show kvV (p::kv)=(Sum.inl p.1,V.int p.2)::kvV kv from rfl,wH (λz=>c (Sum.inl.inj z)),ih]
   simp [kvget,c]
theorem kv_any {kv:List (Int×Int)}{w:Int}:(kv.any λp=>decide (p.1=w))=(kvget kv w).isSome:=by
 rw [<-valV_any,valV_kv,yE]
theorem putK_kv {kv:List (Int×Int)}{w t:Int}:putK (kvV kv) (Sum.inl w) (.int t)=kvV (kvput kv w t):=by
 have e:((kvV kv).any λp=>decide (p.1=(Sum.inl w:Key)))=kv.any λp=>decide (p.1=w):=by
  unfold kvV
  rw [List.any_map]
  congr 1
  funext p
  exact decide_eq_decide.mpr ⟨Sum.inl.inj,congrArg Sum.inl⟩
 unfold putK kvput
 rw [e]
 split
 ·unfold kvV
  rw [zX,zX]
  refine yL λp _=>?_
  by_cases c:p.1=w
  ·simp [c]
  ·simp [c]
 ·unfold kvV
  rw [zQ];rfl
theorem dropK_kv {kv:List (Int×Int)}{w:Int}:dropK (kvV kv) (Sum.inl w)=kvV (kvdel kv w):=by
 unfold dropK kvV kvdel
 rw [List.filter_map]
 congr 1
 refine List.filter_congr λp _=>?_
 exact decide_eq_decide.mpr ⟨λh z=>h (congrArg Sum.inl z),λh z=>h (Sum.inl.inj z)⟩
theorem kvput_len (kv:List (Int×Int)) (w t:Int):(kvput kv w t).length<=kv.length + 1:=by
 unfold kvput
 split
 ·rw [zA];omega
 ·rw [zW];exact zK _
theorem kvdel_len (kv:List (Int×Int)) (w:Int):(kvdel kv w).length<=kv.length:=List.length_filter_le _ _
structure XC where
 deed:Addr
 meet:Addr
 lett:Addr
 walk:Addr
 there:Addr
 has:Addr
 pass:Addr
 room:Addr
def XC.of (X:XC):Nat->Addr
 | 0=>X.deed
 | 1=>X.meet
 | 2=>X.lett
 | 3=>X.walk
 | 4=>X.there
 | 5=>X.has
 | 6=>X.pass
 | _=>X.room
def takB (L:L4) (o:Int):Bool:=!(decide (o=L.s) || decide (o=L.w))
def othI (M:M4) (g:Int):Int:=if g=M.lo then M.hi else M.lo
def codeP2 (rooms:List Int) (M:M4) (L:L4) (kv:List (Int×Int)) (n:Int) (bag:Nat) (g:Int):Nat:=
 if g=M.lo\/g=M.hi then
  if below (kvget kv g) M.t=true then
   if (kvget kv (othI M g)).isSome=true then 5
   else if M.m<=n then 6
   else if (takB L (othI M g) && decide ((rooms[(othI M g).toNat]?.getD 0)<=(bag:Int)))=true then 7
   else 8
  else 4
 else 3
def codeP (rooms:List Int) (ms:List M4) (t:Tr) (m l g:Int):Nat:=
 if 0<=m/\m < ms.length/\t.r<=m then
  if 0<=l/\l < t.ls.length then
   match ms[m.toNat]?,t.ls[l.toNat]?,t.hs[l.toNat]? with
   | some M,some L,some h=>codeP2 rooms M L.2 h.2 (t.ns[m.toNat]?.getD 0) (bagTo (othI M g) t.ls t.hs t.hs.length).length g
   | _,_,_=>2
  else 2
 else 1
def codeD (rooms:List Int) (t:Tr) (l w:Int):Nat:=
 if 0<=l/\l < t.ls.length then
  if 0<=w/\w < rooms.length then
   match t.hs[l.toNat]? with
   | some h=>if (kvget h.2 w).isSome=true then 8 else 4
   | none=>4
  else 3
 else 2
inductive Dd where
 | pass (give:Bool) (m l g:Int)
 | drop (l w:Int)
def wordG:Bool->Str
 | true=>Str.ofString "give"
 | false=>Str.ofString "copy"
def Dd.vs:Dd->List V
 | .pass gv m l g=>[.str (wordG gv),.int m,.int l,.int g]
 | .drop l w=>[.str (Str.ofString "drop"),.int l,.int w]
def codeT (rooms:List Int) (ms:List M4) (t:Tr):Dd->Nat
 | .pass _ m l g=>codeP rooms ms t m l g
 | .drop l w=>codeD rooms t l w
def Tr.setH (t:Tr) (l:Nat) (kv:List (Int×Int)):Tr:={ t with hs:=match t.hs[l]? with | some h=>t.hs.set l (h.1,kv) | none=>t.hs }
def Tr.kv (t:Tr) (l:Nat):List (Int×Int):=match t.hs[l]? with | some h=>h.2 | none=>[]
def Tr.passed (t:Tr) (m l:Nat) (M:M4) (L:L4) (o:Int):Tr:=
 { t.setH l (kvput (t.kv l) o M.t) with ns:=t.ns.set m (t.ns[m]?.getD 0 + 1),r:=m,os:=noteA t.os l L o M.t }
def Tr.doneP (t:Tr) (give:Bool) (m l:Nat) (g:Int) (M:M4) (L:L4):Tr:=
 if give=true then (t.passed m l M L (othI M g)).setH l (kvdel ((t.passed m l M L (othI M g)).kv l) g) else t.passed m l M L (othI M g)
def Tr.doneT (t:Tr) (ms:List M4) (y:V) (d:Dd):Tr:={ (match d with
 | .pass give m l g=>(match ms[m.toNat]?,t.ls[l.toNat]? with | some M,some L=>t.doneP give m.toNat l.toNat g M L.2 | _,_=>t)
 | .drop l w=>t.setH l.toNat (kvdel (t.kv l.toNat) w)) with ds:=t.ds++[y] }
def DeedAt (H:Hp) (y:V) (d:Dd):Prop:=∃ a,y=.ref a/\H a=some (.tup d.vs)
section
variable {C:Addr}{H H':Hp}{t:Tr}{rooms:List Int}{tr tm:Addr}{ps:List (Addr×M4)} {n0:Nat}
theorem TrOk.kvAt (k:TrOk C H t rooms tr tm ps n0) {l:Nat} (hl:l < t.ls.length):∃ h,t.hs[l]?=some h/\t.kv l=h.2/\H h.1=some (.dK (kvV h.2)):=by
 have hh:t.hs[l]?=some (t.hs[l]'(by rw [k.lh];exact hl)):=zE _
 refine ⟨_,hh,?_,k.at_.hols _ (zi _)⟩
 unfold Tr.kv;rw [hh]
theorem TrOk.hset (k:TrOk C H t rooms tr tm ps n0) {l:Nat}{h:Addr×List (Int×Int)} (hh:t.hs[l]?=some h) {kv:List (Int×Int)} (lk:kv.length<=n0):TrOk C (upd H h.1 (.dK (kvV kv))) (t.setH l kv) rooms tr tm ps n0:=by
 have hl:l < t.hs.length:=(zB.mp hh).1
 have eh:t.hs[l]=h:=(zB.mp hh).2
 have hm:=zD hh
 have hd:=k.at_.hols h hm
 have e:(t.setH l kv)={ t with hs:=t.hs.set l (h.1,kv) }:=by unfold Tr.setH;rw [hh]
 rw [e]
 have em:(t.hs.set l (h.1,kv)).map (·.1)=t.hs.map (·.1):=by
  rw [zq]
  refine List.ext_getElem (by simp) λi h1 h2=>?_
  rw [List.getElem_set]
  split
  ·rename_i z;subst z;simp [eh]
  ·rfl
 have nL:∀ {c:Addr}{o:HO},H c=some o->(∀ z,o≠.dK z)->upd H h.1 (.dK (kvV kv)) c=some o:=λ{c o} e n=>by rw [xO (wP e hd (by intro z;exact n _ z))];exact e
 have tu:Tups H (upd H h.1 (.dK (kvV kv))):=Tups.setD hd
 refine ⟨⟨nL k.at_.ins (by intro _ z;cases z),nL k.at_.lts (by intro _ z;cases z),λl hl=>tu _ _ (k.at_.rows l hl),?_,λg hg=>?_,nL k.at_.arr (by intro _ z;cases z),nL k.at_.pas (by intro _ z;cases z),nL k.at_.dee (by intro _ z;cases z)⟩,k.bk.tups tu,k.gd,k.rm,by rw [zm];exact k.lh,k.lo,k.ln,k.few,λg hg=>?_,k.dn,k.nd,by rw [em];exact k.hnd⟩
 ·have:=nL k.at_.hol (by intro _ z;cases z)
  rw [this]
  congr 2
  have:=congrArg (List.map V.ref) em
  rw [zX,zX] at this
  exact this.symm
 ·obtain ⟨j,hj⟩:=List.mem_iff_getElem?.mp hg
  rw [zY] at hj
  by_cases c:l=j
  ·subst c
   rw [if_pos rfl,if_pos hl] at hj
   cases hj
   exact xJ
  ·rw [if_neg c] at hj
   have hj':j < t.hs.length:=(zB.mp hj).1
   have eg:t.hs[j]=g:=(zB.mp hj).2
   have ne:g.1≠h.1:=λz=>by
    have:=yA.mp k.hnd
    have l1:l < (t.hs.map (·.1)).length:=by rw [zA];exact hl
    have l2:j < (t.hs.map (·.1)).length:=by rw [zA];exact hj'
    rcases Nat.lt_or_gt_of_ne c with cc | cc
    ·exact this l j l1 l2 cc (by rw [z6,z6,eh,eg];exact z.symm)
    ·exact this j l l2 l1 cc (by rw [z6,z6,eh,eg];exact z)
   rw [xO ne]
   exact k.at_.hols g (zD hj)
 ·rcases List.mem_or_eq_of_mem_set hg with h1 | h1
  ·exact k.sh g h1
  ·rw [h1];exact lk
theorem TrOk.hkeep (k:TrOk C H t rooms tr tm ps n0) {l:Nat}{h:Addr×List (Int×Int)} (hh:t.hs[l]?=some h) {o:HO}:Keeps t H (upd H h.1 o):=λc u n e=>by
 rw [xO λz=>n (.inr (.inr (.inr (.inr (by rw [z];exact zO.mpr ⟨h,zD hh,rfl⟩)))))];exact e
theorem TrOk.pset (k:TrOk C H t rooms tr tm ps n0) {ns:List Int} (ln:ns.length=ps.length):TrOk C (upd H t.lP (.lst (ns.map V.int))) { t with ns:=ns } rooms tr tm ps n0:=by
 obtain ⟨n1,n2,n3,n4,n5,n6,n7,n8,n9⟩:=k.nd
 have tu:Tups H (upd H t.lP (.lst (ns.map V.int))):=Tups.set k.at_.pas
 have nL:∀ {c:Addr}{o:HO},H c=some o->(∀ z,o≠.lst z)->upd H t.lP (.lst (ns.map V.int)) c=some o:=λ{c o} e n=>by rw [xO (wP e k.at_.pas (by intro z;exact n _ z))];exact e
 exact ⟨⟨nL k.at_.ins (by intro _ z;cases z),by rw [xO n2];exact k.at_.lts,λl hl=>tu _ _ (k.at_.rows l hl),by rw [xO n5];exact k.at_.hol,λh hh=>nL (k.at_.hols h hh) (by intro _ z;cases z),by rw [xO n7];exact k.at_.arr,xJ,by rw [xO n9.symm];exact k.at_.dee⟩,k.bk.tups tu,k.gd,k.rm,k.lh,k.lo,ln,k.few,k.sh,k.dn,k.nd,k.hnd⟩
theorem TrOk.dset (k:TrOk C H t rooms tr tm ps n0) {y:V} (dn:t.ds.length < n0):TrOk C (upd H t.lD (.lst (t.ds++[y]))) { t with ds:=t.ds++[y] } rooms tr tm ps n0:=by
 obtain ⟨n1,n2,n3,n4,n5,n6,n7,n8,n9⟩:=k.nd
 have tu:Tups H (upd H t.lD (.lst (t.ds++[y]))):=Tups.set k.at_.dee
 have nL:∀ {c:Addr}{o:HO},H c=some o->(∀ z,o≠.lst z)->upd H t.lD (.lst (t.ds++[y])) c=some o:=λ{c o} e n=>by rw [xO (wP e k.at_.dee (by intro z;exact n _ z))];exact e
 exact ⟨⟨nL k.at_.ins (by intro _ z;cases z),by rw [xO n3];exact k.at_.lts,λl hl=>tu _ _ (k.at_.rows l hl),by rw [xO n6];exact k.at_.hol,λh hh=>nL (k.at_.hols h hh) (by intro _ z;cases z),by rw [xO n8];exact k.at_.arr,by rw [xO n9];exact k.at_.pas,xJ⟩,k.bk.tups tu,k.gd,k.rm,k.lh,k.lo,k.ln,k.few,k.sh,by show (t.ds++[y]).length<=n0;rw [zW];exact dn,k.nd,k.hnd⟩
theorem TrOk.aset (k:TrOk C H t rooms tr tm ps n0) {os:List (Option Int)} (lo:os.length=t.ls.length) (b:But t.lA H H') (h:H' t.lA=some (.lst (os.map oV))):TrOk C H' { t with os:=os } rooms tr tm ps n0:=by
 obtain ⟨n1,n2,n3,n4,n5,n6,n7,n8,n9⟩:=k.nd
 have nL:∀ {c:Addr}{o:HO},H c=some o->(∀ z,o≠.lst z)->H' c=some o:=λ{c o} e n=>b _ _ (wP e k.at_.arr (by intro z;exact n _ z)) e
 have tu:Tups H H':=λc xs e=>nL e (by intro _ z;cases z)
 exact ⟨⟨nL k.at_.ins (by intro _ z;cases z),b _ _ n1 k.at_.lts,λl hl=>tu _ _ (k.at_.rows l hl),b _ _ n4 k.at_.hol,λh hh=>nL (k.at_.hols h hh) (by intro _ z;cases z),h,b _ _ n7.symm k.at_.pas,b _ _ n8.symm k.at_.dee⟩,k.bk.tups tu,k.gd,k.rm,k.lh,lo,k.ln,k.few,k.sh,k.dn,k.nd,k.hnd⟩
theorem TrOk.rset (k:TrOk C H t rooms tr tm ps n0) {r:Int}:TrOk C (upd H t.x (.ins C t.dx [("book", .ref t.b),("letters", .ref t.lL),("holders", .ref t.lH),("arrivals", .ref t.lA),("passed", .ref t.lP),("reached", .int r),("deeds", .ref t.lD)])) { t with r:=r } rooms tr tm ps n0:=by
 have nL:∀ {c:Addr}{o:HO},H c=some o->(∀ a b z,o≠.ins a b z)->upd H t.x (.ins C t.dx [("book", .ref t.b),("letters", .ref t.lL),("holders", .ref t.lH),("arrivals", .ref t.lA),("passed", .ref t.lP),("reached", .int r),("deeds", .ref t.lD)]) c=some o:=λ{c o} e n=>by rw [xO (wP e k.at_.ins (by intro z;exact n _ _ _ z))];exact e
 have tu:Tups H (upd H t.x (.ins C t.dx [("book", .ref t.b),("letters", .ref t.lL),("holders", .ref t.lH),("arrivals", .ref t.lA),("passed", .ref t.lP),("reached", .int r),("deeds", .ref t.lD)])):=λc xs e=>nL e (by intro _ _ _ z;cases z)
 exact ⟨⟨xJ,nL k.at_.lts (by intro _ _ _ z;cases z),λl hl=>tu _ _ (k.at_.rows l hl),nL k.at_.hol (by intro _ _ _ z;cases z),λh hh=>nL (k.at_.hols h hh) (by intro _ _ _ z;cases z),nL k.at_.arr (by intro _ _ _ z;cases z),nL k.at_.pas (by intro _ _ _ z;cases z),nL k.at_.dee (by intro _ _ _ z;cases z)⟩,k.bk.tups tu,k.gd,k.rm,k.lh,k.lo,k.ln,k.few,k.sh,k.dn,k.nd,k.hnd⟩
end
theorem TrOk.mono {C:Addr}{H:Hp}{t:Tr}{rooms:List Int}{tr tm:Addr}{ps:List (Addr×M4)} {n0 n1:Nat} (k:TrOk C H t rooms tr tm ps n0) (l:n0<=n1):TrOk C H t rooms tr tm ps n1:=
 ⟨k.at_,k.bk,k.gd,k.rm,k.lh,k.lo,k.ln,k.few,λh hh=>zk (k.sh h hh) l,zk k.dn l,k.nd,k.hnd⟩
theorem Keeps.put {t:Tr}{H:Hp}{c:Addr}{o:HO} (h:t.own c):Keeps t H (upd H c o):=λa u n e=>by
 rw [xO λz=>n (by rw [z];exact h)];exact e
theorem Keeps.but {t:Tr}{H H':Hp}{c:Addr} (h:t.own c) (b:But c H H'):Keeps t H H':=λa u n e=>b a u (λz=>n (by rw [z];exact h)) e
def spNeedL (C:Addr) (X:XC):Sp:=λvs H Q E=>∃ t l rooms tr tm ps n0,vs=[.ref t.x,.int l]/\TrOk C H t rooms tr tm ps n0/\(0<=l/\l < t.ls.length->Q .non H)/\(¬ (0<=l/\l < t.ls.length)->E (.ref X.lett) none H)
def spNeedD (C:Addr) (X:XC):Sp:=λvs H Q E=>∃ t l w rooms tr tm ps n0,vs=[.ref t.x,.int l,.int w]/\TrOk C H t rooms tr tm ps n0/\(codeD rooms t l w=8->Q .non H)/\(codeD rooms t l w≠8->E (.ref (X.of (codeD rooms t l w))) none H)
def spNeedP (C:Addr) (X:XC):Sp:=λvs H Q E=>∃ t m l g rooms tr tm ps n0,vs=[.ref t.x,.int m,.int l,.int g]/\TrOk C H t rooms tr tm ps n0/\(codeP rooms (ps.map (·.2)) t m l g=8->∀ H',Same H H'->Q .non H')/\(codeP rooms (ps.map (·.2)) t m l g≠8->∀ H',Same H H'->E (.ref (X.of (codeP rooms (ps.map (·.2)) t m l g))) none H')
theorem noteA_len {os:List (Option Int)}{n:Nat}{l:L4}{w t:Int}:(noteA os n l w t).length=os.length:=by
 unfold noteA
 split
 ·rw [zm]
 ·rfl
def Dd.isP:Dd->Bool
 | .pass _ _ _ _=>true
 | .drop _ _=>false
def spAreW:Sp:=λvs H Q _=>∃ a ns,vs=[.ref a]/\H a=some (.tup (List.map V.int ns))/\ns.length<=10/\∀ H',Same H H'->Q (.bl true) H'
def spIsPass:Sp:=λvs H Q _=>∃ y,vs=[y]/\((∃ d,DeedAt H y d/\∀ H',Same H H'->Q (.bl d.isP) H')\/∃ a xs,y=.ref a/\H a=some (.lst xs)/\Q (.bl false) H)
def spIsDrop:Sp:=λvs H Q _=>∃ y,vs=[y]/\((∃ l w,DeedAt H y (.drop l w)/\∀ H',Same H H'->Q (.bl true) H')\/∃ a xs,y=.ref a/\H a=some (.lst xs)/\Q (.bl false) H)
theorem codeP_at {rooms:List Int}{ms:List M4}{t:Tr}{m l:Nat}{g n:Int}{M:M4}{L:Addr×L4}{h:Addr×List (Int×Int)} (hr:t.r<=m) (hM:ms[m]?=some M) (hL:t.ls[l]?=some L) (hh:t.hs[l]?=some h) (hn:t.ns[m]?=some n) :
  codeP rooms ms t m l g=codeP2 rooms M L.2 h.2 n (bagTo (othI M g) t.ls t.hs t.hs.length).length g:=by
 have h1:m < ms.length:=(zB.mp hM).1
 have h2:l < t.ls.length:=(zB.mp hL).1
 unfold codeP
 rw [if_pos ⟨by omega,by omega,hr⟩,if_pos ⟨by omega,by omega⟩,zH,zH,hM,hL,hh,hn]
 rfl
theorem codeP8 {rooms:List Int}{ms:List M4}{t:Tr}{m l g:Int} (lh:t.hs.length=t.ls.length) (e:codeP rooms ms t m l g=8):∃ (m' l':Nat) (M:M4) (L:Addr×L4) (h:Addr×List (Int×Int)),m=m'/\l=l'/\ms[m']?=some M/\t.ls[l']?=some L/\t.hs[l']?=some h/\t.r<=m/\(g=M.lo\/g=M.hi)/\below (kvget h.2 g) M.t=true/\(kvget h.2 (othI M g)).isSome=false/\codeP2 rooms M L.2 h.2 (t.ns[m']?.getD 0) (bagTo (othI M g) t.ls t.hs t.hs.length).length g=8:=by
 unfold codeP at e
 split at e
 ·rename_i c1
  split at e
  ·rename_i c2
   obtain ⟨m',rfl⟩:=zM c1.1
   obtain ⟨l',rfl⟩:=zM c2.1
   rw [zH,zH] at e
   have h1:ms[m']?=some (ms[m']'(by omega)):=zE _
   have h2:t.ls[l']?=some (t.ls[l']'(by omega)):=zE _
   have h3:t.hs[l']?=some (t.hs[l']'(by omega)):=zE _
   rw [h1,h2,h3] at e
   refine ⟨m',l',_,_,_,rfl,rfl,h1,h2,h3,c1.2.2,?_⟩
   have e':=e
   dsimp only at e
   unfold codeP2 at e
   split at e
   ·rename_i c3
    split at e
    ·rename_i c4
     split at e
     ·cases e
     ·rename_i c5
      exact ⟨c3,c4,Bool.not_eq_true _ ▸ c5,e'⟩
    ·cases e
   ·cases e
  ·cases e
 ·cases e
theorem othI_in {w:Int}{ms:List M4}{M:M4}{m:Nat}{g:Int} (gd:Good w ms) (hM:ms[m]?=some M):0<=othI M g/\othI M g < w:=by
 obtain ⟨h1,h2,h3,_⟩:=gd.each M (zD hM)
 unfold othI
 split <;> omega
theorem codeD8 {rooms:List Int}{t:Tr}{l w:Int} (e:codeD rooms t l w=8):∃ (l':Nat) (h:Addr×List (Int×Int)),l=l'/\l' < t.ls.length/\t.hs[l']?=some h/\(kvget h.2 w).isSome=true/\0<=w/\w < rooms.length:=by
 unfold codeD at e
 split at e
 ·rename_i c1
  obtain ⟨l',rfl⟩:=zM c1.1
  split at e
  ·rename_i c2
   rw [zH] at e
   cases hh:t.hs[l']? with
   | none=>rw [hh] at e;cases e
   | some h=>
    rw [hh] at e
    dsimp only at e
    split at e
    ·rename_i c3;exact ⟨l',h,rfl,by omega,hh,c3,c2.1,c2.2⟩
    ·cases e
  ·cases e
 ·cases e
theorem kvget_put {kv:List (Int×Int)}{o t g:Int}:kvget (kvput kv o t) g=if g=o then some t else kvget kv g:=by
 have h:=valV_put (kvV kv) (Sum.inl o:Key) (Sum.inl g) (V.int t)
 rw [putK_kv,valV_kv,valV_kv] at h
 by_cases c:g=o
 ·rw [if_pos (congrArg Sum.inl c)] at h
  rw [if_pos c]
  cases e:kvget (kvput kv o t) g with
  | none=>rw [e] at h;cases h
  | some y=>rw [e] at h;cases h;rfl
 ·rw [if_neg λz=>c (Sum.inl.inj z)] at h
  rw [if_neg c]
  cases e:kvget (kvput kv o t) g with
  | none=>
   cases e2:kvget kv g with
   | none=>rfl
   | some y=>rw [e,e2] at h;cases h
  | some y=>
   cases e2:kvget kv g with
   | none=>rw [e,e2] at h;cases h
   | some z=>rw [e,e2] at h;cases h;rfl
theorem below_some {o:Option Int}{t:Int} (h:below o t=true):o.isSome=true:=by
 cases o with
 | none=>cases h
 | some _=>rfl
theorem passed_kv {C:Addr}{H:Hp}{t:Tr}{rooms:List Int}{tr tm:Addr}{ps:List (Addr×M4)} {n0 m l:Nat}{M:M4}{L:L4}{o:Int}{h:Addr×List (Int×Int)} (hh:t.hs[l]?=some h):(t.passed m l M L o).hs[l]?=some (h.1,kvput h.2 o M.t)/\(t.passed m l M L o).kv l=kvput h.2 o M.t:=by
 have hl:l < t.hs.length:=(zB.mp hh).1
 have e1:(t.passed m l M L o).hs[l]?=some (h.1,kvput h.2 o M.t):=by
  show (match t.hs[l]? with | some h=>t.hs.set l (h.1,kvput (t.kv l) o M.t) | none=>t.hs)[l]?=_
  have ek:t.kv l=h.2:=by unfold Tr.kv;rw [hh]
  rw [hh,ek]
  exact yI hl
 refine ⟨e1,?_⟩
 unfold Tr.kv
 rw [e1]
theorem But.free {x c:Addr}{H H':Hp} (b:But x H H') (n:c≠x) (h:H' c=none):H c=none:=by
 cases z:H c with
 | none=>rfl
 | some u=>have:=b _ _ n z;rw [h] at this;cases this
structure New (H:Hp) (x b:Addr) (ls:List (Addr×L4)) (m:Nat) (t:Tr):Prop where
 ex:t.x=x
 eb:t.b=b
 el:t.ls=ls
 eh:t.hs.map (·.2)=ls.map λl=>[((l.2.s:Int),l.2.a)]
 eo:t.os=ls.map λl=>begA l.2
 en:t.ns=List.replicate m 0
 er:t.r=0
 ed:t.ds=[]
 fr:∀ c,t.own c\/c=t.lL\/c=t.lH->c=x\/H c=none
def spInit2 (C:Addr):Sp:=λvs H Q _=>∃ x dx b l0 ls rooms tr tm ps,vs=[.ref x,.ref b,.ref l0]/\H x=some (.ins C dx [])/\BookAt H b rooms tr tm ps/\Good rooms.length (ps.map (·.2))/\rooms.length<=12/\H l0=some (.lst (ls.map λl=>V.ref l.1))/\(∀ l∈ls,H l.1=some (.tup (letRow l.2)))/\ls.length<=41 /\
 ∀ t H',But x H H'->TrOk C H' t rooms tr tm ps 1->New H x b ls ps.length t->Q .non H'
end Sm
namespace L2
open PySem PySem.Spec PyProof.Rows
section
variable {X:Cx}
end
end L2
namespace Sm
open PySem L2 SmSort
def kvNext (ms:List M4) (kv:List (Int×Int)):Dd->List (Int×Int)
 | .drop _ w=>kvdel kv w
 | .pass gv m _ g=>match ms[m.toNat]? with
  | some M=>if gv=true then kvdel (kvput kv (othI M g) M.t) g else kvput kv (othI M g) M.t
  | none=>kv
def Dd.let:Dd->Int
 | .drop l _=>l
 | .pass _ _ l _=>l
def Dd.ok (ms:List M4) (kv:List (Int×Int)):Dd->Prop
 | .drop _ w=>(kvget kv w).isSome=true
 | .pass _ m _ w=>∃ (m':Nat) (M:M4),m=m'/\ms[m']?=some M/\(w=M.lo\/w=M.hi)/\(kvget kv w).isSome=true
end Sm
namespace Sm
open PySem L2 SmSort
structure Twin (t u:Tr):Prop where
 ls:t.ls=u.ls
 hs:t.hs.map (·.2)=u.hs.map (·.2)
 os:t.os=u.os
 ns:t.ns=u.ns
 r:t.r=u.r
theorem Twin.len {t u:Tr} (w:Twin t u):t.hs.length=u.hs.length:=by have:=congrArg List.length w.hs;simpa using this
theorem Twin.at {t u:Tr} (w:Twin t u) (l:Nat):(t.hs[l]?).map (·.2)=(u.hs[l]?).map (·.2):=by
 have:=congrArg (·[l]?) w.hs
 simpa only [zC] using this
theorem Twin.bag {t u:Tr} (w:Twin t u) (o:Int):∀ n,bagTo o t.ls t.hs n=bagTo o u.ls u.hs n
 | 0=>rfl
 | n + 1=>by
  unfold bagTo
  rw [w.bag o n]
  congr 2
  have:=w.at n
  have el:t.ls[n]?=u.ls[n]?:=by rw [w.ls]
  unfold inBag
  rw [el]
  cases h1:t.hs[n]? with
  | none=>
   rw [h1] at this
   cases h2:u.hs[n]? with
   | none=>rfl
   | some b=>rw [h2] at this;cases this
  | some a=>
   rw [h1] at this
   cases h2:u.hs[n]? with
   | none=>rw [h2] at this;cases this
   | some b=>
    rw [h2] at this
    have e:a.2=b.2:=Option.some.inj this
    cases u.ls[n]? with
    | none=>rfl
    | some l=>dsimp only;rw [e]
theorem Twin.code {t u:Tr} (w:Twin t u) {rooms:List Int}{ms:List M4} (d:Dd):codeT rooms ms t d=codeT rooms ms u d:=by
 cases d with
 | pass gv m l g=>
  show codeP rooms ms t m l g=codeP rooms ms u m l g
  unfold codeP
  rw [w.r,w.ls,w.ns]
  have:=w.at l.toNat
  cases h1:t.hs[l.toNat]? with
  | none=>
   rw [h1] at this
   cases h2:u.hs[l.toNat]? with
   | none=>cases ms[m.toNat]? <;> cases u.ls[l.toNat]? <;> rfl
   | some b=>rw [h2] at this;cases this
  | some a=>
   rw [h1] at this
   cases h2:u.hs[l.toNat]? with
   | none=>rw [h2] at this;cases this
   | some b=>
    rw [h2] at this
    have e:a.2=b.2:=Option.some.inj this
    have eb:∀ o,bagTo o u.ls t.hs t.hs.length=bagTo o u.ls u.hs u.hs.length:=λo=>by
     have:=w.bag o t.hs.length
     rw [w.ls] at this
     rw [this,w.len]
    cases ms[m.toNat]? with
    | none=>rfl
    | some M=>
     cases u.ls[l.toNat]? with
     | none=>rfl
     | some L=>dsimp only;rw [e,eb]
 | drop l v=>
  show codeD rooms t l v=codeD rooms u l v
  unfold codeD
  rw [w.ls]
  have:=w.at l.toNat
  cases h1:t.hs[l.toNat]? with
  | none=>
   rw [h1] at this
   cases h2:u.hs[l.toNat]? with
   | none=>rfl
   | some b=>rw [h2] at this;cases this
  | some a=>
   rw [h1] at this
   cases h2:u.hs[l.toNat]? with
   | none=>rw [h2] at this;cases this
   | some b=>
    rw [h2] at this
    have e:a.2=b.2:=Option.some.inj this
    dsimp only;rw [e]
theorem Twin.kv {t u:Tr} (w:Twin t u) (l:Nat):t.kv l=u.kv l:=by
 have:=w.at l
 unfold Tr.kv
 cases h1:t.hs[l]? with
 | none=>
  rw [h1] at this
  cases h2:u.hs[l]? with
  | none=>rfl
  | some b=>rw [h2] at this;cases this
 | some a=>
  rw [h1] at this
  cases h2:u.hs[l]? with
  | none=>rw [h2] at this;cases this
  | some b=>rw [h2] at this;exact Option.some.inj this
theorem setH_map (t:Tr) (l:Nat) (kv:List (Int×Int)):(t.setH l kv).hs.map (·.2)=(t.hs.map (·.2)).set l kv:=by
 unfold Tr.setH
 dsimp only
 cases h:t.hs[l]? with
 | none=>
  have:t.hs.length<=l:=List.getElem?_eq_none_iff.mp h
  rw [List.set_eq_of_length_le (by rw [zA];exact this)]
 | some a=>rw [zq]
theorem Twin.setH {t u:Tr} (w:Twin t u) (l:Nat) {kv kv':List (Int×Int)} (e:kv=kv'):Twin (t.setH l kv) (u.setH l kv'):=
 ⟨w.ls,by rw [setH_map,setH_map,w.hs,e],w.os,w.ns,w.r⟩
theorem Twin.passed {t u:Tr} (w:Twin t u) (m l:Nat) (M:M4) (L:L4) (o:Int):Twin (t.passed m l M L o) (u.passed m l M L o):=by
 have h:=w.setH l (kv:=kvput (t.kv l) o M.t) (kv':=kvput (u.kv l) o M.t) (by rw [w.kv])
 exact ⟨h.ls,h.hs,by show noteA t.os l L o M.t=noteA u.os l L o M.t;rw [w.os],by show t.ns.set m (t.ns[m]?.getD 0 + 1)=u.ns.set m (u.ns[m]?.getD 0 + 1);rw [w.ns],rfl⟩
theorem Twin.done {t u:Tr} (w:Twin t u) {ms:List M4}{y y':V} (d:Dd):Twin (t.doneT ms y d) (u.doneT ms y' d):=by
 cases d with
 | drop l v=>
  have h:=w.setH l.toNat (kv:=kvdel (t.kv l.toNat) v) (kv':=kvdel (u.kv l.toNat) v) (by rw [w.kv])
  exact ⟨h.ls,h.hs,h.os,h.ns,h.r⟩
 | pass gv m l g=>
  have el:t.ls[l.toNat]?=u.ls[l.toNat]?:=by rw [w.ls]
  have key:Twin (match ms[m.toNat]?,t.ls[l.toNat]? with | some M,some L=>t.doneP gv m.toNat l.toNat g M L.2 | _,_=>t) (match ms[m.toNat]?,u.ls[l.toNat]? with | some M,some L=>u.doneP gv m.toNat l.toNat g M L.2 | _,_=>u):=by
   rw [el]
   cases ms[m.toNat]? with
   | none=>exact w
   | some M=>
    cases u.ls[l.toNat]? with
    | none=>exact w
    | some L=>
     dsimp only
     have h:=w.passed m.toNat l.toNat M L.2 (othI M g)
     unfold Tr.doneP
     cases gv with
     | false=>exact h
     | true=>
      rw [if_pos rfl,if_pos rfl]
      exact h.setH l.toNat (by rw [h.kv])
  exact ⟨key.ls,key.hs,key.os,key.ns,key.r⟩
theorem ne_intsL {K:PySem.W.Frag}{H:Hp}{l d:Addr}{ns:List Int}{Q:VK}{neg:Bool} (hl:H l=some (.lst (ns.map V.int))) (hd:H d=some (.lst (ns.map V.int))) (q:Q (.bl (if neg=true then !true else true)) H):rEqv K neg (.ref l) (.ref d) H Q:=by
 refine ⟨0,l,d,_,_,λ_=>true,true,by decide,rfl,rfl,.inl ⟨SqL.of hl,SqL.of hd⟩,by simp,λi x y hx hy=>?_,q⟩
 rw [hx] at hy;cases hy
 obtain ⟨r,hr,rfl⟩:=wB hx
 exact .inr ⟨rfl,rfl,by rw [eqV_int,decide_eq_true rfl]⟩
structure SameAd (t u:Tr):Prop where
 x:u.x=t.x
 b:u.b=t.b
 lL:u.lL=t.lL
 lH:u.lH=t.lH
 lA:u.lA=t.lA
 lP:u.lP=t.lP
 lD:u.lD=t.lD
 ls:u.ls=t.ls
 hs:u.hs.map (·.1)=t.hs.map (·.1)
theorem SameAd.own {t u:Tr} (s:SameAd t u) (c:Addr):u.own c↔t.own c:=by
 unfold Tr.own
 rw [s.x,s.lA,s.lP,s.lD,s.hs]
theorem setH_ad (t:Tr) (l:Nat) (kv:List (Int×Int)):(t.setH l kv).hs.map (·.1)=t.hs.map (·.1):=by
 unfold Tr.setH
 dsimp only
 cases h:t.hs[l]? with
 | none=>rfl
 | some a=>
  dsimp only
  have hl:l < t.hs.length:=(zB.mp h).1
  have eh:t.hs[l]=a:=(zB.mp h).2
  rw [zq]
  refine List.ext_getElem (by simp) λi h1 h2=>?_
  rw [List.getElem_set]
  split
  ·rename_i z;subst z;simp [eh]
  ·rfl
theorem doneT_ad (t:Tr) (ms:List M4) (y:V) (d:Dd):SameAd t (t.doneT ms y d):=by
 cases d with
 | drop l w=>exact ⟨rfl,rfl,rfl,rfl,rfl,rfl,rfl,rfl,setH_ad _ _ _⟩
 | pass gv m l g=>
  have key:SameAd t (match ms[m.toNat]?,t.ls[l.toNat]? with | some M,some L=>t.doneP gv m.toNat l.toNat g M L.2 | _,_=>t):=by
   cases ms[m.toNat]? with
   | none=>exact ⟨rfl,rfl,rfl,rfl,rfl,rfl,rfl,rfl,rfl⟩
   | some M=>
    cases t.ls[l.toNat]? with
    | none=>exact ⟨rfl,rfl,rfl,rfl,rfl,rfl,rfl,rfl,rfl⟩
    | some L=>
     dsimp only
     have e1:((t.passed m.toNat l.toNat M L.2 (othI M g)).hs).map (·.1)=t.hs.map (·.1):=setH_ad t _ _
     unfold Tr.doneP
     cases gv with
     | false=>exact ⟨rfl,rfl,rfl,rfl,rfl,rfl,rfl,rfl,e1⟩
     | true=>
      rw [if_pos rfl]
      exact ⟨rfl,rfl,rfl,rfl,rfl,rfl,rfl,rfl,(setH_ad _ _ _).trans e1⟩
  exact ⟨key.x,key.b,key.lL,key.lH,key.lA,key.lP,key.lD,key.ls,key.hs⟩
theorem doneT_ds (t:Tr) (ms:List M4) (y:V) (d:Dd):(t.doneT ms y d).ds=t.ds++[y]:=rfl
theorem TrOk.there {C:Addr}{H:Hp}{t:Tr}{rooms:List Int}{tr tm:Addr}{ps:List (Addr×M4)} {n0:Nat} (k:TrOk C H t rooms tr tm ps n0) {c:Addr} (h:t.own c\/c=t.lL\/c=t.lH):∃ o,H c=some o/\∀ xs,o≠.tup xs:=by
 rcases h with (rfl | rfl | rfl | rfl | h) | rfl | rfl
 ·exact ⟨_,k.at_.ins,by intro _ z;cases z⟩
 ·exact ⟨_,k.at_.arr,by intro _ z;cases z⟩
 ·exact ⟨_,k.at_.pas,by intro _ z;cases z⟩
 ·exact ⟨_,k.at_.dee,by intro _ z;cases z⟩
 ·obtain ⟨g,hg,rfl⟩:=zO.mp h
  exact ⟨_,k.at_.hols g hg,by intro _ z;cases z⟩
 ·exact ⟨_,k.at_.lts,by intro _ z;cases z⟩
 ·exact ⟨_,k.at_.hol,by intro _ z;cases z⟩
section
variable {C:Addr} {H0 H H':Hp}{t u:Tr}{rooms:List Int}{tr tm:Addr}{ps:List (Addr×M4)} {n0 n1:Nat}
end
theorem doneT_kvs {C:Addr}{H:Hp}{t:Tr}{rooms:List Int}{tr tm:Addr}{ps:List (Addr×M4)} {n0:Nat} (k:TrOk C H t rooms tr tm ps n0) {d:Dd} (y:V) (c:codeT rooms (ps.map (·.2)) t d=8):∃ (n:Nat) (h:Addr×List (Int×Int)),d.let=n/\t.hs[n]?=some h/\(t.doneT (ps.map (·.2)) y d).hs.map (·.2)=(t.hs.map (·.2)).set n (kvNext (ps.map (·.2)) h.2 d) /\
  d.ok (ps.map (·.2)) h.2:=by
 cases d with
 | drop l w=>
  obtain ⟨l',h,rfl,hl,hh,hw,_,_⟩:=codeD8 c
  refine ⟨l',h,rfl,hh,?_,hw⟩
  show (t.setH ((l':Int)).toNat (kvdel (t.kv ((l':Int)).toNat) w)).hs.map (·.2)=_
  rw [zH,setH_map]
  have ek:t.kv l'=h.2:=by unfold Tr.kv;rw [hh]
  rw [ek];rfl
 | pass gv m l g=>
  obtain ⟨m',l',M,L,h,rfl,rfl,hM,hL,hh,hr',hg,hb,ho,_⟩:=codeP8 k.lh c
  refine ⟨l',h,rfl,hh,?_,m',M,rfl,hM,hg,below_some hb⟩
  have ek:t.kv l'=h.2:=by unfold Tr.kv;rw [hh]
  have pk:=passed_kv (m:=m') (M:=M) (L:=L.2) (o:=othI M g) (C:=C) (H:=H) (rooms:=rooms) (tr:=tr) (tm:=tm) (ps:=ps) (n0:=n0) hh
  have e1:(t.passed m' l' M L.2 (othI M g)).hs.map (·.2)=(t.hs.map (·.2)).set l' (kvput h.2 (othI M g) M.t):=by
   show (t.setH l' (kvput (t.kv l') (othI M g) M.t)).hs.map (·.2)=_
   rw [setH_map,ek]
  have e2:(t.doneT (ps.map (·.2)) y (.pass gv (m':Int) (l':Int) g)).hs=(t.doneP gv m' l' g M L.2).hs:=by
   unfold Tr.doneT;dsimp only;rw [zH,zH,hM,hL]
  rw [e2]
  have kn:kvNext (ps.map (·.2)) h.2 (.pass gv (m':Int) (l':Int) g)=if gv=true then kvdel (kvput h.2 (othI M g) M.t) g else kvput h.2 (othI M g) M.t:=by
   unfold kvNext;dsimp only;rw [zH,hM]
  rw [kn]
  unfold Tr.doneP
  cases gv with
  | false=>exact e1
  | true=>rw [if_pos rfl,if_pos rfl,setH_map,pk.2,e1,List.set_set]
end Sm
namespace Sm
open PySem L2 SmSort
def newTr (ls:List (Addr×L4)) (m:Nat):Tr:=⟨0,0,0,0,0,0,0,0,ls,ls.map λl=>(0,[((l.2.s:Int),l.2.a)]),ls.map λl=>begA l.2,List.replicate m 0,0,[]⟩
theorem New.twin {H:Hp}{x b:Addr}{ls:List (Addr×L4)}{m:Nat}{t:Tr} (n:New H x b ls m t):Twin t (newTr ls m):=
 ⟨n.el,by rw [n.eh];show _=(ls.map λl=>((0:Addr),[((l.2.s:Int),l.2.a)])).map (·.2);rw [zX];rfl,n.eo,n.en,n.er⟩
theorem kvget_one {s a w:Int}:kvget [(s,a)] w=if s=w then some a else none:=by
 unfold kvget
 by_cases c:s=w
 ·simp [c]
 ·simp [c]
theorem kvget_mem:∀ {kv:List (Int×Int)},(kv.map (·.1)).Nodup->∀ p∈kv,kvget kv p.1=some p.2
 | [],_,p,hp=>by cases hp
 | q::kv,nd,p,hp=>by
  rw [zf,yQ] at nd
  by_cases c:q.1=p.1
  ·rcases zV.mp hp with rfl | hp
   ·simp [kvget]
   ·exact absurd (zO.mpr ⟨p,hp,c.symm⟩) nd.1
  ·rcases zV.mp hp with rfl | hp
   ·exact absurd rfl c
   ·have:=kvget_mem nd.2 p hp
    unfold kvget at this ⊢
    simp only [yR,decide_eq_false c]
    exact this
end Sm
namespace Sm
open PySem L2 SmSort
def LetsL (H:Hp) (ll:Addr) (ls:List (Addr×L4)):Prop:=H ll=some (.lst (ls.map λl=>V.ref l.1))/\∀ l∈ls,H l.1=some (.tup (letRow l.2))
theorem LetsL.same {H H':Hp}{ll:Addr}{ls:List (Addr×L4)} (h:LetsL H ll ls) (e:Same H H'):LetsL H' ll ls:=⟨e _ _ h.1,λl hl=>e _ _ (h.2 l hl)⟩
theorem kvput_nd {kv:List (Int×Int)}{w t:Int} (nd:(kv.map (·.1)).Nodup):((kvput kv w t).map (·.1)).Nodup:=by
 unfold kvput
 split
 ·rw [zX]
  have e:((λp:Int×Int=>p.1) ∘ λp=>if p.1=w then (p.1,t) else p)=λp=>p.1:=by
   funext p
   show (if p.1=w then (p.1,t) else p).1=p.1
   split <;> rfl
  rw [e];exact nd
 ·rename_i c
  rw [zQ]
  refine List.nodup_append.mpr ⟨nd,by simp,λa ha b hb=>?_⟩
  rw [zN.mp hb]
  intro z
  obtain ⟨p,hp,e⟩:=zO.mp ha
  exact c (List.any_eq_true.mpr ⟨p,hp,decide_eq_true (e.trans z)⟩)
theorem kvdel_nd {kv:List (Int×Int)}{w:Int} (nd:(kv.map (·.1)).Nodup):((kvdel kv w).map (·.1)).Nodup:=
 nd.sublist (List.Sublist.map _ List.filter_sublist)
theorem kvNext_nd {ms:List M4}{kv:List (Int×Int)}{d:Dd} (nd:(kv.map (·.1)).Nodup):((kvNext ms kv d).map (·.1)).Nodup:=by
 cases d with
 | drop l w=>exact kvdel_nd nd
 | pass gv m l g=>
  unfold kvNext
  dsimp only
  cases ms[m.toNat]? with
  | none=>exact nd
  | some M=>
   dsimp only
   split
   ·exact kvdel_nd (kvput_nd nd)
   ·exact kvput_nd nd
section
variable {C:Addr} {H0 H H' HB HC:Hp}{t:Tr}{s:Sts}{rooms:List Int}{tr tm:Addr}{ps:List (Addr×M4)} {n0:Nat}
theorem doneT_pass {gv:Bool}{m l:Nat}{g:Int}{y:V}{ms:List M4}{M:M4}{L:Addr×L4} (hM:ms[m]?=some M) (hL:t.ls[l]?=some L):(t.doneT ms y (.pass gv (m:Int) (l:Int) g)).os=noteA t.os l L.2 (othI M g) M.t/\(t.doneT ms y (.pass gv (m:Int) (l:Int) g)).ns=t.ns.set m (t.ns[m]?.getD 0 + 1)/\(t.doneT ms y (.pass gv (m:Int) (l:Int) g)).r=m:=by
 unfold Tr.doneT;dsimp only;rw [zH,zH,hM,hL]
 unfold Tr.doneP
 cases gv <;> exact ⟨rfl,rfl,rfl⟩
end
end Sm
namespace Sm
open PySem L2 SmSort
def runT (ms:List M4) (t:Tr) (ys:List (Addr×Dd)):Tr:=ys.foldl (λt y=>t.doneT ms (.ref y.1) y.2) t
theorem runT_snoc {ms:List M4}{t:Tr}{ys:List (Addr×Dd)}{y:Addr×Dd}:runT ms t (ys++[y])=(runT ms t ys).doneT ms (.ref y.1) y.2:=by
 unfold runT;rw [List.foldl_append];rfl
def RunOk (rooms:List Int) (ms:List M4):Tr->List (Addr×Dd)->Prop
 | _,[]=>True
 | t,y::ys=>codeT rooms ms t y.2=8/\RunOk rooms ms (t.doneT ms (.ref y.1) y.2) ys
theorem RunOk.snoc {rooms:List Int}{ms:List M4}:∀ {ys:List (Addr×Dd)}{t:Tr}{y:Addr×Dd},RunOk rooms ms t ys->codeT rooms ms (runT ms t ys) y.2=8->RunOk rooms ms t (ys++[y])
 | [],_,_,_,c=>⟨c,trivial⟩
 | z::ys,t,y,r,c=>⟨r.1,RunOk.snoc r.2 c⟩
theorem nodup_len:∀ {xs ys:List Int},xs.Nodup->(∀ x∈xs,x∈ys)->xs.length<=ys.length
 | [],_,_,_=>zZ _
 | x::xs,ys,nd,h=>by
  have nd':=yQ.mp nd
  have hm:=h x (.head _)
  have:=nodup_len (xs:=xs) (ys:=ys.erase x) nd'.2 λz hz=>(List.mem_erase_of_ne (λe=>nd'.1 (by rw [<-e];exact hz))).mpr (h z (.tail _ hz))
  rw [List.length_erase_of_mem hm] at this
  have:0 < ys.length:=List.length_pos_of_mem hm
  show xs.length + 1<=_
  omega
theorem map_some {α β:Type}{f:α->β}{o o':Option α}{a:α} (e:o.map f=o'.map f) (h:o'=some a):∃ b,o=some b/\f b=f a:=by
 subst h
 cases o with
 | none=>cases e
 | some b=>exact ⟨b,rfl,Option.some.inj e⟩
theorem doneT_hs {rooms:List Int}{ms:List M4}{t:Tr} (lh:t.hs.length=t.ls.length) {d:Dd} (y:V) (c:codeT rooms ms t d=8):∃ (n:Nat) (h:Addr×List (Int×Int)),d.let=n/\n < t.ls.length/\t.hs[n]?=some h/\(t.doneT ms y d).hs.map (·.2)=(t.hs.map (·.2)).set n (kvNext ms h.2 d):=by
 cases d with
 | drop l w=>
  obtain ⟨l',h,rfl,hl,hh,hw,_,_⟩:=codeD8 c
  refine ⟨l',h,rfl,hl,hh,?_⟩
  show (t.setH ((l':Int)).toNat (kvdel (t.kv ((l':Int)).toNat) w)).hs.map (·.2)=_
  rw [zH,setH_map]
  have ek:t.kv l'=h.2:=by unfold Tr.kv;rw [hh]
  rw [ek];rfl
 | pass gv m l g=>
  obtain ⟨m',l',M,L,h,rfl,rfl,hM,hL,hh,hr',hg,hb,ho,_⟩:=codeP8 lh c
  refine ⟨l',h,rfl,(zB.mp hL).1,hh,?_⟩
  have ek:t.kv l'=h.2:=by unfold Tr.kv;rw [hh]
  have pk:=passed_kv (m:=m') (M:=M) (L:=L.2) (o:=othI M g) (C:=0) (H:=λ_=>none) (rooms:=[]) (tr:=0) (tm:=0) (ps:=[]) (n0:=0) hh
  have e1:(t.passed m' l' M L.2 (othI M g)).hs.map (·.2)=(t.hs.map (·.2)).set l' (kvput h.2 (othI M g) M.t):=by
   show (t.setH l' (kvput (t.kv l') (othI M g) M.t)).hs.map (·.2)=_
   rw [setH_map,ek]
  have e2:(t.doneT ms y (.pass gv (m':Int) (l':Int) g)).hs=(t.doneP gv m' l' g M L.2).hs:=by
   unfold Tr.doneT;dsimp only;rw [zH,zH,hM,hL]
  rw [e2]
  have kn:kvNext ms h.2 (.pass gv (m':Int) (l':Int) g)=if gv=true then kvdel (kvput h.2 (othI M g) M.t) g else kvput h.2 (othI M g) M.t:=by
   unfold kvNext;dsimp only;rw [zH,hM]
  rw [kn]
  unfold Tr.doneP
  cases gv with
  | false=>exact e1
  | true=>rw [if_pos rfl,if_pos rfl,setH_map,pk.2,e1,List.set_set]
theorem noteA_at {os:List (Option Int)}{n:Nat}{l:L4}{w t:Int}{k:Nat}:(noteA os n l w t)[k]?=if n=k/\w=l.w/\t<=l.z/\os[n]?=some none then some (some t) else os[k]?:=by
 unfold noteA
 by_cases c:w=l.w/\t<=l.z/\os[n]?=some none
 ·rw [if_pos c,zY]
  by_cases z:n=k
  ·have hl:n < os.length:=by obtain ⟨h,_⟩:=zB.mp c.2.2;exact h
   rw [if_pos z,if_pos hl,if_pos ⟨z,c⟩]
  ·rw [if_neg z,if_neg λh=>z h.1]
 ·rw [if_neg c,if_neg λh=>c h.2]
theorem set_getD {xs:List Int}{m i:Nat}{v:Int}:(xs.set m v)[i]?.getD 0=if m=i/\m < xs.length then v else xs[i]?.getD 0:=by
 rw [zY]
 by_cases z:m=i
 ·subst z
  by_cases l:m < xs.length
  ·rw [if_pos rfl,if_pos l,if_pos ⟨rfl,l⟩];rfl
  ·rw [if_pos rfl,if_neg l,if_neg λh=>l h.2,za (by omega)]
 ·rw [if_neg z,if_neg λh=>z h.1]
end Sm
namespace Sm
open PySem L2 SmSort
def Dd.passOf (n:Nat):Dd->Option (Int×Int)
 | .pass _ m l g=>if l=(n:Int) then some (m,g) else none
 | .drop _ _=>none
def chB (ms:List M4) (n:Nat):List Dd->Int->Int×List Int
 | [],w=>(w,[])
 | d::ds,w=>match d.passOf n with
  | some (m,g)=>(match ms[m.toNat]? with
   | some M=>if M.lo + M.hi - g=w then ((chB ms n ds g).1,(chB ms n ds g).2++[m]) else chB ms n ds w
   | none=>chB ms n ds w)
  | none=>chB ms n ds w
def whD (ms:List M4) (n:Nat) (L:L4) (d:Dd):List Int:=match d.passOf n with
 | some (m,g)=>(match ms[m.toNat]? with
  | some M=>if M.lo + M.hi - g=L.w then [M.t] else []
  | none=>[])
 | none=>[]
def whs (ms:List M4) (n:Nat) (L:L4) (ds:List Dd):List Int:=(if L.s=L.w then [L.a] else [])++ds.flatMap (whD ms n L)
structure Hist (ms:List M4) (n:Nat) (L:L4) (ds:List Dd) (kv:List (Int×Int)) (o:Option Int) (r:Int):Prop where
 ch:∀ w e,kvget kv w=some e->L.a<=e/\(chB ms n ds.reverse w).1=L.s/\∃ w':Nat,w=w'/\walkM ms L.s L.a (-1) (chB ms n ds.reverse w).2=some (w',e)
 wo:o=((whs ms n L ds).filter λx=>decide (x<=L.z)).head?
 ws:(whs ms n L ds).Pairwise (·<=·)
 wb:∀ x∈whs ms n L ds,x=L.a\/∃ (p:Nat) (M:M4),(p:Int)<=r/\ms[p]?=some M/\x=M.t
theorem kvget_del_some {kv:List (Int×Int)}{w u e:Int} (h:kvget (kvdel kv u) w=some e):kvget kv w=some e:=by
 unfold kvget kvdel at *
 by_cases c:w=u
 ·subst c
  rw [List.find?_filter] at h
  have:(kv.find? λa=>decide (decide (a.1≠w)=true/\decide (a.1=w)=true))=none:=List.find?_eq_none.mpr λp _=>by simp
  rw [this] at h;cases h
 ·rw [List.find?_filter] at h
  have e2:(λa:Int×Int=>decide (decide (a.1≠u)=true/\decide (a.1=w)=true))=λa=>decide (a.1=w):=by
   funext a
   by_cases z:a.1=w
   ·simp [z,c]
   ·simp [z]
  rw [e2] at h;exact h
theorem Hist.skip {ms:List M4}{n:Nat}{L:L4}{ds:List Dd}{kv kv':List (Int×Int)}{o:Option Int}{r r':Int}{d:Dd} (h:Hist ms n L ds kv o r) (e:d.passOf n=none) (k:∀ w x,kvget kv' w=some x->kvget kv w=some x) (rr:r<=r'):Hist ms n L (ds++[d]) kv' o r':=by
 have e1:∀ w,chB ms n (ds++[d]).reverse w=chB ms n ds.reverse w:=λw=>by
  rw [List.reverse_append]
  show chB ms n (d::ds.reverse) w=_
  conv=>lhs;unfold chB
  rw [e]
 have e2:whs ms n L (ds++[d])=whs ms n L ds:=by
  unfold whs
  rw [List.flatMap_append]
  have:[d].flatMap (whD ms n L)=[]:=by
   show whD ms n L d++[]=[]
   unfold whD;rw [e];rfl
  rw [this,zj]
 refine ⟨λw x hx=>?_,by rw [e2];exact h.wo,by rw [e2];exact h.ws,λx hx=>?_⟩
 ·rw [e1];exact h.ch w x (k w x hx)
 ·rw [e2] at hx
  rcases h.wb x hx with z | ⟨p,M,hp,hM,z⟩
  ·exact .inl z
  ·exact .inr ⟨p,M,by omega,hM,z⟩
theorem Good.mono {w:Int}{ms:List M4} (g:Good w ms) {i j:Nat}{M N:M4} (h:i<=j) (hi:ms[i]?=some M) (hj:ms[j]?=some N):M.t<=N.t:=by
 by_cases c:i=j
 ·subst c;rw [hi] at hj;cases hj;exact zo _
 ·have pw:=yA.mp g.order
  obtain ⟨h1,e1⟩:=zB.mp hi
  obtain ⟨h2,e2⟩:=zB.mp hj
  have:=pw i j h1 h2 (by omega)
  rw [e1,e2] at this
  rcases this with z | z <;> omega
theorem Hist.pass {w0:Nat}{ms:List M4} (gd:Good w0 ms) {n:Nat}{L:L4}{ds:List Dd}{kv kv':List (Int×Int)}{o:Option Int}{r:Int}{d:Dd}{m:Nat}{g eg:Int}{M:M4} (h:Hist ms n L ds kv o r) (e:d.passOf n=some ((m:Int),g)) (hM:ms[m]?=some M) (hg:g=M.lo\/g=M.hi) (hk:kvget kv g=some eg) (lt:eg < M.t) (hr:r<=m)
  (k:∀ w x,kvget kv' w=some x->(w=othI M g/\x=M.t)\/(w≠othI M g/\kvget kv w=some x)) :
  Hist ms n L (ds++[d]) kv' (if othI M g=L.w/\M.t<=L.z/\o=none then some M.t else o) m:=by
 have bd:=gd.each M (zD hM)
 have eo:M.lo + M.hi - g=othI M g:=by unfold othI;split <;> omega
 have e1:∀ w,chB ms n (ds++[d]).reverse w=if othI M g=w then ((chB ms n ds.reverse g).1,(chB ms n ds.reverse g).2++[(m:Int)]) else chB ms n ds.reverse w:=λw=>by
  rw [List.reverse_append]
  show chB ms n (d::ds.reverse) w=_
  conv=>lhs;unfold chB
  rw [e]
  dsimp only
  rw [zH,hM]
  dsimp only
  rw [eo]
 have e2:whs ms n L (ds++[d])=whs ms n L ds++(if othI M g=L.w then [M.t] else []):=by
  unfold whs
  rw [List.flatMap_append,<- List.append_assoc]
  congr 1
  show whD ms n L d++[]=_
  rw [zj]
  unfold whD
  rw [e]
  dsimp only
  rw [zH,hM]
  dsimp only
  rw [eo]
 obtain ⟨ag,c1,g',eg',c2⟩:=h.ch g eg hk
 have le:∀ x∈whs ms n L ds,x<=M.t:=λx hx=>by
  rcases h.wb x hx with z | ⟨p,N,hp,hN,z⟩
  ·omega
  ·rw [z];exact gd.mono (by omega) hN hM
 refine ⟨λw x hx=>?_,?_,?_,λx hx=>?_⟩
 ·rcases k w x hx with ⟨rfl,rfl⟩ | ⟨z,hx⟩
  ·rw [e1,if_pos rfl]
   have sn:=walk_snoc gd hM c2 (.inl rfl) (by omega) lt
   refine ⟨by omega,c1,oth g' M,?_,sn⟩
   unfold othI oth
   split
   ·rename_i z1;rw [if_pos (by omega)];omega
   ·rename_i z1;rw [if_neg (by omega)];omega
  ·rw [e1,if_neg (Ne.symm z)];exact h.ch w x hx
 ·rw [e2,List.filter_append,List.head?_append]
  have ho:=h.wo
  by_cases c3:othI M g=L.w
  ·rw [if_pos c3]
   by_cases c4:M.t<=L.z
   ·have f1:([M.t].filter λx=>decide (x<=L.z))=[M.t]:=by simp [c4]
    rw [f1]
    cases o with
    | none=>rw [if_pos ⟨c3,c4,rfl⟩,<- ho];rfl
    | some v=>rw [if_neg (λz=>by cases z.2.2),<- ho];rfl
   ·have f1:([M.t].filter λx=>decide (x<=L.z))=[]:=by simp [c4]
    rw [if_neg (λz=>c4 z.2.1),f1,<- ho];cases o <;> rfl
  ·rw [if_neg c3,if_neg (λz=>c3 z.1),<- ho];cases o <;> rfl
 ·rw [e2]
  split
  ·exact yh.mpr ⟨h.ws,zw _ _,λa ha b hb=>by rw [zN.mp hb];exact le a ha⟩
  ·rw [zj];exact h.ws
 ·rw [e2] at hx
  rcases ze.mp hx with hx | hx
  ·rcases h.wb x hx with z | ⟨p,N,hp,hN,z⟩
   ·exact .inl z
   ·exact .inr ⟨p,N,by omega,hN,z⟩
  ·split at hx
   ·exact .inr ⟨m,M,by omega,hM,zN.mp hx⟩
   ·cases hx
theorem inBag_eq {w:Int}{l:Addr×L4}{h:Addr×List (Int×Int)}:inBag w (some l) (some h)=((kvget h.2 w).isSome && takB l.2 w):=by
 unfold inBag takB;dsimp only;rw [kv_any]
theorem bag_le {w:Int}{ls:List (Addr×L4)}{hs hs':List (Addr×List (Int×Int))} (e:∀ i:Nat,inBag w ls[i]? hs'[i]?=true->inBag w ls[i]? hs[i]?=true):∀ n,(bagTo w ls hs' n).length<=(bagTo w ls hs n).length
 | 0=>zK _
 | n + 1=>by
  have ih:=bag_le e n
  unfold bagTo
  rw [zW,zW]
  by_cases c:inBag w ls[n]? hs'[n]?=true
  ·rw [if_pos c,if_pos (e n c)]
   show _ + 1<=_ + 1;omega
  ·rw [if_neg c]
   show _ + 0<=_;omega
theorem bag_le1 {w:Int}{ls:List (Addr×L4)}{hs hs':List (Addr×List (Int×Int))}{l:Nat} (e:∀ i:Nat,i≠l->inBag w ls[i]? hs'[i]?=true->inBag w ls[i]? hs[i]?=true):∀ n,(bagTo w ls hs' n).length<=(bagTo w ls hs n).length + if l < n then 1 else 0
 | 0=>by rw [if_neg (Nat.not_lt_zero _)];exact zK _
 | n + 1=>by
  have ih:=bag_le1 e n
  have lx:(if l < n then 1 else 0:Nat)<=(if l < n + 1 then 1 else 0):=by
   by_cases q:l < n
   ·rw [if_pos q,if_pos (by omega)];exact zK _
   ·rw [if_neg q];exact zZ _
  unfold bagTo
  rw [zW,zW]
  by_cases c:inBag w ls[n]? hs'[n]?=true
  ·rw [if_pos c]
   by_cases z:n=l
   ·subst z
    rw [if_neg (zu _)] at ih
    rw [if_pos (xB _)]
    show _ + 1<=_;omega
   ·rw [if_pos (e n z c)]
    show _ + 1<=_ + 1 + _
    omega
  ·rw [if_neg c]
   show _ + 0<=_
   omega
def psD:Dd->List Int
 | .pass _ m _ _=>[m]
 | .drop _ _=>[]
def pss (ds:List Dd):List Int:=ds.flatMap psD
theorem pss_snoc (ds:List Dd) (d:Dd):pss (ds++[d])=pss ds++psD d:=by
 unfold pss;rw [List.flatMap_append]
 congr 1
 show psD d++[]=psD d
 rw [zj]
structure HistT (rooms:List Int) (ms:List M4) (t:Tr) (ds:List Dd):Prop where
 each:∀ (n:Nat) L h o,t.ls[n]?=some L->t.hs[n]?=some h->t.os[n]?=some o->Hist ms n L.2 ds h.2 o t.r
 pa:(pss ds).Pairwise (·<=·)
 pr:∀ p∈pss ds,p<=t.r
 cn:∀ (i:Nat) (M:M4),ms[i]?=some M->t.ns[i]?=some (((pss ds).countP λp=>decide (p=(i:Int)):Nat):Int)/\(((pss ds).countP λp=>decide (p=(i:Int)):Nat):Int)<=M.m
 bg:∀ (w:Nat) (r:Int),rooms[w]?=some r->((bagTo (w:Int) t.ls t.hs t.hs.length).length:Int)<=r
 kb:∀ (n:Nat) h,t.hs[n]?=some h->∀ w e,kvget h.2 w=some e->w < rooms.length
 dk:∀ d∈ds,∀ gv m l g,d=.pass gv m l g->∃ (m':Nat) (M:M4),m=m'/\ms[m']?=some M
 nd:∀ (n:Nat) h,t.hs[n]?=some h->(h.2.map (·.1)).Nodup
theorem HistT.step {C:Addr}{H:Hp}{t:Tr}{rooms:List Int}{tr tm:Addr}{ps:List (Addr×M4)} {n0:Nat}{ds:List Dd}{d:Dd}{y:V} (k:TrOk C H t rooms tr tm ps n0) (h:HistT rooms (ps.map (·.2)) t ds) (c:codeT rooms (ps.map (·.2)) t d=8):HistT rooms (ps.map (·.2)) (t.doneT (ps.map (·.2)) y d) (ds++[d]):=by
 obtain ⟨l,hl,en,hhl,enew,hc⟩:=doneT_kvs k y c
 have ad:=doneT_ad t (ps.map (·.2)) y d
 have lhs:(t.doneT (ps.map (·.2)) y d).hs.length=t.hs.length:=by
  have:=congrArg List.length enew
  rw [zA,zm,zA] at this;exact this
 have hsN:∀ n h',(t.doneT (ps.map (·.2)) y d).hs[n]?=some h'->∃ h0,t.hs[n]?=some h0/\h'.2=if n=l then kvNext (ps.map (·.2)) hl.2 d else h0.2:=λn h' e=>by
  have e1:((t.doneT (ps.map (·.2)) y d).hs.map (·.2))[n]?=some h'.2:=by rw [zC,e];rfl
  rw [enew,zY] at e1
  obtain ⟨h0,e0⟩:∃ h0,t.hs[n]?=some h0:=⟨_,zE (by have:=(zB.mp e).1;omega)⟩
  refine ⟨h0,e0,?_⟩
  by_cases z:l=n
  ·subst z
   rw [if_pos rfl,if_pos (by rw [zA];exact (zB.mp hhl).1)] at e1
   rw [if_pos rfl];exact (Option.some.inj e1).symm
  ·rw [if_neg z,zC,e0] at e1
   rw [if_neg (Ne.symm z)];exact (Option.some.inj e1).symm
 have ndN:∀ (n:Nat) h',(t.doneT (ps.map (·.2)) y d).hs[n]?=some h'->(h'.2.map (·.1)).Nodup:=λn h' e=>by
  obtain ⟨h0,e0,e1⟩:=hsN n h' e
  rw [e1]
  split
  ·exact kvNext_nd (h.nd l hl hhl)
  ·exact h.nd n h0 e0
 have inb:∀ (w:Int) (i:Nat),(∀ x,kvget (kvNext (ps.map (·.2)) hl.2 d) w=some x->i=l->(kvget hl.2 w).isSome=true)->inBag w t.ls[i]? (t.doneT (ps.map (·.2)) y d).hs[i]?=true->inBag w t.ls[i]? t.hs[i]?=true:=λw i hw hi=>by
  cases e1:t.ls[i]? with
  | none=>rw [e1] at hi;cases e2:(t.doneT (ps.map (·.2)) y d).hs[i]? <;> rw [e2] at hi <;> exact absurd hi (by unfold inBag;exact zG)
  | some L=>
   cases e2:(t.doneT (ps.map (·.2)) y d).hs[i]? with
   | none=>rw [e1,e2] at hi;exact absurd hi (by unfold inBag;exact zG)
   | some h'=>
    rw [e1,e2,inBag_eq] at hi
    obtain ⟨h0,e0,e3⟩:=hsN i h' e2
    rw [e0,inBag_eq]
    have a:=(zh _ _).mp hi
    rw [a.2,Bool.and_true]
    by_cases z:i=l
    ·rw [if_pos z] at e3
     rw [e3] at a
     obtain ⟨x,ex⟩:=zp.mp a.1
     have:=hw x ex z
     subst z
     rw [e0] at hhl;cases hhl;exact this
    ·rw [if_neg z] at e3
     rw [<-e3];exact a.1
 cases d with
 | drop l0 w0=>
  obtain rfl:l0=(l:Int):=en
  have kk:∀ w x,kvget (kvNext (ps.map (·.2)) hl.2 (.drop (l:Int) w0)) w=some x->kvget hl.2 w=some x:=λw x e=>kvget_del_some e
  refine ⟨λn L h' o eL eh eo=>?_,by rw [pss_snoc];show (pss ds++[]).Pairwise _;rw [zj];exact h.pa,λp hp=>?_,λi M hM=>?_,λw r hr=>?_,λn h' eh w x e=>?_,λd0 hd gv m l0 g e=>?_,ndN⟩
  ·rw [ad.ls] at eL
   obtain ⟨h0,e0,e3⟩:=hsN n h' eh
   refine (h.each n L h0 o eL e0 eo).skip rfl (λw x e=>?_) (zo _)
   rw [e3] at e
   by_cases z:n=l
   ·subst z
    rw [e0] at hhl;cases hhl
    rw [if_pos rfl] at e;exact kk w x e
   ·rw [if_neg z] at e;exact e
  ·rw [pss_snoc] at hp
   have hp':p∈pss ds++[]:=hp
   rw [zj] at hp'
   exact h.pr p hp'
  ·rw [pss_snoc]
   show _=some (((pss ds++[]).countP _:Nat):Int)/\(((pss ds++[]).countP _:Nat):Int)<=_
   rw [zj];exact h.cn i M hM
  ·rw [ad.ls,lhs]
   have:=bag_le (λi=>inb (w:Int) i λx ex z=>by rw [kk _ _ ex];rfl) t.hs.length
   have:=h.bg w r hr
   omega
  ·obtain ⟨h0,e0,e3⟩:=hsN n h' eh
   rw [e3] at e
   by_cases z:n=l
   ·subst z
    rw [e0] at hhl;cases hhl
    rw [if_pos rfl] at e;exact h.kb n _ e0 w x (kk w x e)
   ·rw [if_neg z] at e;exact h.kb n h0 e0 w x e
  ·rcases ze.mp hd with hd | hd
   ·exact h.dk d0 hd gv m l0 g e
   ·rw [zN.mp hd] at e;cases e
 | pass gv m l0 g=>
  obtain ⟨m',l',M,L,h0,rfl,rfl,hM,hL,hh0,hr,hg,hb,ho,hcode⟩:=codeP8 k.lh c
  obtain rfl:l'=l:=by have:(l':Int)=l:=en;omega
  rw [hhl] at hh0;cases hh0
  obtain ⟨d1,d2,d3⟩:=doneT_pass (t:=t) (gv:=gv) (g:=g) (y:=y) hM hL
  have hm:m' < ps.length:=by have:=(zB.mp hM).1;simpa using this
  obtain ⟨eg,hk⟩:∃ eg,kvget hl.2 g=some eg:=zp.mp (below_some hb)
  have lt:eg < M.t:=by rw [hk] at hb;exact of_decide_eq_true hb
  have kk:∀ w x,kvget (kvNext (ps.map (·.2)) hl.2 (.pass gv (m':Int) (l':Int) g)) w=some x->(w=othI M g/\x=M.t)\/(w≠othI M g/\kvget hl.2 w=some x):=λw x e=>by
   have e2:kvget (kvput hl.2 (othI M g) M.t) w=some x:=by
    unfold kvNext at e
    dsimp only at e
    rw [zH,hM] at e
    dsimp only at e
    split at e
    ·exact kvget_del_some e
    ·exact e
   rw [kvget_put] at e2
   split at e2
   ·exact .inl ⟨by assumption,(Option.some.inj e2).symm⟩
   ·exact .inr ⟨by assumption,e2⟩
  refine ⟨λn L2 h' o eL eh eo=>?_,?_,λp hp=>?_,λi M2 hM2=>?_,λw r hr2=>?_,λn h' eh w x e=>?_,λd0 hd gv2 m2 l2 g2 e=>?_,ndN⟩
  ·rw [ad.ls] at eL
   obtain ⟨h0,e0,e3⟩:=hsN n h' eh
   rw [d3]
   rw [d1] at eo
   by_cases z:n=l'
   ·subst z
    rw [e0] at hhl;cases hhl
    rw [hL] at eL;cases eL
    rw [if_pos rfl] at e3
    obtain ⟨o0,eo0⟩:∃ o0,t.os[n]?=some o0:=⟨_,zE (by rw [k.lo];exact (zB.mp hL).1)⟩
    have H1:=Hist.pass (w0:=rooms.length) k.gd (d:=.pass gv (m':Int) (n:Int) g) (kv':=h'.2) (h.each n L hl o0 hL e0 eo0) (if_pos rfl) hM hg hk lt hr (λw x e=>kk w x (by rw [<-e3];exact e))
    have eo2:o=if othI M g=L.2.w/\M.t<=L.2.z/\o0=none then some M.t else o0:=by
     unfold noteA at eo
     by_cases cc:othI M g=L.2.w/\M.t<=L.2.z/\o0=none
     ·rw [if_pos cc]
      rw [if_pos ⟨cc.1,cc.2.1,by rw [eo0,cc.2.2]⟩,yI (zB.mp eo0).1] at eo
      exact (Option.some.inj eo).symm
     ·rw [if_neg cc]
      rw [if_neg (λq=>cc ⟨q.1,q.2.1,by have:=q.2.2;rw [eo0] at this;exact Option.some.inj this⟩),eo0] at eo
      exact (Option.some.inj eo).symm
    rw [eo2];exact H1
   ·rw [if_neg z] at e3
    have eo3:t.os[n]?=some o:=by
     unfold noteA at eo
     split at eo
     ·rw [ye (Ne.symm z)] at eo;exact eo
     ·exact eo
    refine (h.each n L2 h0 o eL e0 eo3).skip ?_ (λw x e=>by rw [e3] at e;exact e) hr
    exact if_neg (λq=>z (by omega))
  ·rw [pss_snoc]
   exact yh.mpr ⟨h.pa,zw _ _,λa ha b hb=>by
    rw [zN.mp hb]
    have:=h.pr a ha;omega⟩
  ·rw [pss_snoc] at hp
   rw [d3]
   rcases ze.mp hp with hp | hp
   ·have:=h.pr p hp;omega
   ·rw [zN.mp hp];exact zo _
  ·rw [pss_snoc,d2]
   show _=some (((pss ds++[(m':Int)]).countP _:Nat):Int)/\(((pss ds++[(m':Int)]).countP _:Nat):Int)<=_
   rw [List.countP_append,List.countP_singleton]
   obtain ⟨n1,n2⟩:=h.cn i M2 hM2
   have ltn:m' < t.ns.length:=by rw [k.ln];exact hm
   by_cases z:m'=i
   ·subst z
    rw [hM] at hM2;cases hM2
    rw [yI ltn,n1,if_pos (decide_eq_true rfl)]
    refine ⟨rfl,?_⟩
    rw [n1] at hcode
    unfold codeP2 at hcode
    have n6:¬ (kvget hl.2 (othI M g)).isSome=true:=by rw [ho];exact zG
    rw [if_pos hg,if_pos hb,if_neg n6] at hcode
    by_cases q:M.m<=((some (((pss ds).countP λp=>decide (p=(m':Int)):Nat):Int)).getD 0)
    ·rw [if_pos q] at hcode;cases hcode
    ·have q':¬ M.m<=(((pss ds).countP λp=>decide (p=(m':Int)):Nat):Int):=q
     omega
   ·rw [ye z,n1,if_neg (by simp;omega)]
    exact ⟨rfl,n2⟩
  ·rw [ad.ls,lhs]
   have b0:=h.bg w r hr2
   by_cases z:(w:Int)=othI M g
   ·by_cases tk:takB L.2 (othI M g)=true
    ·have:=bag_le1 (l:=l') (λi ne=>inb (w:Int) i λx ex q=>absurd q ne) t.hs.length
     have n6:¬ (kvget hl.2 (othI M g)).isSome=true:=by rw [ho];exact zG
     unfold codeP2 at hcode
     rw [if_pos hg,if_pos hb,if_neg n6] at hcode
     have er:rooms[(othI M g).toNat]?.getD 0=r:=by rw [<-z,zH,hr2];rfl
     rw [er,tk,yU,<- z] at hcode
     by_cases q:r<=((bagTo (w:Int) t.ls t.hs t.hs.length).length:Int)
     ·rw [if_pos (decide_eq_true q)] at hcode
      split at hcode <;> cases hcode
     ·split at this <;> omega
    ·have:=bag_le (w:=(w:Int)) (ls:=t.ls) (hs:=t.hs) (hs':=(t.doneT (ps.map (·.2)) y (.pass gv (m':Int) (l':Int) g)).hs) (λi hi=>by
      by_cases q:i=l'
      ·subst q
       cases e2:(t.doneT (ps.map (·.2)) y (.pass gv (m':Int) (i:Int) g)).hs[i]? with
       | none=>rw [hL,e2] at hi;exact absurd hi (by unfold inBag;exact zG)
       | some h'=>
        rw [hL,e2,inBag_eq,z] at hi
        exact absurd ((zh _ _).mp hi).2 tk
      ·exact inb (w:Int) i (λx ex q2=>absurd q2 q) hi) t.hs.length
     omega
   ·have:=bag_le (λi=>inb (w:Int) i λx ex q=>by
     rcases kk _ _ ex with ⟨q1,_⟩ | ⟨_,q1⟩
     ·exact absurd q1 z
     ·rw [q1];rfl) t.hs.length
    omega
  ·obtain ⟨h0,e0,e3⟩:=hsN n h' eh
   rw [e3] at e
   by_cases z:n=l'
   ·subst z
    rw [e0] at hhl;cases hhl
    rw [if_pos rfl] at e
    rcases kk w x e with ⟨q1,_⟩ | ⟨_,q1⟩
    ·have bd:=k.gd.each M (zD hM)
     rw [q1];unfold othI;split <;> omega
    ·exact h.kb n _ e0 w x q1
   ·rw [if_neg z] at e;exact h.kb n h0 e0 w x e
  ·rcases ze.mp hd with hd | hd
   ·exact h.dk d0 hd gv2 m2 l2 g2 e
   ·rw [zN.mp hd] at e;cases e
    exact ⟨m',M,rfl,hM⟩
theorem HistT.new {rooms:List Int}{ps:List (Addr×M4)}{H:Hp}{x b:Addr}{ls:List (Addr×L4)}{t:Tr} (nt:New H x b ls ps.length t) (gd:Good rooms.length (ps.map (·.2))) (hb:∀ l∈ls,l.2.s < rooms.length) (rm:∀ (w:Nat) (r:Int),rooms[w]?=some r->0<=r):HistT rooms (ps.map (·.2)) t []:=by
 have hk:∀ (n:Nat) L h,t.ls[n]?=some L->t.hs[n]?=some h->h.2=[((L.2.s:Int),L.2.a)]:=λn L h eL eh=>by
  have e1:(t.hs.map (·.2))[n]?=some h.2:=by rw [zC,eh];rfl
  rw [nt.el] at eL
  rw [nt.eh,zC,eL] at e1
  exact (Option.some.inj e1).symm
 have hl:∀ (n:Nat) h,t.hs[n]?=some h->∃ L,t.ls[n]?=some L:=λn h eh=>by
  have e1:=congrArg List.length nt.eh
  rw [zA,zA] at e1
  exact ⟨_,zE (by rw [nt.el,<- e1];exact (zB.mp eh).1)⟩
 refine ⟨λn L h o eL eh eo=>?_,List.Pairwise.nil,λp hp=>(by cases hp),λi M hM=>?_,λw r hr=>?_,λn h eh w e ek=>?_,λd hd=>(by cases hd),λn h eh=>?_⟩
 ·have ek:=hk n L h eL eh
  have eo':o=begA L.2:=by
   rw [nt.el] at eL
   rw [nt.eo,zC,eL] at eo
   exact (Option.some.inj eo).symm
  refine ⟨λw e he=>?_,?_,?_,λy hy=>?_⟩
  ·rw [ek,kvget_one] at he
   split at he
   ·rename_i z
    cases he
    exact ⟨zo _,z.symm,L.2.s,z.symm,rfl⟩
   ·cases he
  ·rw [eo']
   unfold begA whs
   by_cases c:L.2.s=L.2.w
   ·by_cases c2:L.2.a<=L.2.z
    ·rw [if_pos ⟨c,c2⟩,if_pos c];simp [c2]
    ·rw [if_neg (λz=>c2 z.2),if_pos c];simp [c2]
   ·rw [if_neg (λz=>c z.1),if_neg c];rfl
  ·unfold whs
   split
   ·exact zw _ _
   ·exact List.Pairwise.nil
  ·unfold whs at hy
   split at hy
   ·exact .inl (zN.mp hy)
   ·cases hy
 ·have:=gd.each M (zD hM)
  have hi:i < ps.length:=by have:=(zB.mp hM).1;simpa using this
  refine ⟨by rw [nt.en,yO,if_pos hi];rfl,?_⟩
  show ((0:Nat):Int)<=_;omega
 ·have:∀ n,bagTo (w:Int) t.ls t.hs n=[]:=λn=>by
   induction n with
   | zero=>rfl
   | succ n ih=>
    unfold bagTo
    rw [ih,if_neg]
    ·rfl
    intro z
    cases eh:t.hs[n]? with
    | none=>rw [eh] at z;cases e1:t.ls[n]? <;> rw [e1] at z <;> exact absurd z (by unfold inBag;exact zG)
    | some h=>
     obtain ⟨L,eL⟩:=hl n h eh
     rw [eL,eh,inBag_eq,hk n L h eL eh,kvget_one] at z
     have zz:=(zh _ _).mp z
     by_cases c:(L.2.s:Int)=w
     ·have:=zz.2
      unfold takB at this
      rw [<-c] at this;simp at this
     ·rw [if_neg c] at zz;cases zz.1
  rw [this]
  exact rm w r hr
 ·obtain ⟨L,eL⟩:=hl n h eh
  rw [hk n L h eL eh,kvget_one] at ek
  split at ek
  ·rename_i z
   have:=hb L (by rw [<-nt.el];exact zD eL)
   omega
  ·cases ek
 ·obtain ⟨L,eL⟩:=hl n h eh
  rw [hk n L h eL eh];simp
end Sm
namespace Sm
open PySem L2 SmSort
theorem TrOk.butO {C:Addr}{H H':Hp}{t:Tr}{rooms:List Int}{tr tm:Addr}{ps:List (Addr×M4)} {n0:Nat} (k:TrOk C H t rooms tr tm ps n0) {p:Addr}{o:HO} (b:But p H H') (hp:H p=some o) (no:∀ xs,o≠.tup xs) (np:¬ (t.own p\/p=t.lL\/p=t.lH)):TrOk C H' t rooms tr tm ps n0:=by
 refine k.keep λc u hc e=>b c u (λz=>?_) e
 subst z
 rcases hc with h | h | h | ⟨ys,h⟩
 ·exact np (.inl h)
 ·exact np (.inr (.inl h))
 ·exact np (.inr (.inr h))
 ·rw [hp] at h;cases h;exact no _ rfl
def DsAt (H:Hp) (ys:List (Addr×Dd)):Prop:=∀ y∈ys,H y.1=some (.tup y.2.vs)
theorem DsAt.same {H H':Hp}{ys:List (Addr×Dd)} (h:DsAt H ys) (s:Same H H'):DsAt H' ys:=λy hy=>s _ _ (h y hy)
def spLetters47:Sp:=λvs H Q _=>∃ p b rooms tr tm ps,vs=[.ref p,.ref b]/\BookAt H b rooms tr tm ps/\1<=rooms.length/\rooms.length<=1000/\Good rooms.length (ps.map (·.2))/\Purse H p /\
 ∀ l (ls:List (Addr×L4)) H',Go p H H'->H' l=some (.lst (ls.map λx=>V.ref x.1))->(∀ x∈ls,H' x.1=some (.tup (letRow x.2)))->ls.length<=41->l≠p->(∀ x∈ls,x.2.s < rooms.length/\x.2.w < rooms.length)->Q (.ref l) H'
end Sm
namespace L2
open PySem PySem.Spec PyProof.Rows
section
variable {X:Cx}{pos:Pos}
end
end L2
namespace Sm
open PySem L2 SmSort
end Sm
namespace Sm
open PySem L2 SmSort
theorem newTr_len (ls:List (Addr×L4)) (m:Nat):(newTr ls m).hs.length=(newTr ls m).ls.length:=by show (ls.map _).length=_;rw [zA];rfl
end Sm
namespace Sm
open PySem L2 SmSort
section
variable {C:Addr} {H0 H:Hp}{t u:Tr}{rooms:List Int}{tr tm:Addr}{ps:List (Addr×M4)} {n0 n1:Nat}
end
end Sm
namespace Sm
open PySem L2 SmSort
end Sm
namespace L2
open PySem PySem.Spec PyProof.Rows
def tTry0 (ok:Value->Option Bool) (tb:XK->TS) (th:TS):TS:=λD σ H=>
 tb (λcls _ H'=>ok cls=some true/\∃ C,cls=Value.ref C/\th D σ H') D σ H
section
variable {X:Cx}{K:PySem.W.Frag}
theorem ps_try0 {body:List Stmt}{tb:XK->TS}{b₀:Stmt}{suite:List Stmt}{t:Expr}{hpos pos:Pos}{th:TS}{ok:Value->Option Bool} (hb:PSx X body tb) (hs:X.stack=X.env::X.outer) (hf:X.env.frame=some X.env.locals)
  (ht:∀ (e:Addr) (pins:List (Addr×Obj)) (σ:St) (H:Hp) (s:Shared) (C:Addr) (Q:Bool->Shared->Prop) (E E':Value->Shared->Prop),Inv X pins σ H s->PySem.W.Looks (model X.prog X.w) s.heap (typeOf (.ref e)) (.ref C)->ok (.ref C)=some true ->
   (∀ h',(∀ b o,s.heap.get? b=some o->h'.get? b=some o)->Q true { s with heap:=h' })->wpAny (model X.prog X.w) (X.hand e).A (eval t X.env) (λc s1=>wpAny (model X.prog X.w) (X.hand e).A (excMatches (.ref e) c) Q E' s1) E s)
  (hh:∀ e,PSs (X.hand e) (b₀::suite) th):PS X (.Try body [.ExceptHandler (some t) none (b₀::suite) hpos] [] [] pos) (tTry0 ok tb th):=by
 intro pins s σ H D I h
 refine wpAny_Try_except (thn (hb pins s σ H D _ _ I h ?_) λf s1 q=>?_)
 ·intro H1 s1 e s' I1 ⟨a,cls,H',B,ee,x,nb,ff,hty,em,C,ec,q⟩
  subst ee ec
  have fr:X.A.frames=some (X.env::X.outer):=by rw [<-hs];exact I1.ok.frames
  have ff1:=I1.stack
  rw [hs] at ff
  refine note_fly (cls:=.ref C) fr hf x.stays ⟨nb,ff,.inr (.inl hty)⟩ λh2 k2 u2 l2 t2=>?_
  refine mark_fly (fo:=none) k2 l2 t2 λh3 k3 u3 l3 t3=>?_
  have x3:=(x.step ff1 k2 u2).step ff1 k3 u3
  have J3:Inv X pins σ H' { s' with heap:=h3 }:=I1.call' (ch:=[]) x3.os x3.un x3.hok x3.bare (λb z=>absurd z (by simp))
  obtain ⟨oe,vs,T,oT,ts,he,hc,_⟩:=id t3
  have LT:PySem.W.Looks (model X.prog X.w) h3 (typeOf (.ref a)) (.ref C):=hc ▸ (PySem.W.Looks.ld he).andThen .now
  refine wpAny_handleBy_cons (codeAny_handlers_test (ht a pins σ H' { s' with heap:=h3 } C _ _ _ J3 LT em λh3' kk=>?_)) (by intro z;cases z)
  have k3':B.StaysIn h3':=λb o e=>kk b o (k3 b o e)
  have l3':h3'.FunFrames B (X.env::X.outer):=l3.of_keeps λb o q _=>⟨o,kk b o q,rfl⟩
  have t3':TrD h3' B a (Value.ref C) ((none:Option Addr).elim Value.none λf=>rawInt ↑f):=by
   obtain ⟨oe,vs,T,oT,ts,he,hc,hdc,hd,h1,hn,hne,hT,hdT,h3⟩:=t3
   exact ⟨oe,vs,T,oT,ts,kk _ _ he,hc,hdc,hd,h1,hn,hne,kk _ _ hT,hdT,h3⟩
  have x3':=x3.step ff1 k3' (PySem.Heap.UpToSlots.of_keeps kk)
  refine codeAny_handlers_suite (mark_fly (fo:=none) k3' l3' t3' λh4 k4 u4 l4 t4=>?_)
  have x4:=x3'.step ff1 k4 u4
  have J4:Inv X pins σ H' { s' with heap:=h4 }:=I1.call' (ch:=[]) x4.os x4.un x4.hok x4.bare (λb z=>absurd z (by simp))
  refine wpAny_mono (hh a pins _ _ _ _ (J4.hand a) q) (λf s6 z=>?_) λ_ _ z=>z.elim
  cases f with
  | next=>obtain ⟨σ',H2,I6,q6⟩:=z;exact ⟨σ',H2,I6.unhand I.ok,q6⟩
  | brk=>obtain ⟨σ',H2,I6,q6⟩:=z;exact ⟨σ',H2,I6.unhand I.ok,q6⟩
  | cont=>obtain ⟨σ',H2,I6,q6⟩:=z;exact ⟨σ',H2,I6.unhand I.ok,q6⟩
  | ret u=>obtain ⟨v,σ',H2,I6,r6,q6⟩:=z;exact ⟨v,σ',H2,I6.unhand I.ok,r6,q6⟩
 ·cases f with
  | next=>exact wpAny_execs_nil q
  | brk=>exact q
  | cont=>exact q
  | ret u=>exact q
theorem ps_try3 {body:List Stmt}{tb:XK->TS}{b₀:Stmt}{suite:List Stmt} {y1 y2 y3:Str} {p1 p2 p3 tp hpos pos:Pos}{kk:Nat}{th:TS} {c1 c2 c3:Value} (hK:X.K=K) (hb:PSx X body tb) (hs:X.stack=X.env::X.outer) (hf:X.env.frame=some X.env.locals)
  (g1:Gl X y1) (m1:X.mg y1=some c1) (g2:Gl X y2) (m2:X.mg y2=some c2) (g3:Gl X y3) (m3:X.mg y3=some c3) (hh:∀ e,PSs (X.hand e) (b₀::suite) th)
  (d1:(y1 == ("__debug__" : Str))=false:=by decide) (d2:(y2 == ("__debug__" : Str))=false:=by decide) (d3:(y3 == ("__debug__" : Str))=false:=by decide) :
  PS X (.Try body [.ExceptHandler (some (.Tuple [.Name y1 p1,.Name y2 p2,.Name y3 p3] kk tp)) none (b₀::suite) hpos] [] [] pos) (tTry0 (λcls=>yk K cls [c1,c2,c3]) tb th):=by
 subst hK
 refine ps_try0 hb hs hf (λe pins σ H s C Q E E' I LT em q=>?_) hh
 refine wpAny_Tuple ?_
 refine wpAny_items_cons (ld_glob (X:=X.hand e) (I.hand e) g1 m1 ?_ d1)
 refine wpAny_items_cons (ld_glob (X:=X.hand e) (I.hand e) g2 m2 ?_ d2)
 refine wpAny_items_cons (ld_glob (X:=X.hand e) (I.hand e) g3 m3 ?_ d3)
 refine wpAny_items_nil ⟨by show 3<=sizeLine;rw [sizeLine_eq];decide,?_⟩
 have kp:∀ q o,s.heap.get? q=some o->(s.heap.push { cls:=.type "tuple", data:=.seq [c1,c2,c3].toArray }).get? q=some o:=λ_ _ z=>Heap.get?_push_of_some _ z
 exact (PySem.W.exm_tup3 (I.kIn.keeps kp) (LT.keeps kp) (Heap.get?_push_size s.heap rfl) em).here (q _ kp)
theorem pe_two {e:Expr} {t1 t2:TE} (h1:PE X e t1) (h2:PE X e t2):PE X e (fun σ H Q=>t1 σ H Q\/t2 σ H Q):=by
 intro pins s σ H Q I h
 rcases h with h | h
 ·exact h1 pins s σ H Q I h
 ·exact h2 pins s σ H Q I h
end
end L2
namespace L2
open PySem PySem.Spec PyProof.Rows
theorem lk_list_keys:typeLookup (.type "list") "keys" = pure none:=by rw [typeLookup_type,builtinLookup_eq_fast];kernel_rfl
section
variable {prog:Program}{w:World}{A:Around}{E:Value->Shared->Prop}{s:Shared}
theorem keys_miss {a:Addr}{o:Obj}{xs:Array Value}{k:Nat}{Q:Option Value->Shared->Prop}
  (hx:s.heap.get? a=some o) (hc:o.cls=.type "list") (hdat:o.data=.seq xs k) (hd:o.dict=none) (hA:A.handled=none)
  (h:∀ h' tk,(∀ b ob,s.heap.get? b=some ob->h'.get? b=some ob)->Q none { s with heap:=h',toks:=tk }):wpAny (model prog w) A (getAttr? (.ref a) "keys") Q E s:=by
 obtain ⟨c,dct,dat,sl⟩:=o
 simp only at hc hdat hd
 subst hc hdat hd
 obtain ⟨hp,g,d,tk,os⟩:=s
 have hT:∀ tk',(⟨hp,g,d,tk',os⟩:Shared).TypeIs (.ref a) "list" := λ_=>⟨_,hx,rfl⟩
 have f1:=sub_AttributeError
 have f3:=F.slot_list_getattribute.lookup
 have f4:=F.slot_list_getattribute.bind (.ref a)
 have f5:=am_list_getattr_none
 have hsz:(Str.ofString "keys").length + 100<=sizeLine:=by rw [sizeLine_eq];decide +kernel
 unfold getAttr? getAttrBy? getAttrBy
 repeat (any_goals (first | assumption | exact hT _ | ((with_reducible show wpAny _ _ (call (Value.builtin "list.__getattribute__") _ _) _ _ _);refine call_meets F.slot_list_getattribute (hT _) am_entry_list_getattribute (F.args_list_getattribute_2 _ _) (meets_getattribute_miss_list a xs k sl "keys" _ lk_list_keys (by decide +kernel) hsz) ⟨hx,hA,λh' tk' e' hx'=>?_⟩) | wp_step))
 obtain ⟨t',u',he⟩:=hx'.there
 show wpAny _ _ (getattributeRaised _ _ _ _ _ _ _) _ _ _
 unfold getattributeRaised
 repeat (any_goals (first | assumption | wp_step))
 exact h _ _ hx'.keeps
theorem entry_dul:entryFor table "dict.update.loop" = some Builtin.«dict.update.loop»:=entryFor_of_tree (by kernel_rfl)
theorem plain_dul:plainId "dict.update.loop" = true:=by decide +kernel
theorem dul {K:Type} [DecidableEq K] {knd:KeyKind prog w K}{R:Result->Shared->Prop} (hA:A.handled=none) (dd it l:Addr) (items:Array Value) (ps:List (K×Value)) (hlen:ps.length=items.size) (hsz:items.size<=sizeLine)
  (hdi:dd≠it) (hld:l≠dd) (hli:l≠it) :
  ∀ (m i:Nat) (s:Shared) (kvs:List (K×Value)),m + i=items.size->kvs.length<=i->s.heap.IsList l items->s.heap.IsListIter it l i->s.heap.DictOf knd dd kvs ->
   (∀ i,i < items.size->∃ t key v k,items[i]?=some (.ref t)/\IsTup s.heap t #[key,v]/\ps[i]?=some (k,v)/\knd.is k key=true/\t≠dd/\t≠it) ->
   (∀ h' tk,h'.DictOf knd dd (merged kvs (ps.drop i))->(∀ b o,b≠dd->b≠it->s.heap.get? b=some o->h'.get? b=some o)->R (.ok (.ret .none)) { s with heap:=h',toks:=tk }) ->
   codeAny (model prog w) A (.builtin "dict.update.loop" ⟨[.ref dd,.ref it,rawInt i,.none],[]⟩) R s:=by
 intro m
 induction m with
 | zero=>
  intro i s kvs hm hk hl hit hd hitem hR
  refine codeAny_builtin entry_dul ?_
  rw [Around.under_plainId plain_dul]
  unfold Builtin.«dict.update.loop»
  show wpAny _ _ (pyNext (.ref it) >>= _) _ _ _
  refine wpAny_bind (wpAny_pyNext_list_end hA hit hl (Array.getElem?_eq_none (by omega)) λh' eb=>?_)
  show wpAny _ _ (Builtin.Dict.addKeywords dd [] >>= _) _ _ _
  refine wpAny_bind (wpAny_pure (wpAny_pure ?_))
  refine hR h' s.toks ?_ (λb o _ hb e=>eb b o hb e)
  rw [List.drop_of_length_le (by omega)]
  exact hd.extBut eb hdi
 | succ m ih=>
  intro i s kvs hm hk hl hit hd hitem hR
  refine codeAny_builtin entry_dul ?_
  rw [Around.under_plainId plain_dul]
  unfold Builtin.«dict.update.loop»
  show wpAny _ _ (pyNext (.ref it) >>= _) _ _ _
  obtain ⟨t,key,v,k,hx,ht,hp,hkey,ntd,nti⟩:=hitem i (by omega)
  refine wpAny_bind (wpAny_pyNext_list_item hit hl (x:=.ref t) hx λh1 st1 sb1=>?_)
  try dsimp only
  have ht1:IsTup h1 t #[key,v]:=by
   obtain ⟨o,e,r⟩:=ht
   exact ⟨o,(sb1.2 t nti).trans e,r⟩
  refine wpAny_bind (wpAny_holding ?_)
  refine wpAny_bind (wpAny_tryCatch ?_)
  unfold Builtin.Dict.pairItems
  refine wpAny_bind (wpAny_typeOf (T := "tuple") ht1.typeIs ?_)
  rw [if_pos (by decide)]
  obtain ⟨ot,eo,ec,en,ed⟩:=id ht1
  refine wpAny_bind (wpAny_seqItems eo ed (wpAny_pure ?_))
  show wpAny _ _ (holding [key,v] (dictSet dd key v)) _ _ _
  have hd1:h1.DictOf knd dd kvs:=hd.at λo e=>(sb1.2 dd hdi).trans e
  refine wpAny_holding (wpAny_dictSet_pairs hkey hd1 (λh2 hd2 sb2=>?_) (by omega))
  refine wpAny_pure ⟨plainId_quiet plain_dul _,?_⟩
  have keep:∀ b o,b≠dd->b≠it->s.heap.get? b=some o->h2.get? b=some o:=λb o n1 n2 e=>(sb2.2 b n1).trans ((sb1.2 b n2).trans e)
  have e1:(rawInt ((i:Int) + 1))=rawInt ((i + 1:Nat):Int):=by rw [Int.natCast_succ]
  have st:=ih (i + 1) { s with heap:=h2,toks:=s.toks + 1 } (stored kvs k v) (by omega) (zk (stored_length_le kvs k v) (by omega))
   (hl.at λo e=>keep l o hld hli e) (by obtain ⟨o,e,r⟩:=st1;exact ⟨o,(sb2.2 it hdi.symm).trans e,r⟩) hd2
   (λj hj=>by
    obtain ⟨t',key',v',k',q1,⟨o,e,r⟩,q3,q4,q5,q6⟩:=hitem j hj
    exact ⟨t',key',v',k',q1,⟨o,keep t' o q5 q6 e,r⟩,q3,q4,q5,q6⟩)
   (λh' tk hd' kk=>by
    refine hR h' tk ?_ λb o n1 n2 e=>kk b o n1 n2 (keep b o n1 n2 e)
    have ed':ps.drop i=(k,v)::ps.drop (i + 1):=by
     have hi:i < ps.length:=by omega
     rw [List.drop_eq_getElem_cons hi]
     congr 1
     exact Option.some.inj ((zE hi).symm.trans hp)
    rw [ed']
    exact hd')
  show codeAny _ _ (.builtin "dict.update.loop" ⟨[.ref dd,.ref it,rawInt ((i:Int) + 1),.none],[]⟩) _ _
  rw [e1]
  exact st
theorem call_dict_pairs {K:Type} [DecidableEq K] {knd:KeyKind prog w K}{l:Addr}{ol:Obj}{items:Array Value}{nl:Nat}{ps:List (K×Value)}{Q:Value->Shared->Prop} (hA:A.handled=none)
  (hl:s.heap.get? l=some ol) (hc:ol.cls=.type "list") (hd:ol.data=.seq items nl) (hn:ol.dict=none) (hlen:ps.length=items.size) (hsz:items.size<=sizeLine)
  (hitem:∀ i,i < items.size->∃ t key v k,items[i]?=some (.ref t)/\IsTup s.heap t #[key,v]/\ps[i]?=some (k,v)/\knd.is k key=true)
  (h:∀ p h' tk,s.heap.objs.size<=p->h'.DictOf knd p (merged [] ps)->(∀ b o,s.heap.get? b=some o->h'.get? b=some o)->Q (.ref p) { s with heap:=h',toks:=tk }) :
  wpAny (model prog w) A (call (.type "dict") [.ref l]) Q E s:=by
 refine callType_codes (Q₁:=λobj s₁=>obj=.ref s.heap.objs.size/\s₁={ s with heap:=s.heap.push { cls:=.type "dict", data:=.dict #[] } }) F.kt_called_dict (F.kt_typeCall_dict_1 _) F.entry_dict_init (kt_code_dict_new _ ⟨rfl,rfl⟩) ?_
 rintro obj s₁ ⟨rfl,rfl⟩
 have hnew:(s.heap.push { cls:=.type "dict", data:=.dict #[] }).DictOf knd s.heap.objs.size []:=Heap.DictOf.new s.heap
 have hl1:(s.heap.push { cls:=.type "dict", data:=.dict #[] }).get? l=some ol:=Heap.get?_push_of_some _ hl
 refine ⟨hnew.typeIs,F.args_dict_init_2 _ _,?_⟩
 unfold Builtin.«dict.__init__»
 refine wpAny_bind ?_
 unfold Builtin.Dict.selfAndRest
 refine wpAny_bind (wpAny_notOrdered_dict hnew.typeIs ?_)
 show wpAny _ _ (pure (s.heap.objs.size,[Value.ref l])) _ _ _
 refine wpAny_pure ?_
 show wpAny _ _ (Builtin.Dict.updateFrom "dict.__init__" s.heap.objs.size (.ref l) [] .none) _ _ _
 unfold Builtin.Dict.updateFrom
 refine wpAny_bind (wpAny_typeOf (T := "list") ⟨ol,hl1,hc⟩ ?_)
 rw [if_pos (by decide)]
 refine wpAny_bind (keys_miss hl1 hc hd hn hA λh2 tk2 k2=>?_)
 rw [if_pos (show (none:Option Value).isNone=true from rfl)]
 refine wpAny_bind (wpAny_rule ?_)
 have hl2:h2.get? l=some ol:=k2 _ _ hl1
 have L2':h2.IsList l items:=⟨ol,hl2,hc,nl,hd⟩
 have hd2:h2.DictOf knd s.heap.objs.size []:=hnew.keep k2
 have lts:l < s.heap.objs.size:=Heap.lt_size hl
 have ltd:s.heap.objs.size < h2.objs.size:=by
  obtain ⟨o,_,_,e,_⟩:=hd2
  exact Heap.lt_size e
 refine wpAny_bind (wpAny_pyIter_list L2' ?_)
 refine wpAny_pure ⟨plainId_quiet plain_dul _,?_⟩
 refine dul (A:=A.in1) (knd:=knd) hA s.heap.objs.size h2.objs.size l items ps hlen hsz (zS ltd) (zS lts) (zS (Nat.lt_trans lts ltd)) items.size 0 _ [] (by omega) (zK _)
  (L2'.push _) ⟨_,Heap.get?_push_size _ rfl,rfl,rfl⟩ (hd2.push _) (λi hi=>?_) (λh' tk hd' kk=>⟨rfl,h _ h' tk (zK _) hd' λb o e=>?_⟩)
 ·obtain ⟨t,key,v,k,q1,⟨o,e,r⟩,q3,q4⟩:=hitem i hi
  have:=Heap.lt_size e
  exact ⟨t,key,v,k,q1,⟨o,Heap.get?_push_of_some _ (k2 _ _ (Heap.get?_push_of_some _ e)),r⟩,q3,q4,zS this,zS (Nat.lt_trans this ltd)⟩
 ·have:=Heap.lt_size e
  exact kk b o (zS this) (zS (Nat.lt_trans this ltd)) (Heap.get?_push_of_some _ (k2 _ _ (Heap.get?_push_of_some _ e)))
end
section
variable {X:Cx}
def rDictP (K:PySem.W.Frag):List V->Hp->VK->Prop:=λxs H Q=>∃ l,∃ ks:List (Addr×Int×V),xs=[.ref l]/\SqL K H l (ks.map λk=>V.ref k.1)/\(∀ k∈ks,SqT K H k.1 [.int k.2.1,k.2.2]) /\
 ∀ p,H p=none->Q (.ref p) (upd H p (.dK (mergeK [] (ks.map λk=>(.inl k.2.1,k.2.2)))))
theorem call_dictP {K:PySem.W.Frag} (hK:X.K=K) (hc:X.calm=true):CallR X (.type "dict") (rDictP K):=by
 subst hK
 intro pins s σ H xs us Q I r h
 obtain ⟨l,ks,rfl,hl,ht,q⟩:=h
 obtain ⟨u,rfl,ru⟩:=vals1 r
 cases ru
 obtain ⟨its,rv,pl,hz⟩:=I.list hl
 have mk:∀ ks:List (Addr×Int×V),(∀ k∈ks,SqT X.K H k.1 [.int k.2.1,k.2.2])->∃ ps:List (Key×Value),KV (ks.map λk=>((Sum.inl k.2.1:Key),k.2.2)) ps/\ps.length=ks.length /\
   ∀ (i:Nat) k,ks[i]?=some k->∃ key v,IsTup s.heap k.1 #[key,v]/\ps[i]?=some (.inl k.2.1,v)/\(mixKind X.prog X.w).is (.inl k.2.1) key=true:=by
  intro ks
  induction ks with
  | nil=>intro _;exact ⟨[],.nil,rfl,λi k h=>by cases h⟩
  | cons k ks ih=>
   intro h
   obtain ⟨ps,r1,r2,r3⟩:=ih λk hk=>h k (.tail _ hk)
   obtain ⟨jts,rt,pt,_⟩:=I.tuple (h k (.head _))
   cases rt with
   | cons ra rb=>
    cases rb with
    | cons rb rc=>
     cases rc
     obtain ⟨tk,rfl⟩:=ra
     refine ⟨(.inl k.2.1,_)::ps,.cons ⟨rfl,rb⟩ r1,by rw [zg,r2,zg],λi k' hk=>?_⟩
     cases i with
     | zero=>cases hk;exact ⟨_,_,pt,rfl,mixKind_int _ _ _ _⟩
     | succ i=>exact r3 i k' hk
 obtain ⟨ps,hkv,hpl,hps⟩:=mk ks ht
 obtain ⟨ol,nl,e,hcl,hdn,hdat⟩:=pl
 have ll:=rv.length
 rw [zA] at ll
 refine call_dict_pairs (knd:=mixKind X.prog X.w) (ps:=ps) (I.ok.hd hc) e hcl hdat hdn (by rw [zP];omega) (by rw [zP,<- ll];rw [zA] at hz;exact hz) (λi hi=>?_) (λp h' tk hp hd' kk=>?_)
 ·rw [zP,<- ll] at hi
  obtain ⟨key,v,q1,q2,q3⟩:=hps i ks[i] (zE hi)
  obtain ⟨u,hu,ru⟩:=rv.get (i:=i) (x:=V.ref ks[i].1) (by rw [zC,zE hi];rfl)
  cases ru
  exact ⟨ks[i].1,key,v,_,by simpa using hu,q1,q2,q3⟩
 ·have hlk:=length_mergeK (ks.map λk=>((Sum.inl k.2.1:Key),k.2.2)) []
  rw [zA] at hlk hz
  have I1:=I.laid (a:=p) (o:=.dK (mergeK [] (ks.map λk=>(.inl k.2.1,k.2.2)))) (h':=h') (t':=tk) kk hp ⟨zk hlk (by simpa using hz),?_,_,KV.merge hkv .nil,hd'⟩
  ·exact ⟨.ref p,_,I1,rfl,q p (I.hok.fresh hp)⟩
  ·exact beq_eq_false_iff_ne.mpr (xA (zU I.big hp))
end
end L2
namespace Sm
open PySem L2 SmSort
def spPassOn9 (C:Addr):Sp:=λvs H Q _=>∃ t,∃ m l:Nat,∃ g M L rooms tr tm ps n0,vs=[.ref t.x,.int (m:Int),.int (l:Int),.int g]/\TrOk C H t rooms tr tm ps n0/\(ps.map (·.2))[m]?=some M/\t.ls[l]?=some L/\(g=M.lo\/g=M.hi)/\n0 < 100000 /\
 ∀ H',Keeps t H H'->TrOk C H' (t.passed m l M L.2 (othI M g)) rooms tr tm ps (n0 + 1)->Q .non H'
def spDo9 (C:Addr) (X:XC):Sp:=λvs H Q E=>∃ t y rooms tr tm ps n0,vs=[.ref t.x,y]/\TrOk C H t rooms tr tm ps n0/\n0 < 100000/\((∃ d,DeedAt H y d/\(codeT rooms (ps.map (·.2)) t d=8->∀ H',Keeps t H H'->TrOk C H' (t.doneT (ps.map (·.2)) y d) rooms tr tm ps (n0 + 1)->Q .non H')/\(codeT rooms (ps.map (·.2)) t d≠8->∀ H',Same H H'->E (.ref (X.of (codeT rooms (ps.map (·.2)) t d))) none H')) \/
 ∃ a xs,y=.ref a/\H a=some (.lst xs)/\E (.ref X.deed) none H)
def oAt (os:List (Option Int)) (w:Int):Option Int:=(os[w.toNat]?).join
def loneH (M:M4) (os:List (Option Int)):Option Int:=
 if (oAt os M.lo).isNone=(oAt os M.hi).isNone then none else if (oAt os M.lo).isNone=true then some M.hi else some M.lo
def spLoneH:Sp:=λvs H Q _=>∃ b,∃ m:Nat,∃ row os M rooms tr tm ps,vs=[.ref b,.int (m:Int),.ref row]/\BookAt H b rooms tr tm ps/\Good rooms.length (ps.map (·.2))/\(ps.map (·.2))[m]?=some M/\H row=some (.lst (os.map oV))/\os.length=rooms.length/\Q (oV (loneH M os)) H
def spIsDone (C:Addr):Sp:=λvs H Q _=>∃ t y d rooms tr tm ps n0,vs=[.ref t.x,y]/\TrOk C H t rooms tr tm ps n0/\n0 < 100000/\DeedAt H y d/\(codeT rooms (ps.map (·.2)) t d=4\/codeT rooms (ps.map (·.2)) t d=6\/codeT rooms (ps.map (·.2)) t d=7\/codeT rooms (ps.map (·.2)) t d=8) /\
 (codeT rooms (ps.map (·.2)) t d=8->∀ H',Keeps t H H'->TrOk C H' (t.doneT (ps.map (·.2)) y d) rooms tr tm ps (n0 + 1)->Q (.bl true) H')/\(codeT rooms (ps.map (·.2)) t d≠8->∀ H',Same H H'->Q (.bl false) H')
def tmsOf (n:Nat) (kv:List (Int×Int)):List (Option Int):=(List.range n).map λw:Nat=>kvget kv (w:Int)
def spTimesOf:Sp:=λvs H Q _=>∃ b l,∃ qs:List (Addr×List Int),∃ kv rooms tr tm ps,vs=[.ref b,.ref l]/\BookAt H b rooms tr tm ps/\rooms.length<=12/\H l=some (.lst (qs.map λa=>V.ref a.1))/\(∀ a∈qs,H a.1=some (.tup (a.2.map V.int)))/\(qs.map (·.2)).Perm (kv.map λp=>[p.1,p.2])/\(kv.map (·.1)).Nodup /\
 ∀ p H',Same H H'->H p=none->H' p=some (.lst ((tmsOf rooms.length kv).map oV))->Q (.ref p) H'
def RuleAt (CA CH CN:Addr) (H:Hp) (r:Addr) (n:Nat):Prop:=(∃ dx,H r=some (.ins CA dx []))\/(∃ k,HalfAt CH H r k/\1<=k/\k<=64)\/∃ pb rooms tr tm ps,NearAt CN H r pb/\BookAt H pb rooms tr tm ps/\rooms.length=n/\ps.length<=1000
def OsOk (t:Tr):Prop:=∀ (n:Nat) L h o,t.ls[n]?=some L->t.hs[n]?=some h->t.os[n]?=some o->o=(kvget h.2 (L.2.w:Int)).filter λe=>decide (e<=L.2.z)
def kvAll (acc:List (Int×Int)) (more:List (Int×Int)):List (Int×Int):=more.foldl (λa p=>kvput a p.1 p.2) acc
theorem kv_iff {kv:List (Int×Int)} (nd:(kv.map (·.1)).Nodup) {w e:Int}:kvget kv w=some e↔(w,e)∈kv:=by
 constructor
 ·intro h
  unfold kvget at h
  cases f:kv.find? λa=>decide (a.1=w) with
  | none=>rw [f] at h;cases h
  | some p=>
   rw [f] at h
   have e1:=Option.some.inj h
   have e0:decide (p.1=w)=true:=List.find?_some (p:=λa:Int×Int=>decide (a.1=w)) f
   have e2:=of_decide_eq_true e0
   have m:=List.mem_of_find?_eq_some f
   obtain ⟨p1,p2⟩:=p
   cases e1;cases e2;exact m
 ·intro h;exact kvget_mem nd (w,e) h
theorem kvget_all:∀ {more acc:List (Int×Int)}{w:Int},(more.map (·.1)).Nodup->kvget (kvAll acc more) w=match kvget more w with | some e=>some e | none=>kvget acc w
 | [],acc,w,_=>rfl
 | p::more,acc,w,nd=>by
  have nd':=yQ.mp nd
  show kvget (kvAll (kvput acc p.1 p.2) more) w=_
  rw [kvget_all nd'.2,kvget_put]
  by_cases h:w=p.1
  ·subst h
   have e0:kvget more p.1=none:=by
    cases e:kvget more p.1 with
    | none=>rfl
    | some x=>exact absurd (zO.mpr ⟨_,(kv_iff nd'.2).mp e,rfl⟩) nd'.1
   have e1:kvget (p::more) p.1=some p.2:=kvget_mem nd p (.head _)
   rw [e0,e1,if_pos rfl]
  ·have e1:kvget (p::more) w=kvget more w:=by
    unfold kvget
    rw [yR,decide_eq_false (λz=>h z.symm)]
   rw [e1,if_neg h]
theorem merge_kv:∀ (more acc:List (Int×Int)),mergeK (kvV acc) (more.map λp=>(Sum.inl p.1,V.int p.2))=kvV (kvAll acc more)
 | [],acc=>rfl
 | p::more,acc=>by
  show mergeK (putK (kvV acc) (Sum.inl p.1) (V.int p.2)) (more.map λp=>(Sum.inl p.1,V.int p.2))=_
  rw [putK_kv,merge_kv more];rfl
theorem kvget_perm {k1 k2:List (Int×Int)} (p:k1.Perm k2) (nd:(k2.map (·.1)).Nodup) (w:Int):kvget k1 w=kvget k2 w:=by
 have nd1:(k1.map (·.1)).Nodup:=((p.map (·.1)).nodup_iff).mpr nd
 cases e:kvget k1 w with
 | some x=>exact ((kv_iff nd).mpr (p.mem_iff.mp ((kv_iff nd1).mp e))).symm
 | none=>
  cases e2:kvget k2 w with
  | none=>rfl
  | some x=>rw [(kv_iff nd1).mpr (p.mem_iff.mpr ((kv_iff nd).mp e2))] at e;cases e
section
variable {CA CH CN:Addr}{H:Hp}{r:Addr}{n:Nat}{σ:St}{i:Nat}{Q:VK} {E1 E2 E3:XK}
end
def TokOk (n:Nat) (t:Tr) (ts:List (Addr×List (Option Int))):Prop:=ts.length=t.ls.length/\∀ (j:Nat) x h,ts[j]?=some x->t.hs[j]?=some h->x.2.length=n/\(∀ w:Nat,w < n->(oAt x.2 (w:Int)).isSome=(kvget h.2 (w:Int)).isSome)/\∀ w v,oAt x.2 w=some v->0<=v/\v<=64
theorem lone_code {rooms:List Int}{ms:List M4}{t:Tr}{m j:Nat}{M:M4}{x:Addr×List (Option Int)}{h:Addr×List (Int×Int)}{L:Addr×L4}{g:Int} (gd:Good rooms.length ms) (lh:t.hs.length=t.ls.length) (hM:ms[m]?=some M) (hr:t.r<=m) (hL:t.ls[j]?=some L) (hh:t.hs[j]?=some h)
  (hx:∀ w:Nat,w < rooms.length->(oAt x.2 (w:Int)).isSome=(kvget h.2 (w:Int)).isSome) (hg:loneH M x.2=some g) :
  (g=M.lo\/g=M.hi)/\(oAt x.2 g).isSome=true/\(oAt x.2 (othI M g)).isSome=false/\(codeT rooms ms t (.pass false (m:Int) (j:Int) g)=4\/codeT rooms ms t (.pass false (m:Int) (j:Int) g)=6\/codeT rooms ms t (.pass false (m:Int) (j:Int) g)=7\/codeT rooms ms t (.pass false (m:Int) (j:Int) g)=8):=by
 have ge:=gd.each M (zD hM)
 have key:(g=M.lo\/g=M.hi)/\(oAt x.2 g).isSome=true/\(oAt x.2 (othI M g)).isSome=false:=by
  unfold loneH at hg
  split at hg
  ·cases hg
  ·rename_i c1
   split at hg
   ·rename_i c2
    cases hg
    have o1:othI M M.hi=M.lo:=by unfold othI;rw [if_neg (by omega)]
    rw [o1]
    cases e1:oAt x.2 M.lo with
    | some z=>rw [e1] at c2;cases c2
    | none=>
     cases e2:oAt x.2 M.hi with
     | none=>rw [e1,e2] at c1;exact absurd rfl c1
     | some z=>exact ⟨.inr rfl,rfl,rfl⟩
   ·rename_i c2
    cases hg
    have o1:othI M M.lo=M.hi:=by unfold othI;rw [if_pos rfl]
    rw [o1]
    cases e1:oAt x.2 M.lo with
    | none=>rw [e1] at c2;exact absurd rfl c2
    | some z=>
     cases e2:oAt x.2 M.hi with
     | some y=>rw [e1,e2] at c1;exact absurd rfl c1
     | none=>exact ⟨.inl rfl,rfl,rfl⟩
 refine ⟨key.1,key.2.1,key.2.2,?_⟩
 have hm:=(zB.mp hM).1
 have hj:=(zB.mp hL).1
 have ob:0<=othI M g/\othI M g < rooms.length:=by unfold othI;split <;> omega
 obtain ⟨ow,eow⟩:=zM ob.1
 have nk:(kvget h.2 (othI M g)).isSome=false:=by
  rw [eow,<- hx ow (by omega),<- eow];exact key.2.2
 show codeP rooms ms t (m:Int) (j:Int) g=4\/_\/_\/_
 show codeP rooms ms t (m:Int) (j:Int) g=4\/codeP rooms ms t (m:Int) (j:Int) g=6\/codeP rooms ms t (m:Int) (j:Int) g=7\/codeP rooms ms t (m:Int) (j:Int) g=8
 unfold codeP
 rw [if_pos ⟨by omega,by omega,hr⟩,if_pos ⟨by omega,by omega⟩,zH,zH,hM,hL,hh]
 dsimp only
 unfold codeP2
 rw [if_pos key.1,nk]
 split
 ·rw [if_neg zG]
  split
  ·exact .inr (.inl rfl)
  ·split
   ·exact .inr (.inr (.inl rfl))
   ·exact .inr (.inr (.inr rfl))
 ·exact .inl rfl
theorem oAt_set {os:List (Option Int)}{w v:Int}{o:Option Int} (w0:0<=w) (w1:w < os.length) (v0:0<=v):oAt (os.set w.toNat o) v=if v=w then o else oAt os v:=by
 unfold oAt
 rw [zY]
 by_cases z:v=w
 ·subst z;rw [if_pos rfl,if_pos rfl,if_pos (by omega)];rfl
 ·rw [if_neg (by omega),if_neg z]
theorem TokOk.step {rooms:List Int}{ms:List M4}{t:Tr}{m j:Nat}{M:M4}{x:Addr×List (Option Int)}{ts:List (Addr×List (Option Int))}{g:Int}{y:V}{sv gvv:Int} (gd:Good rooms.length ms) (lh:t.hs.length=t.ls.length) (k:TokOk rooms.length t ts) (hM:ms[m]?=some M) (hx:ts[j]?=some x) (hg:g=M.lo\/g=M.hi) (eg:oAt x.2 g=some gvv)
  (c:codeT rooms ms t (.pass false (m:Int) (j:Int) g)=8) (s0:0<=sv/\sv<=gvv) (g64:gvv<=64) :
  TokOk rooms.length (t.doneT ms y (.pass false (m:Int) (j:Int) g)) (ts.set j (x.1,(x.2.set (othI M g).toNat (some sv)).set g.toNat (some (gvv - sv)))):=by
 have ge:=gd.each M (zD hM)
 obtain ⟨n,h,en,ln,hh,ehs⟩:=doneT_hs lh y c
 obtain rfl:n=j:=by have:(j:Int)=n:=en;omega
 have ad:=doneT_ad t ms y (.pass false (m:Int) (n:Int) g)
 obtain ⟨lx,kx,vx⟩:=k.2 n x h hx hh
 have ob:0<=othI M g/\othI M g < rooms.length/\othI M g≠g:=by unfold othI;split <;> omega
 have gb:0<=g/\g < rooms.length:=by omega
 have lset:(x.2.set (othI M g).toNat (some sv)).length=rooms.length:=by rw [zm];exact lx
 refine ⟨by rw [zm,ad.ls];exact k.1,λi z h' hz hh'=>?_⟩
 have eh':some h'.2=((t.hs.map (·.2)).set n (kvNext ms h.2 (.pass false (m:Int) (n:Int) g)))[i]?:=by rw [<-ehs,zC,hh'];rfl
 rw [zY] at hz eh'
 by_cases e:n=i
 ·subst e
  rw [if_pos rfl,if_pos (zB.mp hx).1] at hz
  rw [if_pos rfl,if_pos (by rw [zA,lh];exact ln)] at eh'
  cases hz
  have e2:=Option.some.inj eh'
  have kn:kvNext ms h.2 (.pass false (m:Int) (n:Int) g)=kvput h.2 (othI M g) M.t:=by
   unfold kvNext;dsimp only;rw [zH,hM];rfl
  rw [kn] at e2
  have ev:∀ w:Int,0<=w->oAt ((x.2.set (othI M g).toNat (some sv)).set g.toNat (some (gvv - sv))) w=if w=g then some (gvv - sv) else if w=othI M g then some sv else oAt x.2 w:=λw w0=>by
   rw [oAt_set gb.1 (by rw [lset];exact gb.2) w0,oAt_set ob.1 (by rw [lx];exact ob.2.1) w0]
  refine ⟨by show (List.set _ _ _).length=_;rw [zm];exact lset,λw hw=>?_,λw v hv=>?_⟩
  ·rw [e2,kvget_put]
   show (oAt ((x.2.set (othI M g).toNat (some sv)).set g.toNat (some (gvv - sv))) (w:Int)).isSome=_
   rw [ev _ (by omega)]
   by_cases c1:(w:Int)=g
   ·rw [if_pos c1,if_neg (by omega),<- kx w hw,c1,eg];rfl
   ·rw [if_neg c1]
    by_cases c2:(w:Int)=othI M g
    ·rw [if_pos c2,if_pos c2];rfl
    ·rw [if_neg c2,if_neg c2];exact kx w hw
  ·have hv':oAt ((x.2.set (othI M g).toNat (some sv)).set g.toNat (some (gvv - sv))) w=some v:=hv
   by_cases w0:0<=w
   ·rw [ev w w0] at hv'
    split at hv'
    ·cases hv';omega
    ·split at hv'
     ·cases hv';omega
     ·exact vx w v hv'
   ·have e0:w.toNat=(0:Int).toNat:=by omega
    have:oAt ((x.2.set (othI M g).toNat (some sv)).set g.toNat (some (gvv - sv))) 0=some v:=by rw [<-hv'];unfold oAt;rw [e0]
    rw [ev 0 (by decide)] at this
    split at this
    ·cases this;omega
    ·split at this
     ·cases this;omega
     ·exact vx 0 v this
 ·rw [if_neg e] at hz eh'
  rw [zC] at eh'
  obtain ⟨h0,e0⟩:∃ h0,t.hs[i]?=some h0:=by
   cases z:t.hs[i]? with
   | none=>rw [z] at eh';cases eh'
   | some h0=>exact ⟨h0,rfl⟩
  rw [e0] at eh'
  rw [show h'.2=h0.2 from Option.some.inj eh']
  exact k.2 i z h0 hz e0
theorem OsOk.step {rooms:List Int}{ms:List M4}{t:Tr}{m j:Nat}{g:Int}{y:V} (lh:t.hs.length=t.ls.length) (k:OsOk t) (c:codeT rooms ms t (.pass false (m:Int) (j:Int) g)=8):OsOk (t.doneT ms y (.pass false (m:Int) (j:Int) g)):=by
 obtain ⟨m',l',M,L,h,em,el,hM,hL,hh,hr,hg,hb,ho,hc⟩:=codeP8 lh c
 obtain rfl:m'=m:=by omega
 obtain rfl:l'=j:=by omega
 obtain ⟨n,h2,en,ln,hh2,ehs⟩:=doneT_hs lh y c
 obtain rfl:n=l':=by have:(l':Int)=n:=en;omega
 rw [hh] at hh2;cases hh2
 obtain ⟨d1,d2,d3⟩:=doneT_pass (t:=t) (gv:=false) (g:=g) (y:=y) hM hL
 have ad:=doneT_ad t ms y (.pass false (m':Int) (n:Int) g)
 intro i L' h' o eL eh eo
 rw [ad.ls] at eL
 rw [d1,noteA_at] at eo
 have eh':some h'.2=((t.hs.map (·.2)).set n (kvNext ms h.2 (.pass false (m':Int) (n:Int) g)))[i]?:=by rw [<-ehs,zC,eh];rfl
 rw [zY] at eh'
 by_cases e:n=i
 ·subst e
  rw [hL] at eL;cases eL
  rw [if_pos rfl,if_pos (by rw [zA,lh];exact ln)] at eh'
  have kn:kvNext ms h.2 (.pass false (m':Int) (n:Int) g)=kvput h.2 (othI M g) M.t:=by
   unfold kvNext;dsimp only;rw [zH,hM];rfl
  rw [kn] at eh'
  rw [Option.some.inj eh',kvget_put]
  cases e1:t.os[n]? with
  | none=>rw [e1] at eo;split at eo <;> rename_i z <;> first | (exact absurd z.2.2.2 (by simp)) | cases eo
  | some o1=>
   have ok:=k n L h o1 hL hh e1
   rw [e1] at eo
   by_cases c1:(L.2.w:Int)=othI M g
   ·rw [if_pos c1]
    rw [c1] at ok
    have none1:kvget h.2 (othI M g)=none:=by
     cases z:kvget h.2 (othI M g) with
     | none=>rfl
     | some q=>rw [z] at ho;cases ho
    rw [none1] at ok
    by_cases c2:M.t<=L.2.z
    ·rw [if_pos ⟨rfl,c1.symm,c2,by rw [ok];rfl⟩] at eo
     cases eo
     simp [Option.filter,c2]
    ·rw [if_neg (λz=>c2 z.2.2.1)] at eo
     cases eo
     rw [ok];simp [Option.filter,c2]
   ·rw [if_neg c1]
    rw [if_neg (λz=>c1 z.2.1.symm)] at eo
    cases eo;exact ok
 ·rw [if_neg e,zC] at eh'
  rw [if_neg (λz=>e z.1)] at eo
  obtain ⟨h0,e0⟩:∃ h0,t.hs[i]?=some h0:=by
   cases z:t.hs[i]? with
   | none=>rw [z] at eh';cases eh'
   | some h0=>exact ⟨h0,rfl⟩
  rw [e0] at eh'
  rw [show h'.2=h0.2 from Option.some.inj eh']
  exact k i L' h0 o eL e0 eo
theorem oAt_rep {n:Nat}{f:Fn}{w:Nat} (h:w < n):oAt (rep n f) (w:Int)=f w:=by
 unfold oAt rep
 rw [zH,zC,yS h];rfl
theorem TokOk.new {n:Nat}{ls:List (Addr×L4)}{t:Tr}{ts:List (Addr×List (Option Int))} (el:t.ls=ls) (eh:t.hs.map (·.2)=ls.map λl=>[((l.2.s:Int),l.2.a)]) (lts:ts.length=ls.length) (ats:∀ (j:Nat) x L,ts[j]?=some x->ls[j]?=some L->∃ v:Int,0<=v/\v<=64/\x.2=rep n (lone L.2.s v)):TokOk n t ts:=by
 refine ⟨by rw [lts,el],λj x h hx hh=>?_⟩
 obtain ⟨L,hL⟩:∃ L,ls[j]?=some L:=⟨_,zE (by rw [<-lts];exact (zB.mp hx).1)⟩
 have e1:h.2=[((L.2.s:Int),L.2.a)]:=by
  have:=congrArg (·[j]?) eh
  simp only [zC,hh,hL,yb,Option.some.injEq] at this
  exact this
 obtain ⟨v,v0,v64,ex⟩:=ats j x L hx hL
 rw [ex,e1]
 refine ⟨by unfold rep;rw [zA,zv],λw hw=>?_,λw z hz=>?_⟩
 ·rw [oAt_rep hw,kvget_one]
  unfold lone
  by_cases c:w=L.2.s
  ·rw [if_pos c,if_pos (by omega)];rfl
  ·rw [if_neg c,if_neg (by omega)]
 ·have hz':oAt (rep n (lone L.2.s v)) ((w.toNat:Nat):Int)=some z:=by rw [<-hz];unfold oAt;rw [zH]
  by_cases hw:w.toNat < n
  ·rw [oAt_rep hw] at hz'
   unfold lone at hz'
   split at hz'
   ·cases hz';exact ⟨v0,v64⟩
   ·cases hz'
  ·unfold oAt at hz'
   rw [za (by unfold rep;rw [zA,zv,zH];omega)] at hz'
   cases hz'
theorem OsOk.new {H:Hp}{x b:Addr}{ls:List (Addr×L4)}{m:Nat}{t:Tr} (nt:New H x b ls m t):OsOk t:=by
 intro n L h o eL eh eo
 rw [nt.el] at eL
 have e1:h.2=[((L.2.s:Int),L.2.a)]:=by
  have:=congrArg (·[n]?) nt.eh
  simp only [zC,eh,eL,yb,Option.some.injEq] at this
  exact this
 rw [nt.eo,zC,eL] at eo
 have e2:o=begA L.2:=(Option.some.inj eo).symm
 rw [e1,e2]
 by_cases c:L.2.s=L.2.w
 ·have k1:kvget [((L.2.s:Int),L.2.a)] (L.2.w:Int)=some L.2.a:=by rw [kvget_one,if_pos (by omega)]
  rw [k1]
  unfold begA
  by_cases c2:L.2.a<=L.2.z
  ·rw [if_pos ⟨c,c2⟩];simp [Option.filter,c2]
  ·rw [if_neg (λz=>c2 z.2)];simp [Option.filter,c2]
 ·have k1:kvget [((L.2.s:Int),L.2.a)] (L.2.w:Int)=none:=by rw [kvget_one,if_neg (by omega)]
  rw [k1]
  unfold begA
  rw [if_neg (λz=>c z.1)];rfl
theorem List.set_getElem?_self' {α:Type}{xs:List α}{j:Nat}{x:α} (h:xs[j]?=some x):xs.set j x=xs:=by
 refine yP λi=>?_
 rw [zY]
 by_cases e:j=i
 ·subst e;rw [if_pos rfl,if_pos (zB.mp h).1,h]
 ·rw [if_neg e]
structure RunF (H0:Hp) (t0:Tr) (tl:Addr) (as:List Addr):Prop where
 ft:∀ c,t0.own c->H0 c=none
 nt:¬ (t0.own tl\/tl=t0.lL\/tl=t0.lH)
 na:∀ c∈as,¬ (t0.own c\/c=t0.lL\/c=t0.lH)
 fa:∀ c∈as,H0 c=none
 ntl:tl ∉ as
 nd:as.Nodup
structure RunI (C:Addr) (H0 H:Hp) (t0:Tr) (tl:Addr) (as:List Addr) (t:Tr) (ts:List (Addr×List (Option Int))) (ys:List (Addr×Dd)) (rooms:List Int) (tr tm:Addr) (ps:List (Addr×M4)) (ls:List (Addr×L4)) (m:Nat):Prop where
 sm:Same H0 H
 kt:TrOk C H t rooms tr tm ps (ys.length + 1)
 ad:SameAd t0 t
 rr:t.r<=m
 hist:HistT rooms (ps.map (·.2)) t (ys.map (·.2))
 oso:OsOk t
 tok:TokOk rooms.length t ts
 tw:Twin t (runT (ps.map (·.2)) (newTr ls ps.length) ys)
 rok:RunOk rooms (ps.map (·.2)) (newTr ls ps.length) ys
 eds:t.ds=ys.map λy=>V.ref y.1
 dsa:DsAt H ys
 ktl:H tl=some (.lst (ts.map λx=>V.ref x.1))
 kts:∀ x∈ts,H x.1=some (.lst (x.2.map oV))
 ea:ts.map (·.1)=as
section
variable {C:Addr} {H0 H H':Hp} {t0 t:Tr}{tl:Addr}{as:List Addr}{ts:List (Addr×List (Option Int))}{ys:List (Addr×Dd)}{rooms:List Int}{tr tm:Addr}{ps:List (Addr×M4)}{ls:List (Addr×L4)}{m:Nat}
theorem RunI.same (w:RunI C H0 H t0 tl as t ts ys rooms tr tm ps ls m) (s:Same H H'):RunI C H0 H' t0 tl as t ts ys rooms tr tm ps ls m:=
 ⟨w.sm.trans s,w.kt.same s,w.ad,w.rr,w.hist,w.oso,w.tok,w.tw,w.rok,w.eds,w.dsa.same s,s _ _ w.ktl,λx hx=>s _ _ (w.kts x hx),w.ea⟩
theorem RunI.mono (w:RunI C H0 H t0 tl as t ts ys rooms tr tm ps ls m) {m':Nat} (l:m<=m'):RunI C H0 H t0 tl as t ts ys rooms tr tm ps ls m':=
 ⟨w.sm,w.kt,w.ad,(by have:=w.rr;omega),w.hist,w.oso,w.tok,w.tw,w.rok,w.eds,w.dsa,w.ktl,w.kts,w.ea⟩
theorem RunI.step (f:RunF H0 t0 tl as) (w:RunI C H0 H t0 tl as t ts ys rooms tr tm ps ls m) {j:Nat}{M:M4}{x:Addr×List (Option Int)}{g gvv sv:Int}{ya:Addr} {HB H9:Hp} (hM:(ps.map (·.2))[m]?=some M) (hx:ts[j]?=some x) (hg:g=M.lo\/g=M.hi) (eg:oAt x.2 g=some gvv) (s0:0<=sv/\sv<=gvv) (g64:gvv<=64)
  (c:codeT rooms (ps.map (·.2)) t (.pass false (m:Int) (j:Int) g)=8) (kp:Keeps t H HB) (kB:TrOk C HB (t.doneT (ps.map (·.2)) (.ref ya) (.pass false (m:Int) (j:Int) g)) rooms tr tm ps (ys.length + 1 + 1)) (hy:H ya=some (.tup (Dd.pass false (m:Int) (j:Int) g).vs))
  (b9:But x.1 HB H9) (h9:H9 x.1=some (.lst (((x.2.set (othI M g).toNat (some sv)).set g.toNat (some (gvv - sv))).map oV))) :
  RunI C H0 H9 t0 tl as (t.doneT (ps.map (·.2)) (.ref ya) (.pass false (m:Int) (j:Int) g)) (ts.set j (x.1,(x.2.set (othI M g).toNat (some sv)).set g.toNat (some (gvv - sv)))) (ys++[(ya,.pass false (m:Int) (j:Int) g)]) rooms tr tm ps ls m:=by
 have gd:=w.kt.gd
 have adT:=doneT_ad t (ps.map (·.2)) (.ref ya) (.pass false (m:Int) (j:Int) g)
 have ad':SameAd t0 (t.doneT (ps.map (·.2)) (.ref ya) (.pass false (m:Int) (j:Int) g)):=⟨adT.x.trans w.ad.x,adT.b.trans w.ad.b,adT.lL.trans w.ad.lL,adT.lH.trans w.ad.lH,adT.lA.trans w.ad.lA,adT.lP.trans w.ad.lP,adT.lD.trans w.ad.lD,adT.ls.trans w.ad.ls,adT.hs.trans w.ad.hs⟩
 have xm:=zD hx
 have xa:x.1∈as:=by rw [<-w.ea];exact zO.mpr ⟨x,xm,rfl⟩
 have nx:=f.na x.1 xa
 have nxT:¬ ((t.doneT (ps.map (·.2)) (.ref ya) (.pass false (m:Int) (j:Int) g)).own x.1\/x.1=(t.doneT (ps.map (·.2)) (.ref ya) (.pass false (m:Int) (j:Int) g)).lL\/x.1=(t.doneT (ps.map (·.2)) (.ref ya) (.pass false (m:Int) (j:Int) g)).lH):=by rw [ad'.own,ad'.lL,ad'.lH];exact nx
 have own:∀ c,t.own c↔t0.own c:=λc=>w.ad.own c
 have ntl':¬ t.own tl:=λz=>f.nt (.inl ((own tl).mp z))
 have nrow:∀ z∈ts,¬ t.own z.1:=λz hz h=>f.na z.1 (by rw [<-w.ea];exact zO.mpr ⟨z,hz,rfl⟩) (.inl ((own _).mp h))
 have kx:HB x.1=some (.lst (x.2.map oV)):=kp _ _ (nrow x xm) (w.kts x xm)
 have tuB:Tups H HB:=λc xs e=>kp c _ (λz=>by obtain ⟨o,ho,no⟩:=w.kt.there (.inl z);rw [e] at ho;cases ho;exact no _ rfl) e
 have tu9:Tups HB H9:=λc xs e=>b9 _ _ (wP e kx (by intro z;cases z)) e
 obtain ⟨d1,d2,d3⟩:(t.doneT (ps.map (·.2)) (.ref ya) (.pass false (m:Int) (j:Int) g)).r=m/\True/\True:=by
  obtain ⟨m',l',M',L,h,em,el,hM',hL,_⟩:=codeP8 w.kt.lh c
  obtain rfl:m'=m:=by omega
  obtain rfl:l'=j:=by omega
  exact ⟨(doneT_pass (t:=t) (gv:=false) (g:=g) (y:=.ref ya) hM' hL).2.2,trivial,trivial⟩
 have sm9:Same H0 H9:=λc o e=>b9 c o (λz=>by rw [z,f.fa _ xa] at e;cases e) (kp c o (λz=>by rw [f.ft c ((own c).mp z)] at e;cases e) (w.sm c o e))
 have ly:(ys++[(ya,Dd.pass false (m:Int) (j:Int) g)]).length=ys.length + 1:=by rw [zW];rfl
 have ntx:tl≠x.1:=λz=>f.ntl (by rw [z];exact xa)
 refine ⟨sm9,?_,ad',by rw [d1];exact zo _,?_,w.oso.step w.kt.lh c,w.tok.step gd w.kt.lh hM hx hg eg c s0 g64,?_,w.rok.snoc (by rw [<-w.tw.code];exact c),?_,λy hy'=>?_,?_,λz hz=>?_,?_⟩
 ·rw [ly];exact kB.butO b9 kx (by intro _ z;cases z) nxT
 ·rw [zQ];exact w.hist.step w.kt c
 ·rw [runT_snoc];exact w.tw.done _
 ·rw [doneT_ds,w.eds,zQ];rfl
 ·rcases ze.mp hy' with h1 | h1
  ·exact tu9 _ _ (tuB _ _ (w.dsa y h1))
  ·rw [zN.mp h1];exact tu9 _ _ (tuB _ _ hy)
 ·rw [zq]
  have e1:(ts.map λx=>V.ref x.1).set j (V.ref x.1)=ts.map λx=>V.ref x.1:=by
   refine List.set_getElem?_self' ?_
   rw [zC,hx];rfl
  show H9 tl=some (.lst ((ts.map λx=>V.ref x.1).set j (V.ref x.1)))
  rw [e1]
  exact b9 _ _ ntx (kp _ _ ntl' w.ktl)
 ·by_cases e:z.1=x.1
  ·have ez:z=(x.1,(x.2.set (othI M g).toNat (some sv)).set g.toNat (some (gvv - sv))):=by
    obtain ⟨i,hi⟩:=yi hz
    rw [zY] at hi
    by_cases ij:j=i
    ·rw [if_pos ij,if_pos (zB.mp hx).1] at hi
     exact (Option.some.inj hi).symm
    ·rw [if_neg ij] at hi
     have nd:=f.nd
     rw [<-w.ea] at nd
     have pw:=yA.mp nd
     obtain ⟨li,ei⟩:=zB.mp hi
     obtain ⟨lj,ej⟩:=zB.mp hx
     rcases Nat.lt_or_gt_of_ne ij with h | h
     ·exact absurd (by rw [z6,z6,ei,ej,e]) (pw j i (by rw [zA];exact lj) (by rw [zA];exact li) h)
     ·exact absurd (by rw [z6,z6,ei,ej,e]) (pw i j (by rw [zA];exact li) (by rw [zA];exact lj) h)
   rw [ez];exact h9
  ·rcases List.mem_or_eq_of_mem_set hz with h1 | h1
   ·exact b9 _ _ e (kp _ _ (nrow z h1) (w.kts z h1))
   ·exact absurd (by rw [h1]) e
 ·rw [zq]
  have e1:(ts.map (·.1)).set j x.1=ts.map (·.1):=by
   refine List.set_getElem?_self' ?_
   rw [zC,hx];rfl
  show (ts.map (·.1)).set j x.1=as
  rw [e1];exact w.ea
end
theorem kv_few {kv:List (Int×Int)}{n:Nat} (nd:(kv.map (·.1)).Nodup) (kb:∀ w e,kvget kv w=some e->0<=w/\w < n):kv.length<=n:=by
 have:=nodup_len (xs:=kv.map (·.1)) (ys:=(List.range n).map λi:Nat=>(i:Int)) nd λx hx=>by
  obtain ⟨p,hp,rfl⟩:=zO.mp hx
  have b:=kb p.1 p.2 (kvget_mem nd p hp)
  exact zO.mpr ⟨p.1.toNat,zx.mpr (by omega),by omega⟩
 rw [zA,zA,zv] at this
 exact this
theorem HistT.few {rooms:List Int}{ms:List M4}{t:Tr}{ds:List Dd} (h:HistT rooms ms t ds) (lh:t.hs.length=t.ls.length) (lo:t.os.length=t.ls.length) {n:Nat}{x:Addr×List (Int×Int)} (hx:t.hs[n]?=some x):x.2.length<=rooms.length:=by
 have hn:n < t.ls.length:=by rw [<-lh];exact (zB.mp hx).1
 refine kv_few (h.nd n x hx) λw e k=>⟨?_,h.kb n x hx w e k⟩
 obtain ⟨_,_,w',ew,_⟩:=(h.each n _ x _ (zE hn) hx (zE (by rw [lo];exact hn))).ch w e k
 omega
theorem up3:∀ j:Nat,j < 10->Builtin.Range.small 0 (j:Int) 3=true/\Builtin.Range.rangeSize 0 (j:Int) 3=(((j + 2) / 3:Nat):Int):=by decide
theorem runT_lens {ms:List M4}:∀ {ys:List (Addr×Dd)}{t:Tr},(runT ms t ys).hs.length=t.hs.length/\(runT ms t ys).ls=t.ls
 | [],t=>⟨rfl,rfl⟩
 | y::ys,t=>by
  have h:=runT_lens (ms:=ms) (ys:=ys) (t:=t.doneT ms (.ref y.1) y.2)
  have ad:=doneT_ad t ms (.ref y.1) y.2
  refine ⟨h.1.trans ?_,h.2.trans ad.ls⟩
  have:=congrArg List.length ad.hs
  rw [zA,zA] at this
  exact this
end Sm
namespace L2
open PySem PySem.Spec PyProof.Rows
section
variable {X:Cx}
end
end L2
namespace Sm
open PySem L2 SmSort
inductive RuleD where
 | all
 | half (k:Int)
 | near (ms:List M4)
def RuleD.first:RuleD->Int
 | .half k=>k
 | _=>0
def RuleD.share:RuleD->L4->Int->Int->Int->Option Int
 | .all,_,_,_,_=>some 0
 | .half _,L,_,o,tok=>if o=L.w then some 0 else if 2<=tok then some (tok / 2) else none
 | .near ms,L,g,o,_=>if o=L.w\/metN ms g L.w < metN ms o L.w then some 0 else none
def RuleIs (CA CH CN:Addr) (H:Hp) (r:Addr) (n:Nat):RuleD->Prop
 | .all=>∃ dx,H r=some (.ins CA dx [])
 | .half k=>HalfAt CH H r k/\1<=k/\k<=64
 | .near ms=>∃ pb rooms tr tm ps,NearAt CN H r pb/\BookAt H pb rooms tr tm ps/\rooms.length=n/\ps.length<=1000/\ps.map (·.2)=ms
theorem RuleIs.same {CA CH CN:Addr}{H H':Hp}{r:Addr}{n:Nat}:∀ {d:RuleD},RuleIs CA CH CN H r n d->Same H H'->RuleIs CA CH CN H' r n d
 | .all,⟨dx,e⟩,s=>⟨dx,s _ _ e⟩
 | .half k,⟨e,k1⟩,s=>⟨e.same s,k1⟩
 | .near ms,⟨pb,rooms,tr,tm,ps,e,hb,l⟩,s=>⟨pb,rooms,tr,tm,ps,e.same s,hb.same s,l⟩
theorem RuleIs.at {CA CH CN:Addr}{H:Hp}{r:Addr}{n:Nat}:∀ {d:RuleD},RuleIs CA CH CN H r n d->RuleAt CA CH CN H r n
 | .all,⟨dx,e⟩=>.inl ⟨dx,e⟩
 | .half k,⟨e,k1,k2⟩=>.inr (.inl ⟨k,e,k1,k2⟩)
 | .near ms,⟨pb,rooms,tr,tm,ps,e,hb,l,n,_⟩=>.inr (.inr ⟨pb,rooms,tr,tm,ps,e,hb,l,n⟩)
theorem RuleD.first_b {CA CH CN:Addr}{H:Hp}{r:Addr}{n:Nat}:∀ {d:RuleD},RuleIs CA CH CN H r n d->0<=d.first/\d.first<=64
 | .all,_=>⟨zo _,(by decide:(0:Int)<=64)⟩
 | .half k,⟨_,k1,k2⟩=>⟨by show 0<=k;omega,k2⟩
 | .near _,_=>⟨zo _,(by decide:(0:Int)<=64)⟩
theorem RuleD.share_b {d:RuleD}{L:L4}{g o tok s:Int} (t0:0<=tok) (h:d.share L g o tok=some s):0<=s/\s<=tok:=by
 cases d with
 | all=>cases h;exact ⟨by decide,t0⟩
 | half k=>
  have h':(if o=L.w then some 0 else if 2<=tok then some (tok / 2) else none)=some s:=h
  split at h'
  ·cases h';exact ⟨by decide,t0⟩
  ·split at h'
   ·cases h';omega
   ·cases h'
 | near ms=>
  have h':(if o=L.w\/metN ms g L.w < metN ms o L.w then some 0 else none)=some s:=h
  split at h'
  ·cases h';exact ⟨by decide,t0⟩
  ·cases h'
section
variable {CA CH CN:Addr}{H:Hp}{r:Addr}{n:Nat}{σ:St}{i:Nat}{Q:VK} {E1 E2 E3:XK}
theorem rule_firstX {d:RuleD} (h:RuleIs CA CH CN H r n d) (hv:σ[i]?=some (some (.ref r))) (q:Q (.int d.first) H) :
  tMeth CA (Str.ofString "at_first") spFirst0 [] E1 (tVar i) tNil σ H Q\/tMeth CH (Str.ofString "at_first") (spFirstH CH) [] E2 (tVar i) tNil σ H Q\/tMeth CN (Str.ofString "at_first") spFirst0 [] E3 (tVar i) tNil σ H Q:=by
 cases d with
 | all=>obtain ⟨dx,e⟩:=h;exact .inl ⟨_,hv,r,dx,_,rfl,e,rfl,_,rfl,q⟩
 | half k=>obtain ⟨⟨dx,e⟩,k1,k2⟩:=h;exact .inr (.inl ⟨_,hv,r,dx,_,rfl,e,rfl,r,k,rfl,⟨dx,e⟩,q⟩)
 | near ms=>obtain ⟨pb,rooms,tr,tm,ps,⟨dx,e⟩,hb,l⟩:=h;exact .inr (.inr ⟨_,hv,r,dx,_,rfl,e,rfl,_,rfl,q⟩)
theorem rule_shareX {d:RuleD} {t1 t2 t3:TA}{lt:Addr}{g o tok:Int}{L:L4} (h:RuleIs CA CH CN H r n d) (hv:σ[i]?=some (some (.ref r))) (ht:∀ Z:List V->Hp->Prop,Z [.ref lt,.int g,.int o,.int tok] H->t1 σ H Z/\t2 σ H Z/\t3 σ H Z) (hl:H lt=some (.tup (letRow L))) (t0:0<=tok) (t64:tok<=64)
  (q:∀ H',Same H H'->Q (oV (d.share L g o tok)) H') :
  tMeth CA (Str.ofString "share") spShare0 [] E1 (tVar i) t1 σ H Q\/tMeth CH (Str.ofString "share") spShareH [] E2 (tVar i) t2 σ H Q\/tMeth CN (Str.ofString "share") (spShare CN) [] E3 (tVar i) t3 σ H Q:=by
 cases d with
 | all=>
  obtain ⟨dx,e⟩:=h
  exact .inl ⟨_,hv,r,dx,_,rfl,e,rfl,(ht _ ⟨_,_,_,_,_,rfl,q H (Same.refl _)⟩).1⟩
 | half k=>
  obtain ⟨⟨dx,e⟩,k1,k2⟩:=h
  refine .inr (.inl ⟨_,hv,r,dx,_,rfl,e,rfl,(ht _ ⟨_,lt,g,o,tok,_,_,_,_,rfl,hl,t0,t64,?_⟩).2.1⟩)
  have:Q (oV (if o=L.w then some 0 else if 2<=tok then some (tok / 2) else none)) H:=q H (Same.refl _)
  unfold halfV
  split
  ·rename_i c;rw [if_pos c] at this;exact this
  ·rename_i c;rw [if_neg c] at this
   split
   ·rename_i c2;rw [if_pos c2] at this;exact this
   ·rename_i c2;rw [if_neg c2] at this;exact this
 | near ms=>
  obtain ⟨pb,rooms,tr,tm,ps,⟨dx,e⟩,hb,l,n,em⟩:=h
  refine .inr (.inr ⟨_,hv,r,dx,_,rfl,e,rfl,(ht _ ⟨r,pb,lt,g,o,tok,_,_,_,_,rooms,tr,tm,ps,rfl,⟨dx,e⟩,hb,n,hl,λH' s'=>?_⟩).2.2⟩)
  have:Q (oV (if o=L.w\/metN ms g L.w < metN ms o L.w then some 0 else none)) H':=q H' s'
  rw [em]
  unfold shareV
  split
  ·rename_i c;rw [if_pos c] at this;exact this
  ·rename_i c;rw [if_neg c] at this;exact this
end
structure RS where
 t:Tr
 toks:List (List (Option Int))
 ds:List Dd
def RS.step (rooms:List Int) (ms:List M4) (d:RuleD) (m:Nat) (M:M4) (j:Nat) (L:L4) (s:RS):RS:=
 match loneH M (s.toks[j]?.getD []) with
 | none=>s
 | some g=>match d.share L g (othI M g) ((oAt (s.toks[j]?.getD []) g).getD 0) with
  | none=>s
  | some v=>if codeT rooms ms s.t (.pass false (m:Int) (j:Int) g)=8 then ⟨s.t.doneT ms .non (.pass false (m:Int) (j:Int) g),s.toks.set j (((s.toks[j]?.getD []).set (othI M g).toNat (some v)).set g.toNat (some ((oAt (s.toks[j]?.getD []) g).getD 0 - v))),s.ds++[.pass false (m:Int) (j:Int) g]⟩ else s
def meetTo (rooms:List Int) (ms:List M4) (d:RuleD) (ls:List (Addr×L4)) (m:Nat) (M:M4) (s:RS):Nat->RS
 | 0=>s
 | j + 1=>match ls[j]? with
  | some L=>(meetTo rooms ms d ls m M s j).step rooms ms d m M j L.2
  | none=>meetTo rooms ms d ls m M s j
def runTo (rooms:List Int) (ms:List M4) (d:RuleD) (ls:List (Addr×L4)):Nat->RS
 | 0=>⟨newTr ls ms.length,ls.map λl=>rep rooms.length (lone l.2.s d.first),[]⟩
 | m + 1=>match ms[m]? with
  | some M=>meetTo rooms ms d ls m M (runTo rooms ms d ls m) ls.length
  | none=>runTo rooms ms d ls m
structure RunX (t:Tr) (ts:List (Addr×List (Option Int))) (ys:List (Addr×Dd)) (s:RS):Prop where
 tw:Twin t s.t
 ts:ts.map (·.2)=s.toks
 ds:ys.map (·.2)=s.ds
section
variable {rooms:List Int}{ms:List M4}{d:RuleD}{m j:Nat}{M:M4}{L:L4}{s:RS}{t:Tr}{ts:List (Addr×List (Option Int))}{ys:List (Addr×Dd)}{x:Addr×List (Option Int)}{g:Int}
theorem RunX.row (w:RunX t ts ys s) (hx:ts[j]?=some x):s.toks[j]?.getD []=x.2:=by rw [<-w.ts,zC,hx];rfl
theorem RunX.none1 (w:RunX t ts ys s) (hx:ts[j]?=some x) (h:loneH M x.2=none):RunX t ts ys (s.step rooms ms d m M j L):=by
 unfold RS.step;rw [w.row hx,h];exact w
theorem RunX.none2 (w:RunX t ts ys s) (hx:ts[j]?=some x) (h:loneH M x.2=some g) {tok:Int} (e:oAt x.2 g=some tok) (h2:d.share L g (othI M g) tok=none):RunX t ts ys (s.step rooms ms d m M j L):=by
 unfold RS.step;rw [w.row hx,h];dsimp only;rw [e];dsimp only [Option.getD];rw [h2];exact w
theorem RunX.none3 (w:RunX t ts ys s) (hx:ts[j]?=some x) (h:loneH M x.2=some g) (c:codeT rooms ms t (.pass false (m:Int) (j:Int) g)≠8):RunX t ts ys (s.step rooms ms d m M j L):=by
 unfold RS.step;rw [w.row hx,h];dsimp only
 split
 ·exact w
 ·rw [if_neg (by rw [<-w.tw.code];exact c)];exact w
theorem RunX.done (w:RunX t ts ys s) (hx:ts[j]?=some x) (h:loneH M x.2=some g) {tok v:Int} (e:oAt x.2 g=some tok) (h2:d.share L g (othI M g) tok=some v) (c:codeT rooms ms t (.pass false (m:Int) (j:Int) g)=8) (ya:Addr) (y:V) :
  RunX (t.doneT ms y (.pass false (m:Int) (j:Int) g)) (ts.set j (x.1,(x.2.set (othI M g).toNat (some v)).set g.toNat (some (tok - v)))) (ys++[(ya,.pass false (m:Int) (j:Int) g)]) (s.step rooms ms d m M j L):=by
 unfold RS.step;rw [w.row hx,h];dsimp only;rw [e];dsimp only [Option.getD];rw [h2];dsimp only
 rw [if_pos (by rw [<-w.tw.code];exact c)]
 exact ⟨w.tw.done _,by rw [zq,w.ts],by rw [zQ,w.ds];rfl⟩
end
def spRunX (C CA CH CN:Addr):Sp:=λvs H Q _=>∃ b ll r ls rooms tr tm ps d,vs=[.ref b,.ref ll,.ref r]/\BookAt H b rooms tr tm ps/\1<=rooms.length/\rooms.length<=12/\(∀ r∈rooms,(0:Int)<=r)/\Good rooms.length (ps.map (·.2))/\LetsL H ll ls/\ls.length<=41/\(∀ l∈ls,l.2.s < rooms.length/\l.2.w < rooms.length)/\RuleIs CA CH CN H r rooms.length d /\
 ∀ p dl tl kl ys,∀ (rws tks:List (Addr×List (Option Int))) (t:Tr) H',Same H H'->H' p=some (.tup [.ref dl,.ref tl,.ref kl])->H' dl=some (.lst (ys.map λy=>V.ref y.1))->DsAt H' ys->ys.length<=2460->RunOk rooms (ps.map (·.2)) (newTr ls ps.length) ys->Twin t (runT (ps.map (·.2)) (newTr ls ps.length) ys)->HistT rooms (ps.map (·.2)) t (ys.map (·.2))->OsOk t->H' tl=some (.lst (rws.map λx=>V.ref x.1))->(∀ x∈rws,H' x.1=some (.lst (x.2.map oV)))->rws.map (·.2)=(t.hs.map λh=>tmsOf rooms.length h.2) ->
  H' kl=some (.lst (tks.map λx=>V.ref x.1))->(∀ x∈tks,H' x.1=some (.lst (x.2.map oV)))->RunX t tks ys (runTo rooms (ps.map (·.2)) d ls ps.length)->TokOk rooms.length t tks->(H dl=none/\H tl=none/\H kl=none/\(∀ x∈rws,H x.1=none)/\∀ x∈tks,H x.1=none)->Q (.ref p) H'
def spNever:Sp:=λ_ _ _ _=>False
def RowsL (H:Hp) (l:Addr) (rws:List (Addr×List (Option Int))):Prop:=H l=some (.lst (rws.map λx=>V.ref x.1))/\∀ x∈rws,H x.1=some (.lst (x.2.map oV))
theorem RowsL.same {H H':Hp}{l:Addr}{rws:List (Addr×List (Option Int))} (h:RowsL H l rws) (s:Same H H'):RowsL H' l rws:=⟨s _ _ h.1,λx hx=>s _ _ (h.2 x hx)⟩
end Sm
namespace Sm
open PySem L2 SmSort
section
variable {H0 H H':Hp}{tl kl:Addr}{ta ka:List Addr}{T K:List (List (Option Int))}{j:Nat}{c:Addr}{row:List (Option Int)}
end
structure RSok (rooms:List Int) (ms:List M4) (ls:List (Addr×L4)) (m:Nat) (s:RS):Prop where
 ls:s.t.ls=ls
 lh:s.t.hs.length=s.t.ls.length
 r:s.t.r<=m
 ln:s.t.ns.length=ms.length
 ns:∀ i:Nat,m < i->s.t.ns[i]?.getD 0=0
 tok:TokOk rooms.length s.t (s.toks.map λx=>((0:Addr),x))
theorem oAt_tms {n:Nat}{kv:List (Int×Int)}{w:Nat} (h:w < n):oAt (tmsOf n kv) (w:Int)=kvget kv (w:Int):=by
 unfold oAt tmsOf
 rw [zH,zC,yS h];rfl
theorem RSok.code {rooms:List Int}{ms:List M4}{ls:List (Addr×L4)}{m j:Nat}{s:RS}{M:M4}{L:Addr×L4}{h:Addr×List (Int×Int)}{g:Int} (k:RSok rooms ms ls m s) (gd:Good rooms.length ms) (hM:ms[m]?=some M) (hL:ls[j]?=some L) (hh:s.t.hs[j]?=some h) {row:List (Option Int)} (hx:s.toks[j]?=some row) (eg:loneH M row=some g) :
  (codeT rooms ms s.t (.pass false (m:Int) (j:Int) g)=8)↔(below (kvget h.2 g) M.t=true/\¬ M.m<=s.t.ns[m]?.getD 0/\¬ (takB L.2 (othI M g)=true/\(rooms[(othI M g).toNat]?.getD 0)<=((bagTo (othI M g) s.t.ls s.t.hs s.t.hs.length).length:Int))):=by
 have hL':s.t.ls[j]?=some L:=by rw [k.ls];exact hL
 have hx':(s.toks.map λx=>((0:Addr),x))[j]?=some (0,row):=by rw [zC,hx];rfl
 obtain ⟨lx,kx,vx⟩:=k.tok.2 j (0,row) h hx' hh
 obtain ⟨hg,e1,e2,_⟩:=lone_code (x:=(0,row)) gd k.lh hM k.r hL' hh kx eg
 have ge:=gd.each M (zD hM)
 have hm:=(zB.mp hM).1
 have hj:=(zB.mp hL').1
 have ob:0<=othI M g/\othI M g < rooms.length:=by unfold othI;split <;> omega
 obtain ⟨ow,eow⟩:=zM ob.1
 have nk:(kvget h.2 (othI M g)).isSome=false:=by
  rw [eow,<- kx ow (by omega),<- eow];exact e2
 have hr:=k.r
 show codeP rooms ms s.t (m:Int) (j:Int) g=8↔_
 unfold codeP
 rw [if_pos ⟨by omega,by omega,hr⟩,if_pos ⟨by omega,by omega⟩,zH,zH,hM,hL',hh]
 dsimp only
 unfold codeP2
 rw [if_pos hg,nk]
 by_cases c1:below (kvget h.2 g) M.t=true
 ·rw [if_pos c1,if_neg zG]
  by_cases c2:M.m<=s.t.ns[m]?.getD 0
  ·rw [if_pos c2];exact ⟨λz=>(by omega),λz=>absurd c2 z.2.1⟩
  ·rw [if_neg c2]
   by_cases c3:(takB L.2 (othI M g) && decide ((rooms[(othI M g).toNat]?.getD 0)<=((bagTo (othI M g) s.t.ls s.t.hs s.t.hs.length).length:Int)))=true
   ·rw [if_pos c3]
    have a:=(zh _ _).mp c3
    exact ⟨λz=>(by omega),λz=>absurd ⟨a.1,of_decide_eq_true a.2⟩ z.2.2⟩
   ·rw [if_neg c3]
    exact ⟨λ_=>⟨c1,c2,λz=>c3 ((zh _ _).mpr ⟨z.1,decide_eq_true z.2⟩)⟩,λ_=>rfl⟩
 ·rw [if_neg c1];exact ⟨λz=>(by omega),λz=>absurd z.1 c1⟩
theorem RSok.step {rooms:List Int}{ms:List M4}{ls:List (Addr×L4)}{m j:Nat}{s:RS}{M:M4}{L:Addr×L4}{d:RuleD} (k:RSok rooms ms ls m s) (gd:Good rooms.length ms) (hM:ms[m]?=some M) (hL:ls[j]?=some L):RSok rooms ms ls m (s.step rooms ms d m M j L.2):=by
 have hL':s.t.ls[j]?=some L:=by rw [k.ls];exact hL
 have hj:=(zB.mp hL').1
 obtain ⟨h,hh⟩:∃ h,s.t.hs[j]?=some h:=⟨_,zE (by rw [k.lh];exact hj)⟩
 obtain ⟨row,hx⟩:∃ row,s.toks[j]?=some row:=⟨_,zE (by have:=k.tok.1;rw [zA] at this;omega)⟩
 unfold RS.step
 rw [hx]
 dsimp only [Option.getD]
 cases eg:loneH M row with
 | none=>exact k
 | some g=>
  have hx':(s.toks.map λx=>((0:Addr),x))[j]?=some (0,row):=by rw [zC,hx];rfl
  obtain ⟨lx,kx,vx⟩:=k.tok.2 j (0,row) h hx' hh
  obtain ⟨hg,e1,e2,_⟩:=lone_code (x:=(0,row)) gd k.lh hM k.r hL' hh kx eg
  obtain ⟨tok,et⟩:∃ tok,oAt row g=some tok:=zp.mp e1
  dsimp only
  rw [et]
  dsimp only
  cases es:d.share L.2 g (othI M g) tok with
  | none=>exact k
  | some v=>
   dsimp only
   split
   ·rename_i c
    have ad:=doneT_ad s.t ms .non (.pass false (m:Int) (j:Int) g)
    obtain ⟨d1,d2,d3⟩:=doneT_pass (t:=s.t) (gv:=false) (g:=g) (y:=.non) hM hL'
    obtain ⟨n9,h9,en,ln9,hh9,ehs⟩:=doneT_hs k.lh .non c
    have lhs:(s.t.doneT ms .non (.pass false (m:Int) (j:Int) g)).hs.length=s.t.hs.length:=by have:=congrArg List.length ehs;rw [zA,zm,zA] at this;exact this
    have tb:=vx g tok et
    refine ⟨ad.ls.trans k.ls,by rw [lhs,ad.ls];exact k.lh,by rw [d3];exact zo _,by rw [d2,zm];exact k.ln,λi hi=>?_,?_⟩
    ·rw [d2,set_getD,if_neg (by omega)];exact k.ns i hi
    ·have:=k.tok.step (y:=.non) gd k.lh hM hx' hg et c (RuleD.share_b tb.1 es) tb.2
     rw [zq];exact this
   ·exact k
theorem RS.step_skip {rooms:List Int}{ms:List M4}{d:RuleD}{m j:Nat}{M:M4}{L:L4}{s:RS}{row:List (Option Int)} (hx:s.toks[j]?=some row) (h:∀ g,loneH M row=some g->d.share L g (othI M g) ((oAt row g).getD 0)=none\/codeT rooms ms s.t (.pass false (m:Int) (j:Int) g)≠8):s.step rooms ms d m M j L=s:=by
 have er:s.toks[j]?.getD []=row:=by rw [hx];rfl
 unfold RS.step
 rw [er]
 cases eg:loneH M row with
 | none=>rfl
 | some g=>
  dsimp only
  have hh:=h g eg
  cases e:d.share L g (othI M g) ((oAt row g).getD 0) with
  | none=>rfl
  | some v=>
   dsimp only
   rcases hh with hh | hh
   ·rw [hh] at e;cases e
   ·rw [if_neg hh]
theorem RS.step_do {rooms:List Int}{ms:List M4}{d:RuleD}{m j:Nat}{M:M4}{L:L4}{s:RS}{row:List (Option Int)}{g tok v:Int} (hx:s.toks[j]?=some row) (eg:loneH M row=some g) (et:oAt row g=some tok) (es:d.share L g (othI M g) tok=some v) (c:codeT rooms ms s.t (.pass false (m:Int) (j:Int) g)=8) :
  s.step rooms ms d m M j L=⟨s.t.doneT ms .non (.pass false (m:Int) (j:Int) g),s.toks.set j ((row.set (othI M g).toNat (some v)).set g.toNat (some (tok - v))),s.ds++[.pass false (m:Int) (j:Int) g]⟩:=by
 unfold RS.step
 rw [hx]
 dsimp only [Option.getD]
 rw [eg]
 dsimp only
 rw [et]
 dsimp only
 rw [es]
 dsimp only
 rw [if_pos c]
theorem tms_set {n:Nat}{kv:List (Int×Int)}{w:Nat}{t:Int} (h:w < n):(tmsOf n kv).set w (some t)=tmsOf n (kvput kv (w:Int) t):=by
 refine yP λk=>?_
 rw [zY]
 unfold tmsOf
 rw [zC,zC]
 by_cases hk:k < n
 ·rw [yS hk]
  by_cases e:w=k
  ·subst e
   rw [if_pos rfl,if_pos (by rw [zA,zv];exact h)]
   show _=some (kvget (kvput kv (w:Int) t) (w:Int))
   rw [kvget_put,if_pos rfl]
  ·rw [if_neg e]
   show some _=some (kvget (kvput kv (w:Int) t) (k:Int))
   rw [kvget_put,if_neg (by omega)]
 ·rw [za (by rw [zv];omega),if_neg (by omega)];rfl
theorem RSok.start {rooms:List Int}{ms:List M4}{d:RuleD}{ls:List (Addr×L4)} (b:0<=d.first/\d.first<=64):RSok rooms ms ls 0 (runTo rooms ms d ls 0)/\(runTo rooms ms d ls 0).t.ns[0]?.getD 0=0:=by
 have z:∀ i:Nat,(List.replicate ms.length (0:Int))[i]?.getD 0=0:=λi=>by
  rw [yO];split <;> rfl
 refine ⟨⟨rfl,newTr_len ls ms.length,zo _,by show (List.replicate _ _).length=_;rw [yF],λi _=>z i,?_⟩,z 0⟩
 refine TokOk.new (ls:=ls) rfl ?_ ?_ λj x L hx hL=>⟨d.first,b.1,b.2,?_⟩
 ·show ((ls.map λl=>((0:Addr),[((l.2.s:Int),l.2.a)])).map (·.2))=_
  rw [zX];rfl
 ·show ((ls.map λl=>rep rooms.length (lone l.2.s d.first)).map λx=>((0:Addr),x)).length=_
  rw [zA,zA]
 ·have hx':((ls.map λl=>rep rooms.length (lone l.2.s d.first)).map λx=>((0:Addr),x))[j]?=some x:=hx
  rw [zC,zC,hL] at hx'
  rw [<-Option.some.inj hx']
end Sm
namespace L2
open PySem PySem.Spec PyProof.Rows
section
variable {X:Cx}
end
end L2
namespace Sm
open PySem L2 SmSort
structure TK where
 T:List (List (Option Int))
 K:List (List (Option Int))
structure TKst (n:Nat) (ms:List M4) (ls:List (Addr×L4)) (d:RuleD) (s s':TK) (x:Dd) (m j:Nat) (g:Int) (M:M4) (L:Addr×L4) (rT rK:List (Option Int)) (e tok v:Int):Prop where
 ex:x=.pass false (m:Int) (j:Int) g
 hM:ms[m]?=some M
 hL:ls[j]?=some L
 hg:g=M.lo\/g=M.hi
 hT:s.T[j]?=some rT
 hK:s.K[j]?=some rK
 lT:rT.length=n
 lK:rK.length=n
 eg:oAt rT g=some e
 lt:e < M.t
 eo:oAt rT (othI M g)=none
 kg:oAt rK g=some tok
 ko:oAt rK (othI M g)=none
 t0:0<=tok
 t64:tok<=64
 sh:d.share L.2 g (othI M g) tok=some v
 es:s'=⟨s.T.set j (rT.set (othI M g).toNat (some M.t)),s.K.set j ((rK.set (othI M g).toNat (some v)).set g.toNat (some (tok - v)))⟩
def TKstep (n:Nat) (ms:List M4) (ls:List (Addr×L4)) (d:RuleD) (s s':TK) (x:Dd):Prop:=∃ m j g M L rT rK e tok v,TKst n ms ls d s s' x m j g M L rT rK e tok v
def tkOf (n:Nat) (s:RS):TK:=⟨s.t.hs.map λh=>tmsOf n h.2,s.toks⟩
def Path (n:Nat) (ms:List M4) (ls:List (Addr×L4)) (d:RuleD) (s0:TK) (ds:List Dd) (s1:TK):Prop:=∃ S:Nat->TK,S 0=s0/\S ds.length=s1/\∀ (k:Nat) x,ds[k]?=some x->TKstep n ms ls d (S k) (S (k + 1)) x
section
variable {rooms:List Int}{ms:List M4}{ls:List (Addr×L4)}{d:RuleD}{m j:Nat}{s:RS}{M:M4}{L:Addr×L4}
theorem Path.snoc {n:Nat} {s0 s1 s2:TK}{ds:List Dd}{x:Dd} (p:Path n ms ls d s0 ds s1) (h:TKstep n ms ls d s1 s2 x):Path n ms ls d s0 (ds++[x]) s2:=by
 obtain ⟨S,e0,e1,st⟩:=p
 refine ⟨λk=>if k<=ds.length then S k else s2,by dsimp only;rw [if_pos (zZ _)];exact e0,by dsimp only;rw [zW,if_neg (by simp)],λk y hy=>?_⟩
 dsimp only
 by_cases c:k < ds.length
 ·rw [List.getElem?_append_left c] at hy
  rw [if_pos (by omega),if_pos (by omega)];exact st k y hy
 ·rw [zy (by omega)] at hy
  obtain ⟨l,e⟩:=zB.mp hy
  have lk:k=ds.length:=by have:k - ds.length < 1:=l;omega
  subst lk
  have ey:x=y:=by rw [Nat.sub_self] at hy;exact Option.some.inj hy
  rw [if_pos (zK _),if_neg (by omega),e1,<- ey];exact h
theorem path_step (k:RSok rooms ms ls m s) (gd:Good rooms.length ms) (hM:ms[m]?=some M) (hL:ls[j]?=some L):s.step rooms ms d m M j L.2=s\/∃ x,(s.step rooms ms d m M j L.2).ds=s.ds++[x]/\TKstep rooms.length ms ls d (tkOf rooms.length s) (tkOf rooms.length (s.step rooms ms d m M j L.2)) x:=by
 have hL':s.t.ls[j]?=some L:=by rw [k.ls];exact hL
 have hj:=(zB.mp hL').1
 obtain ⟨h,hh⟩:∃ h,s.t.hs[j]?=some h:=⟨_,zE (by rw [k.lh];exact hj)⟩
 obtain ⟨row,hx⟩:∃ row,s.toks[j]?=some row:=⟨_,zE (by have:=k.tok.1;rw [zA] at this;omega)⟩
 have hx':(s.toks.map λx=>((0:Addr),x))[j]?=some (0,row):=by rw [zC,hx];rfl
 obtain ⟨lx,kx,vx⟩:=k.tok.2 j (0,row) h hx' hh
 cases eg:loneH M row with
 | none=>exact .inl (RS.step_skip hx λg h=>by rw [eg] at h;cases h)
 | some g=>
  obtain ⟨hg,e1,e2,_⟩:=lone_code (x:=(0,row)) gd k.lh hM k.r hL' hh kx eg
  obtain ⟨tok,et⟩:∃ tok,oAt row g=some tok:=zp.mp e1
  have tb:=vx g tok et
  cases es:d.share L.2 g (othI M g) tok with
  | none=>exact .inl (RS.step_skip hx λg' h'=>.inl (by rw [eg] at h';cases h';rw [et];exact es))
  | some v=>
   by_cases c:codeT rooms ms s.t (.pass false (m:Int) (j:Int) g)=8
   ·refine .inr ⟨_,by rw [RS.step_do hx eg et es c],?_⟩
    rw [RS.step_do hx eg et es c]
    have ge:=gd.each M (zD hM)
    have ob:0<=othI M g/\othI M g < rooms.length:=by unfold othI;split <;> omega
    obtain ⟨ow,eow⟩:=zM ob.1
    obtain ⟨gw,egw⟩:=zM (show 0<=g by omega)
    obtain ⟨b1,_,_⟩:=(k.code gd hM hL hh hx eg).mp c
    obtain ⟨e,ee,le⟩:∃ e,kvget h.2 g=some e/\e < M.t:=by
     cases z:kvget h.2 g with
     | none=>rw [z] at b1;cases b1
     | some e=>rw [z] at b1;exact ⟨e,rfl,by simpa [below] using b1⟩
    obtain ⟨n9,h9,en,ln9,hh9,ehs⟩:=doneT_hs k.lh .non c
    obtain rfl:n9=j:=by have:(j:Int)=n9:=en;omega
    rw [hh] at hh9;cases hh9
    have kn:kvNext ms h.2 (.pass false (m:Int) (n9:Int) g)=kvput h.2 (othI M g) M.t:=by
     unfold kvNext;dsimp only;rw [zH,hM];rfl
    refine ⟨m,n9,g,M,L,tmsOf rooms.length h.2,row,e,tok,v,rfl,hM,hL,hg,?_,hx,by unfold tmsOf;rw [zA,zv],lx,?_,le,?_,et,?_,tb.1,tb.2,es,?_⟩
    ·show (s.t.hs.map _)[n9]?=_;rw [zC,hh];rfl
    ·rw [egw,oAt_tms (by omega),<- egw];exact ee
    ·rw [eow,oAt_tms (by omega),<- Option.not_isSome_iff_eq_none,<- kx ow (by omega),<- eow,e2];exact zG
    ·rw [<-Option.not_isSome_iff_eq_none,e2];exact zG
    ·unfold tkOf
     have mm:∀ xs:List (Addr×List (Int×Int)),(xs.map λh=>tmsOf rooms.length h.2)=(xs.map (·.2)).map (tmsOf rooms.length):=λxs=>by rw [zX];rfl
     congr 1
     dsimp only
     rw [mm,ehs,kn,zq,<- mm,eow,zH,tms_set (by omega)]
   ·exact .inl (RS.step_skip hx λg' h'=>.inr (by rw [eg] at h';cases h';exact c))
theorem RSok.mono (k:RSok rooms ms ls m s):RSok rooms ms ls (m + 1) s:=⟨k.ls,k.lh,by have:=k.r;omega,k.ln,λi hi=>k.ns i (by omega),k.tok⟩
theorem path_meet {s0:TK} (gd:Good rooms.length ms) (hM:ms[m]?=some M) (k:RSok rooms ms ls m s) (p:Path rooms.length ms ls d s0 s.ds (tkOf rooms.length s)):∀ j,RSok rooms ms ls m (meetTo rooms ms d ls m M s j)/\Path rooms.length ms ls d s0 (meetTo rooms ms d ls m M s j).ds (tkOf rooms.length (meetTo rooms ms d ls m M s j))
 | 0=>⟨k,p⟩
 | j + 1=>by
  obtain ⟨k',p'⟩:=path_meet gd hM k p j
  unfold meetTo
  split
  ·rename_i L hL
   refine ⟨k'.step gd hM hL,?_⟩
   rcases path_step (d:=d) k' gd hM hL with e | ⟨x,e,st⟩
   ·rw [e];exact p'
   ·rw [e];exact p'.snoc st
  ·exact ⟨k',p'⟩
theorem path_run (gd:Good rooms.length ms) (b:0<=d.first/\d.first<=64):∀ m,RSok rooms ms ls m (runTo rooms ms d ls m)/\Path rooms.length ms ls d (tkOf rooms.length (runTo rooms ms d ls 0)) (runTo rooms ms d ls m).ds (tkOf rooms.length (runTo rooms ms d ls m))
 | 0=>⟨(RSok.start b).1,λ_=>tkOf rooms.length (runTo rooms ms d ls 0),rfl,rfl,λk x h=>by
   have h':([]:List Dd)[k]?=some x:=h
   cases h'⟩
 | m + 1=>by
  obtain ⟨k,p⟩:=path_run gd b m
  unfold runTo
  split
  ·rename_i M hM
   have:=path_meet gd hM k p ls.length
   exact ⟨this.1.mono,this.2⟩
  ·exact ⟨k.mono,p⟩
end
theorem oAt_get {os:List (Option Int)}{w:Nat}{v:Int} (h:oAt os (w:Int)=some v):os[w]?=some (some v):=by
 unfold oAt at h
 rw [zH] at h
 cases e:os[w]? with
 | none=>rw [e] at h;cases h
 | some o=>rw [e] at h;rw [show o=some v from h]
theorem oAt_repN {n:Nat}{E:Fn}{k:Nat}:oAt (rep n E) (k:Int)=if k < n then E k else none:=by
 unfold oAt rep
 rw [zH,zC]
 split
 ·rename_i h;rw [yS h];rfl
 ·rename_i h;rw [za (by rw [zv];omega)];rfl
section
variable {CA CH:Addr}{H:Hp}{r:Addr}{σ:St}{i:Nat}{Q:VK} {E2:XK}{d:RuleD}
end
def IsCopy (ms:List M4) (k:Nat) (d:Dd):Prop:=∃ (m j:Nat) (g:Int) (M:M4),d=.pass false (m:Int) (j:Int) g/\ms[m]?=some M/\j < k/\(g=M.lo\/g=M.hi)
theorem Path.copies {n:Nat}{ms:List M4}{ls:List (Addr×L4)}{d:RuleD} {s0 s1:TK}{ds:List Dd} (p:Path n ms ls d s0 ds s1):∀ x∈ds,IsCopy ms ls.length x:=by
 obtain ⟨S,_,_,st⟩:=p
 intro x hx
 obtain ⟨k,hk⟩:=yi hx
 obtain ⟨m,j,g,M,L,rT,rK,e,tok,v,w⟩:=st k x hk
 exact ⟨m,j,g,M,w.ex,w.hM,(zB.mp w.hL).1,w.hg⟩
def spCopies:Sp:=λvs H Q _=>∃ l b ll ys ls rooms tr tm ps,vs=[.ref l,.ref b,.ref ll]/\H l=some (.lst (ys.map λy=>V.ref y.1))/\DsAt H ys/\ys.length<=2460/\BookAt H b rooms tr tm ps/\LetsL H ll ls/\(∀ y∈ys,IsCopy (ps.map (·.2)) ls.length y.2)/\∀ H',Same H H'->Q (.bl true) H'
theorem tok_of {rooms:List Int}{ms:List M4}{d:RuleD}{ls:List (Addr×L4)}{n:Nat}{t:Tr}{ys:List (Addr×Dd)}{rws tks:List (Addr×List (Option Int))} (w:RunX t tks ys (runTo rooms ms d ls n)) (er:rws.map (·.2)=(t.hs.map λh=>tmsOf rooms.length h.2)) (tok:TokOk rooms.length t tks) (tw:Twin t (runT ms (newTr ls n) ys)) (gd:Good rooms.length ms) (b:0<=d.first/\d.first<=64) :
  Path rooms.length ms ls d (tkOf rooms.length (runTo rooms ms d ls 0)) (ys.map (·.2)) (tkOf rooms.length (runTo rooms ms d ls n))/\rws.map (·.2)=(tkOf rooms.length (runTo rooms ms d ls n)).T/\tks.map (·.2)=(tkOf rooms.length (runTo rooms ms d ls n)).K/\rws.length=ls.length/\tks.length=ls.length/\(∀ x∈rws,x.2.length=rooms.length)/\∀ x∈tks,x.2.length=rooms.length:=by
 have lh:t.hs.length=ls.length:=by
  rw [tw.len,runT_lens.1];show (ls.map _).length=_;rw [zA]
 have ll:t.ls.length=ls.length:=by rw [tw.ls,runT_lens.2];rfl
 have mm:∀ xs:List (Addr×List (Int×Int)),(xs.map λh=>tmsOf rooms.length h.2)=(xs.map (·.2)).map (tmsOf rooms.length):=λxs=>by rw [zX];rfl
 refine ⟨by rw [w.ds];exact (path_run gd b n).2,?_,w.ts,?_,by rw [tok.1];exact ll,λx hx=>?_,λx hx=>?_⟩
 ·show rws.map (·.2)=(runTo rooms ms d ls n).t.hs.map λh=>tmsOf rooms.length h.2
  rw [er,mm,mm,w.tw.hs]
 ·have:=congrArg List.length er
  rw [zA,zA] at this;omega
 ·have:x.2∈rws.map (·.2):=zO.mpr ⟨x,hx,rfl⟩
  rw [er] at this
  obtain ⟨h,_,e⟩:=zO.mp this
  rw [<-e];unfold tmsOf;rw [zA,zv]
 ·obtain ⟨j,hj⟩:=yi hx
  have lj:=(zB.mp hj).1
  exact (tok.2 j x _ hj (zE (by rw [tok.1] at lj;omega))).1
end Sm
namespace L2
open PySem PySem.Spec PyProof.Rows
section
variable {X:Cx}{K:PySem.W.Frag}
theorem call_isXN (hK:X.K=K):CallR X (.builtin "isinstance") (λxs H Q=>(∃ c b,xs=[.non,c]/\isCls c=true/\zc K (.type "NoneType") (vv c)=some b/\Q (.bl b) H)\/∃ a C c b,xs=[.ref a,c]/\H a=some (excO a C)/\XCls K C/\isCls c=true/\zc K (.ref C) (vv c)=some b/\Q (.bl b) H):=by
 intro pins s σ H xs us Q I r h
 rcases h with ⟨c,b,rfl,hc,hk,q⟩ | h
 ·subst hK
  obtain ⟨u,w',rfl,r1,r2⟩:=vals2 r
  cases (show u=Value.none from r1)
  cases vv_of hc r2
  exact zl PySem.W.kitx_none I.kIn True.intro hk (by intro z;cases z) λtk=>⟨.bl _,H,I.tok tk,rfl,q⟩
 ·exact call_isX hK pins s σ H xs us Q I r h
theorem call_isXTN (hK:X.K=K):CallR X (.builtin "isinstance") (λxs H Q=>(∃ tp cs b,xs=[.non,.ref tp]/\SqT K H tp cs/\cs.all isCls=true/\yG K (.type "NoneType") (cs.map vv)=some b/\Q (.bl b) H)\/∃ a C tp cs b,xs=[.ref a,.ref tp]/\H a=some (excO a C)/\XCls K C/\SqT K H tp cs/\cs.all isCls=true/\yG K (.ref C) (cs.map vv)=some b/\Q (.bl b) H):=by
 intro pins s σ H xs us Q I r h
 rcases h with ⟨tp,cs,b,rfl,ht,hc,hk,q⟩ | h
 ·subst hK
  obtain ⟨u,w',rfl,r1,r2⟩:=vals2 r
  cases (show u=Value.none from r1)
  cases r2
  obtain ⟨its,rv,⟨o,ho,hoc,n,hod⟩,_⟩:=I.tuple ht
  cases vv_all hc rv
  obtain ⟨ocl,odc,odt,osl⟩:=o
  cases hoc;cases hod
  exact PySem.W.kia_tup PySem.W.kitx_none I.kIn True.intro ho hk (by intro z;cases z) λtk=>⟨.bl _,H,I.tok tk,rfl,q⟩
 ·exact call_isXT hK pins s σ H xs us Q I r h
theorem cut1 {x:V}{xs:List V}:cutV (x::xs) none (some 1)=[x]:=by
 unfold cutV
 rw [show HT.sIx (x::xs).length 0 none=0 from rfl,List.drop_zero,Nat.sub_zero]
 have:HT.sIx (x::xs).length (x::xs).length (some 1)=1:=by
  simp [HT.sIx]
 rw [this];rfl
end
end L2
namespace Sm
open PySem L2 SmSort
def spRunE (C CA CH CN CR:Addr):Sp:=λvs H Q E=>spRunX C CA CH CN vs H Q E\/∃ b ll r pb rooms tr tm ps rooms' tr' tm' ps',vs=[.ref b,.ref ll,.ref r]/\BookAt H b rooms tr tm ps/\NearAt CN H r pb/\BookAt H pb rooms' tr' tm' ps'/\rooms'.length≠rooms.length/\E (.ref CR) none H
section
variable {n:Nat}{ms:List M4}{ls:List (Addr×L4)}{d:RuleD} {s0 s1:TK}{ds:List Dd}
theorem path_row (p:Path n ms ls d s0 ds s1) (P:Nat->L4->List (Option Int)->Prop) (h0:∀ (j:Nat) L row,ls[j]?=some L->s0.T[j]?=some row->P j L.2 row)
  (hs:∀ (j:Nat) (L:Addr×L4) (M:M4) (row:List (Option Int)) (g e:Int),ls[j]?=some L->M∈ms->P j L.2 row->row.length=n->(g=M.lo\/g=M.hi)->oAt row g=some e->e < M.t->oAt row (othI M g)=none->P j L.2 (row.set (othI M g).toNat (some M.t))):∀ (j:Nat) L row,ls[j]?=some L->s1.T[j]?=some row->P j L.2 row:=by
 obtain ⟨S,e0,e1,st⟩:=p
 have key:∀ k,k<=ds.length->∀ (j:Nat) L row,ls[j]?=some L->(S k).T[j]?=some row->P j L.2 row:=by
  intro k
  induction k with
  | zero=>intro _;rw [e0];exact h0
  | succ k ih=>
   intro hk j L row hL hr
   obtain ⟨m,j',g,M,L',rT,rK,e,tok,v,w⟩:=st k _ (zE (by omega))
   rw [w.es] at hr
   have hr':((S k).T.set j' (rT.set (othI M g).toNat (some M.t)))[j]?=some row:=hr
   rw [zY] at hr'
   split at hr'
   ·rename_i ej
    subst ej
    rw [if_pos (zB.mp w.hT).1] at hr'
    cases hr'
    exact hs j' L M rT g e hL (zD w.hM) (ih (by omega) j' L rT hL w.hT) w.lT w.hg w.eg w.lt w.eo
   ·exact ih (by omega) j L row hL hr'
 rw [<-e1]
 exact key _ (zK _)
theorem path_rowK (p:Path n ms ls d s0 ds s1) (P:List (Option Int)->Prop) (h0:∀ (j:Nat) row,s0.K[j]?=some row->P row)
  (hs:∀ (L:L4) (M:M4) (row:List (Option Int)) (g tok v:Int),P row->row.length=n->M∈ms->(g=M.lo\/g=M.hi)->oAt row g=some tok->d.share L g (othI M g) tok=some v->P ((row.set (othI M g).toNat (some v)).set g.toNat (some (tok - v)))):∀ (j:Nat) row,s1.K[j]?=some row->P row:=by
 obtain ⟨S,e0,e1,st⟩:=p
 have key:∀ k,k<=ds.length->∀ (j:Nat) row,(S k).K[j]?=some row->P row:=by
  intro k
  induction k with
  | zero=>intro _;rw [e0];exact h0
  | succ k ih=>
   intro hk j row hr
   obtain ⟨m,j',g,M,L',rT,rK,e,tok,v,w⟩:=st k _ (zE (by omega))
   rw [w.es] at hr
   have hr':((S k).K.set j' ((rK.set (othI M g).toNat (some v)).set g.toNat (some (tok - v))))[j]?=some row:=hr
   rw [zY] at hr'
   split at hr'
   ·rw [if_pos (zB.mp w.hK).1] at hr'
    cases hr'
    exact hs L'.2 M rK g tok v (ih (by omega) j' rK w.hK) w.lK (zD w.hM) w.hg w.kg w.sh
   ·exact ih (by omega) j row hr'
 rw [<-e1]
 exact key _ (zK _)
end
theorem fold_some {ws:List W3}:∀ {st:Fn}{i:Nat}{y:Int},st i=some y->ws.foldl fstep st i=some y:=by
 induction ws with
 | nil=>intro st i y h;exact h
 | cons x ws ih=>intro st i y h;exact ih (fstep_some h)
theorem near_zero {pms:List M4}{L:L4}{g o tok v:Int} (h:(RuleD.near pms).share L g o tok=some v):v=0/\(o=(L.w:Int)\/metN pms g L.w < metN pms o L.w):=by
 have h':(if o=(L.w:Int)\/metN pms g L.w < metN pms o L.w then some (0:Int) else none)=some v:=h
 split at h'
 ·rename_i c;cases h';exact ⟨rfl,c⟩
 ·cases h'
section
variable {rooms:List Int}{ms:List M4}{ls:List (Addr×L4)}{d:RuleD} {s1:TK}{ds:List Dd}
theorem start_row {j:Nat}{L:Addr×L4}{row:List (Option Int)} (hL:ls[j]?=some L) (hr:(tkOf rooms.length (runTo rooms ms d ls 0)).T[j]?=some row):row=rep rooms.length (lone L.2.s L.2.a):=by
 have hr':((ls.map λl=>((0:Addr),[((l.2.s:Int),l.2.a)])).map λh=>tmsOf rooms.length h.2)[j]?=some row:=hr
 rw [zC,zC,hL] at hr'
 rw [<-Option.some.inj hr']
 show tmsOf rooms.length [((L.2.s:Int),L.2.a)]=_
 unfold rep tmsOf lone
 refine yL λx _=>?_
 rw [kvget_one]
 by_cases c:x=L.2.s
 ·rw [if_pos c,if_pos (by omega)]
 ·rw [if_neg c,if_neg (by omega)]
theorem row_sender (gd:Good rooms.length ms) (lb:∀ l∈ls,l.2.s < rooms.length/\l.2.w < rooms.length) (p:Path rooms.length ms ls d (tkOf rooms.length (runTo rooms ms d ls 0)) ds s1):∀ (j:Nat) L row,ls[j]?=some L->s1.T[j]?=some row->oAt row (L.2.s:Int)=some L.2.a:=by
 refine path_row p (λ_ L row=>oAt row (L.s:Int)=some L.a) (λj L row hL hr=>?_) λj L M row g e hL hM h lr hg eg lt eo=>?_
 ·rw [start_row hL hr,oAt_rep (lb L (zD hL)).1];unfold lone;rw [if_pos rfl]
 ·have ge:=gd.each M hM
  have ob:0<=othI M g/\othI M g < rooms.length:=by unfold othI;split <;> omega
  rw [oAt_set ob.1 (by rw [lr];exact ob.2) (by omega),if_neg (λz=>by rw [z,eo] at h;cases h)]
  exact h
theorem row_least (gd:Good rooms.length ms) (lb:∀ l∈ls,l.2.s < rooms.length/\l.2.w < rooms.length) (p:Path rooms.length ms ls d (tkOf rooms.length (runTo rooms ms d ls 0)) ds s1):∀ (j:Nat) L row,ls[j]?=some L->s1.T[j]?=some row->∀ (w:Nat) e,oAt row (w:Int)=some e->∃ y,fwd ms (lone L.2.s L.2.a) w=some y/\y<=e:=by
 refine path_row p (λ_ L row=>∀ (w:Nat) e,oAt row (w:Int)=some e->∃ y,fwd ms (lone L.s L.a) w=some y/\y<=e) (λj L row hL hr w e h=>?_) λj L M row g e hL hM h lr hg eg lt eo w e' h'=>?_
 ·rw [start_row hL hr,oAt_repN] at h
  split at h
  ·unfold lone at h
   split at h
   ·rename_i c
    cases h
    refine ⟨_,fold_some (st:=lone L.2.s L.2.a) (by unfold lone;rw [if_pos c]),zo _⟩
   ·cases h
  ·cases h
 ·have ge:=gd.each M hM
  have ob:0<=othI M g/\othI M g < rooms.length:=by unfold othI;split <;> omega
  rw [oAt_set ob.1 (by rw [lr];exact ob.2) (by omega)] at h'
  split at h'
  ·rename_i c
   cases h'
   obtain ⟨gn,rfl⟩:=zM (show 0<=g by omega)
   obtain ⟨y,hy,ly⟩:=h gn e eg
   have cl:=yj.mp (early_closed (s:=L.2.s) (x:=L.2.a) gd)
   have hw:(⟨gn,w,M.t⟩:W3)∈ways2 ms:=by
    refine List.mem_flatMap.mpr ⟨M,hM,?_⟩
    unfold othI at c
    unfold two
    split at c
    ·rename_i z
     rw [show (⟨gn,w,M.t⟩:W3)=⟨M.lo.toNat,M.hi.toNat,M.t⟩ by congr 1 <;> omega]
     exact yN
    ·rename_i z
     rw [show (⟨gn,w,M.t⟩:W3)=⟨M.hi.toNat,M.lo.toNat,M.t⟩ by congr 1 <;> omega]
     exact zn _ yN
   have:=cl _ hw
   dsimp only at this
   rw [below_iff.mpr ⟨y,hy,by omega⟩] at this
   exact upto_iff.mp (by simpa using this)
  ·exact h w e' h'
theorem row_zero {pms:List M4} (gd:Good rooms.length ms) (p:Path rooms.length ms ls (.near pms) (tkOf rooms.length (runTo rooms ms (.near pms) ls 0)) ds s1):∀ (j:Nat) row,s1.K[j]?=some row->∀ (w:Nat) v,oAt row (w:Int)=some v->v=0:=by
 refine path_rowK p (λrow=>∀ (w:Nat) v,oAt row (w:Int)=some v->v=0) (λj row hr w v h=>?_) λL M row g tok v h lr hM hg eg sh w v' h'=>?_
 ·have hr':(ls.map λl=>rep rooms.length (lone l.2.s 0))[j]?=some row:=hr
  rw [zC] at hr'
  obtain ⟨L,hL,e⟩:=Option.map_eq_some_iff.mp hr'
  rw [<-e,oAt_repN] at h
  split at h
  ·unfold lone at h
   split at h
   ·cases h;rfl
   ·cases h
  ·cases h
 ·have ge:=gd.each M hM
  have ob:0<=othI M g/\othI M g < rooms.length:=by unfold othI;split <;> omega
  obtain ⟨gn,rfl⟩:=zM (show 0<=g by omega)
  have tz:=h gn tok eg
  have vz:=(near_zero sh).1
  rw [oAt_set (by omega) (by rw [zm,lr];omega) (by omega),oAt_set ob.1 (by rw [lr];exact ob.2) (by omega)] at h'
  split at h'
  ·cases h';omega
  ·split at h'
   ·cases h';exact vz
   ·exact h w v' h'
end
def spRefused57 (CA CH CN:Addr):Sp:=λvs H Q _=>∃ b ll r rooms tr tm ps,vs=[.ref b,.ref ll,.ref r]/\BookAt H b rooms tr tm ps/\1<=rooms.length/\rooms.length<=12/\(∀ r∈rooms,(0:Int)<=r)/\Good rooms.length (ps.map (·.2)) /\
 ((∃ pb rooms' tr' tm' ps',NearAt CN H r pb/\BookAt H pb rooms' tr' tm' ps'/\rooms'.length≠rooms.length/\∀ H',Same H H'->Q (.bl true) H')\/∃ d,H ll=some (.lst [])/\RuleIs CA CH CN H r rooms.length d/\∀ H',Same H H'->Q (.bl false) H')
def Climbs (ms pms:List M4) (ls:List (Addr×L4)) (x:Dd):Prop:=∃ (m j:Nat) (g:Int) (M:M4) (L:Addr×L4),x=.pass false (m:Int) (j:Int) g/\ms[m]?=some M/\ls[j]?=some L/\(g=M.lo\/g=M.hi)/\(othI M g=(L.2.w:Int)\/metN pms g L.2.w < metN pms (othI M g) L.2.w)
theorem Path.climbs {n:Nat}{ms pms:List M4}{ls:List (Addr×L4)} {s0 s1:TK}{ds:List Dd} (p:Path n ms ls (.near pms) s0 ds s1):∀ x∈ds,Climbs ms pms ls x:=by
 obtain ⟨S,_,_,st⟩:=p
 intro x hx
 obtain ⟨k,hk⟩:=yi hx
 obtain ⟨m,j,g,M,L,rT,rK,e,tok,v,w⟩:=st k x hk
 exact ⟨m,j,g,M,L,w.ex,w.hM,w.hL,w.hg,(near_zero w.sh).2⟩
def spClimbs57:Sp:=λvs H Q _=>∃ b ll pb dl ys ls rooms tr tm ps rooms' tr' tm' ps',vs=[.ref b,.ref ll,.ref pb,.ref dl]/\BookAt H b rooms tr tm ps/\Good rooms.length (ps.map (·.2))/\LetsL H ll ls/\BookAt H pb rooms' tr' tm' ps'/\Good rooms'.length (ps'.map (·.2))/\H dl=some (.lst (ys.map λy=>V.ref y.1))/\DsAt H ys/\(∀ y∈ys,Climbs (ps.map (·.2)) (ps'.map (·.2)) ls y.2)/\∀ H',Same H H'->Q (.bl true) H'
structure Reach (n:Nat) (ms:List M4) (ls:List (Addr×L4)) (d:RuleD) (rooms:List Int) (ds:List Dd) (rws tks:List (Addr×List (Option Int))) (s1:TK):Prop where
 pth:Path n ms ls d (tkOf n (runTo rooms ms d ls 0)) ds s1
 eT:rws.map (·.2)=s1.T
 lr:rws.length=ls.length
 lk:tks.length=ls.length
 nr:∀ x∈rws,x.2.length=n
 nk:∀ x∈tks,x.2.length=n
 kz:∀ y∈tks,∀ (w:Nat) v,oAt y.2 (w:Int)=some v->v=0
 ks:∀ (j:Nat) x y,rws[j]?=some x->tks[j]?=some y->∀ w:Nat,w < n->(oAt y.2 (w:Int)).isSome=(oAt x.2 (w:Int)).isSome
def spReached57:Sp:=λvs H Q _=>∃ b ll dl tl kl ys ls rooms tr tm ps rws tks d s1,vs=[.ref b,.ref ll,.ref dl,.ref tl,.ref kl]/\BookAt H b rooms tr tm ps/\rooms.length<=12/\Good rooms.length (ps.map (·.2))/\LetsL H ll ls/\ls.length<=41/\(∀ l∈ls,l.2.s < rooms.length/\l.2.w < rooms.length)/\H dl=some (.lst (ys.map λy=>V.ref y.1))/\DsAt H ys/\RowsL H tl rws/\RowsL H kl tks/\Reach rooms.length (ps.map (·.2)) ls d rooms (ys.map (·.2)) rws tks s1/\∀ H',Same H H'->Q (.bl true) H'
theorem set_lone7 {n s0:Nat}{v:Int} (hs:s0 < n):(List.replicate n (none:Option Int)).set s0 (some v)=rep n (lone s0 v):=by
 refine yP λk=>?_
 rw [zY,yO]
 unfold rep lone
 rw [zC]
 by_cases hk:k < n
 ·rw [yS hk,if_pos hk]
  by_cases e:s0=k
  ·subst e;rw [if_pos rfl,if_pos (by rw [yF];exact hs)];show _=some (if s0=s0 then some v else none);rw [if_pos rfl]
  ·rw [if_neg e];show _=some (if k=s0 then some v else none);rw [if_neg (λz=>e z.symm)]
 ·rw [if_neg (by omega),if_neg hk,za (by rw [zv];omega)];rfl
def spPast57:Sp:=λvs H Q _=>∃ p,∃ n:Nat,vs=[.ref p,.int (n:Int)]/\1<=n/\n<=12/\Purse H p/\∀ b rooms tr tm ps H',Go p H H'->BookAt H' b rooms tr tm ps->rooms.length=n->Good n (ps.map (·.2))->ps.length<=60->(∀ r∈rooms,(0:Int)<=r/\r<=99)->Q (.ref b) H'
end Sm
namespace Sm
open PySem L2
theorem line9:1002<=sizeLine:=by rw [sizeLine_eq];decide
end Sm


namespace Sm
open PySem L2
def top (i:Nat):Stmt:=PySem.Challenge.pw_satchelmeet_k57_whole_nearer_climbs.main.body.getD i (.Pass ⟨0,0,0,0⟩)
abbrev Ng:Stmt:=top 0
abbrev Fg:Stmt:=top 47
abbrev FT:Stmt:=top 48
abbrev GG:Stmt:=top 49
abbrev Ff:Stmt:=top 50
abbrev FU:Stmt:=top 51
abbrev wV:Stmt:=top 52
abbrev FW:Stmt:=top 53
abbrev FS:Stmt:=top 54
abbrev EU:Stmt:=top 55
abbrev Fd:Stmt:=top 56
abbrev wj:Stmt:=top 58
abbrev GE:Stmt:=top 21
abbrev FQ:Stmt:=top 22
abbrev GF:Stmt:=top 23
abbrev wQ:Stmt:=top 25
abbrev FR:Stmt:=top 26
abbrev GD:Stmt:=top 27
abbrev Fb:Stmt:=top 28
abbrev wl:Stmt:=inClass (top 32) 0
abbrev wm:Stmt:=inClass (top 32) 1
abbrev Eo:Stmt:=inClass (top 32) 2
abbrev wn:Stmt:=inClass (top 33) 0
abbrev wq:Stmt:=inClass (top 33) 1
abbrev En:Stmt:=inClass (top 33) 2
abbrev EI:Stmt:=top 35
abbrev wr:Stmt:=inClass (top 34) 0
abbrev wt:Stmt:=inClass (top 34) 1
abbrev Em:Stmt:=inClass (top 34) 2
abbrev D4:Stmt:=top 40
abbrev Fc:Stmt:=top 38
abbrev Ir:Stmt:=top 39
abbrev wu:Stmt:=inClass (top 37) 6
abbrev wR:Stmt:=inClass (top 37) 11
abbrev wA:Stmt:=inClass (top 37) 0
abbrev EW:Stmt:=inClass (top 37) 2
abbrev GH:Stmt:=inClass (top 37) 3
abbrev FX:Stmt:=inClass (top 37) 5
abbrev wY:Stmt:=inClass (top 37) 9
abbrev DF:Stmt:=inClass (top 37) 8
abbrev wS:Stmt:=inClass (top 37) 7
abbrev El:Stmt:=inClass (top 37) 10
abbrev Ix:Stmt:=inClass (top 37) 1
abbrev ET:Stmt:=top 43
abbrev Iv:Stmt:=top 44
abbrev Fa:Stmt:=top 45
abbrev Iw:Stmt:=top 61
abbrev LV:Stmt:=top 42
abbrev FV:Stmt:=top 59
abbrev Fe:Stmt:=top 57
abbrev Fh:Stmt:=top 60
abbrev wL:Stmt:=top 62
abbrev Ej:Stmt:=top 63
abbrev EV:Stmt:=top 64
abbrev Ek:Stmt:=top 65
abbrev NT:Stmt:=top 66
set_option genInjectivity false
set_option genSizeOf false
structure Ad where
 EQ:Addr
 Gf:FuncData
 BD:Addr
 CT:FuncData
 BX:Addr
 Dj:FuncData
 Cu:Addr
 DN:FuncData
 BC:Addr
 CS:FuncData
 BY:Addr
 Dk:FuncData
 AX:Addr
 Bw:FuncData
 B0:Addr
 Dm:FuncData
 BW:Addr
 Di:FuncData
 Bm:Addr
 Cb:FuncData
 BA:Addr
 CP:FuncData
 A3:Addr
 BL:FuncData
 Cr:Addr
 DK:FuncData
 BU:Addr
 Dg:FuncData
 Cs:Addr
 DL:FuncData
 Au:Addr
 AU:FuncData
 BV:Addr
 Dh:FuncData
 Cp:Addr
 DI:FuncData
 Cq:Addr
 DJ:FuncData
 Ar:Addr
 Bj:FuncData
 AH:Addr
 Bi:FuncData
 A7:Addr
 BP:FuncData
 Aq:Addr
 Bh:FuncData
 AG:Addr
 Bg:FuncData
 A6:Addr
 BO:FuncData
 BT:Addr
 Df:FuncData
 Ap:Addr
 Bf:FuncData
 AF:Addr
 Be:FuncData
 A5:Addr
 BN:FuncData
 Bz:Addr
 CO:FuncData
 By:Addr
 CM:FuncData
 Dq:Addr
 D6:FuncData
 AE:Addr
 Bd:FuncData
 Av:Addr
 AV:FuncData
 AB:Addr
 Bx:FuncData
 Bo:Addr
 Cd:FuncData
 Cv:Addr
 DO:FuncData
 B1:Addr
 Do:FuncData
 Az:Addr
 AZ:FuncData
 AR:Addr
 Bq:FuncData
 Aw:Addr
 AW:FuncData
 A4:Addr
 BM:FuncData
 Dt:Addr
 D9:FuncData
 Bl:Addr
 Ca:FuncData
 Dr:Addr
 D7:FuncData
 Co:Addr
 DH:FuncData
 Ds:Addr
 D8:FuncData
 Jw:Addr
 Lh:FuncData
 BZ:Addr
 Dl:FuncData
 BB:Addr
 CQ:FuncData
 Ct:Addr
 DM:FuncData
 AD:Addr
 Bc:FuncData
 A1:Addr
 BJ:FuncData
 Bn:Addr
 Cc:FuncData
 A2:Addr
 BK:FuncData
 HW:Addr
 Li:FuncData
 At:Addr
 Ao:Addr
 A0:Addr
 Dp:Addr
 Ah:Addr
 BS:Addr
 Bs:Addr
 CW:Addr
 AQ:Addr
 An:Addr
 Aj:Addr
 BR:Addr
 Al:Addr
 Ak:Addr
 CV:Addr
 As:Addr
 BQ:Addr
 Am:Addr
 Ag:Addr
 Br:Addr
 Aa:Addr
 CU:Addr
structure Tx (K:PySem.W.Frag) (mg:Str->Option Value) (a:Ad) (a_MOST_TOKENS:Tok):Prop where
 Gg:Fun K "_wall" "_wall" Ng a.EQ a.Gf
 Ox:Binds K a.Gf ["k"] []
 Ov:mg "_wall" = some (.ref a.EQ)
 Ow:zF K (.ref a.EQ)=true
 B9:Fun K "_law_purse" "_law_purse" Fg a.BD a.CT
 Fl:Binds K a.CT ["_law_script", "_law_k"] []
 Fi:mg "_law_purse" = some (.ref a.BD)
 Fk:zF K (.ref a.BD)=true
 CF:Fun K "_law_take" "_law_take" FT a.BX a.Dj
 Af:Binds K a.Dj ["_law_purse_here", "_law_many"] []
 Ac:mg "_law_take" = some (.ref a.BX)
 Ae:zF K (.ref a.BX)=true
 De:Fun K "_law_far" "_law_far" GG a.Cu a.DN
 MT:Binds K a.DN ["_law_purse_here"] []
 MK:mg "_law_far" = some (.ref a.Cu)
 MO:zF K (.ref a.Cu)=true
 B8:Fun K "_law_rooms" "_law_rooms" Ff a.BC a.CS
 Hs:Binds K a.CS ["_law_purse_here", "_law_walkers"] []
 Hj:mg "_law_rooms" = some (.ref a.BC)
 Hn:zF K (.ref a.BC)=true
 CG:Fun K "_law_step" "_law_step" FU a.BY a.Dk
 Mg:Binds K a.Dk ["_law_purse_here"] []
 L8:mg "_law_step" = some (.ref a.BY)
 Md:zF K (.ref a.BY)=true
 Bk:Fun K "_law_meetings" "_law_meetings" wV a.AX a.Bw
 FI:Binds K a.Bw ["_law_purse_here", "_law_walkers", "_law_most"] []
 FG:mg "_law_meetings" = some (.ref a.AX)
 FH:zF K (.ref a.AX)=true
 CJ:Fun K "_law_book" "_law_book" FW a.B0 a.Dm
 Mh:Binds K a.Dm ["_law_purse_here", "_law_most_walkers", "_law_most_meetings"] []
 L9:mg "_law_book" = some (.ref a.B0)
 Me:zF K (.ref a.B0)=true
 CD:Fun K "_law_time" "_law_time" FS a.BW a.Di
 Ju:Binds K a.Di ["_law_purse_here", "_law_book_here", "_law_later"] []
 Jn:mg "_law_time" = some (.ref a.BW)
 Jr:zF K (.ref a.BW)=true
 BF:Fun K "_law_letter" "_law_letter" EU a.Bm a.Cb
 K2:Binds K a.Cb ["_law_purse_here", "_law_book_here"] []
 KU:mg "_law_letter" = some (.ref a.Bm)
 KZ:zF K (.ref a.Bm)=true
 B6:Fun K "_law_whole" "_law_whole" Fd a.BA a.CP
 Hr:Binds K a.CP ["_law_thing"] []
 Hi:mg "_law_whole" = some (.ref a.BA)
 Hm:zF K (.ref a.BA)=true
 Bv:Fun K "_law_letters" "_law_letters" wj a.A3 a.BL
 Kg:Binds K a.BL ["_law_purse_here", "_law_book_here"] []
 J0:mg "_law_letters" = some (.ref a.A3)
 Kc:zF K (.ref a.A3)=true
 Da:Fun K "is_whole" "is_whole" GE a.Cr a.DK
 Kd:Binds K a.DK ["thing"] []
 JX:mg "is_whole" = some (.ref a.Cr)
 J9:zF K (.ref a.Cr)=true
 Cz:Fun K "is_within" "is_within" FQ a.BU a.Dg
 EL:Binds K a.Dg ["thing", "least", "most"] []
 EJ:mg "is_within" = some (.ref a.BU)
 EK:zF K (.ref a.BU)=true
 Db:Fun K "is_below" "is_below" GF a.Cs a.DL
 MS:Binds K a.DL ["number", "bound"] []
 MJ:mg "is_below" = some (.ref a.Cs)
 MN:zF K (.ref a.Cs)=true
 AC:Fun K "is_meeting_number" "is_meeting_number" wQ a.Au a.AU
 Gj:Binds K a.AU ["book", "thing"] []
 Gh:mg "is_meeting_number" = some (.ref a.Au)
 Gi:zF K (.ref a.Au)=true
 CB:Fun K "is_walker" "is_walker" FR a.BV a.Dh
 Mf:Binds K a.Dh ["book", "thing"] []
 L7:mg "is_walker" = some (.ref a.BV)
 Mc:zF K (.ref a.BV)=true
 C8:Fun K "other_at" "other_at" GD a.Cp a.DI
 GT:Binds K a.DI ["book", "number", "walker"] []
 GP:mg "other_at" = some (.ref a.Cp)
 GR:zF K (.ref a.Cp)=true
 C9:Fun K "lone_row" "lone_row" Fb a.Cq a.DJ
 MR:Binds K a.DJ ["book", "walker", "number"] []
 MI:mg "lone_row" = some (.ref a.Cq)
 MM:zF K (.ref a.Cq)=true
 AO:Fun K "__init__" "AllMet.__init__" wl a.Ar a.Bj
 HJ:Binds K a.Bj ["self"] []
 Nr:Meth K a.At "__init__" a.Ar
 No:zF K (.ref a.Ar)=true
 AN:Fun K "at_first" "AllMet.at_first" wm a.AH a.Bi
 Hy:Binds K a.Bi ["self"] []
 HZ:Meth K a.At "at_first" a.AH
 Nn:zF K (.ref a.AH)=true
 Bb:Fun K "share" "AllMet.share" Eo a.A7 a.BP
 Kk:Binds K a.BP ["self", "letter", "giver", "other", "tokens"] []
 KG:Meth K a.At "share" a.A7
 N8:zF K (.ref a.A7)=true
 AM:Fun K "__init__" "Halves.__init__" wn a.Aq a.Bh
 Hw:Binds K a.Bh ["self", "tokens"] []
 Nq:Meth K a.Ao "__init__" a.Aq
 Nm:zF K (.ref a.Aq)=true
 AL:Fun K "at_first" "Halves.at_first" wq a.AG a.Bg
 Hv:Binds K a.Bg ["self"] []
 HY:Meth K a.Ao "at_first" a.AG
 Nl:zF K (.ref a.AG)=true
 Ba:Fun K "share" "Halves.share" En a.A6 a.BO
 Kj:Binds K a.BO ["self", "letter", "giver", "other", "tokens"] []
 KF:Meth K a.Ao "share" a.A6
 N7:zF K (.ref a.A6)=true
 Cy:Fun K "times_met" "times_met" EI a.BT a.Df
 Jt:Binds K a.Df ["book", "one", "other"] []
 Jm:mg "times_met" = some (.ref a.BT)
 Jq:zF K (.ref a.BT)=true
 AK:Fun K "__init__" "Nearer.__init__" wr a.Ap a.Bf
 EN:Binds K a.Bf ["self", "past"] []
 Np:Meth K a.Ah "__init__" a.Ap
 Nk:zF K (.ref a.Ap)=true
 AJ:Fun K "at_first" "Nearer.at_first" wt a.AF a.Be
 Hu:Binds K a.Be ["self"] []
 HX:Meth K a.Ah "at_first" a.AF
 Nj:zF K (.ref a.AF)=true
 A9:Fun K "share" "Nearer.share" Em a.A5 a.BN
 Ki:Binds K a.BN ["self", "letter", "giver", "other", "tokens"] []
 KD:Meth K a.Ah "share" a.A5
 N6:zF K (.ref a.A5)=true
 B5:Fun K "are_wholes" "are_wholes" D4 a.Bz a.CO
 Hq:Binds K a.CO ["things"] []
 Hh:mg "are_wholes" = some (.ref a.Bz)
 Hl:zF K (.ref a.Bz)=true
 B4:Fun K "is_passing" "is_passing" Fc a.By a.CM
 LC:Binds K a.CM ["thing"] []
 Lx:mg "is_passing" = some (.ref a.By)
 LA:zF K (.ref a.By)=true
 DP:Fun K "is_drop" "is_drop" Ir a.Dq a.D6
 NB:Binds K a.D6 ["thing"] []
 Nu:mg "is_drop" = some (.ref a.Dq)
 Ny:zF K (.ref a.Dq)=true
 AI:Fun K "takes_room" "Trip.takes_room" wu a.AE a.Bd
 EM:Binds K a.Bd ["self", "letter", "walker"] []
 ER:Meth K a.Aa "takes_room" a.AE
 Ni:zF K (.ref a.AE)=true
 Ax:Fun K "note_arrival" "Trip.note_arrival" wR a.Av a.AV
 D2:Binds K a.AV ["self", "letter", "walker", "time"] []
 D3:Meth K a.Aa "note_arrival" a.Av
 MA:zF K (.ref a.Av)=true
 AY:Fun K "__init__" "Trip.__init__" wA a.AB a.Bx
 JI:Binds K a.Bx ["self", "book", "letters"] []
 NN:Meth K a.Aa "__init__" a.AB
 NM:zF K (.ref a.AB)=true
 Bp:Fun K "having" "Trip.having" EW a.Bo a.Cd
 K4:Binds K a.Cd ["self", "letter"] []
 K9:Meth K a.Aa "having" a.Bo
 Od:zF K (.ref a.Bo)=true
 CK:Fun K "bag" "Trip.bag" GH a.Cv a.DO
 MU:Binds K a.DO ["self", "walker"] []
 M9:Meth K a.Aa "bag" a.Cv
 Oo:zF K (.ref a.Cv)=true
 B2:Fun K "done" "Trip.done" FX a.B1 a.Do
 Mi:Binds K a.Do ["self"] []
 Mu:Meth K a.Aa "done" a.B1
 Oj:zF K (.ref a.B1)=true
 AA:Fun K "need_letter" "Trip.need_letter" wY a.Az a.AZ
 Ez:Binds K a.AZ ["self", "letter"] []
 ED:Meth K a.Aa "need_letter" a.Az
 MP:zF K (.ref a.Az)=true
 AS:Fun K "need_drop" "Trip.need_drop" DF a.AR a.Bq
 IQ:Binds K a.Bq ["self", "letter", "walker"] []
 Jb:Meth K a.Aa "need_drop" a.AR
 NA:zF K (.ref a.AR)=true
 Ay:Fun K "need_passing" "Trip.need_passing" wS a.Aw a.AW
 Gk:Binds K a.AW ["self", "meeting", "letter", "giver"] []
 Gq:Meth K a.Aa "need_passing" a.Aw
 MB:zF K (.ref a.Aw)=true
 A8:Fun K "pass_on" "Trip.pass_on" El a.A4 a.BM
 Kh:Binds K a.BM ["self", "meeting", "letter", "giver"] []
 KC:Meth K a.Aa "pass_on" a.A4
 N5:zF K (.ref a.A4)=true
 Du:Fun K "do" "Trip.do" Ix a.Dt a.D9
 ND:Binds K a.D9 ["self", "deed"] []
 NI:Meth K a.Aa "do" a.Dt
 Oq:zF K (.ref a.Dt)=true
 BE:Fun K "lone_holder" "lone_holder" ET a.Bl a.Ca
 K1:Binds K a.Ca ["book", "meeting", "row"] []
 KS:mg "lone_holder" = some (.ref a.Bl)
 KY:zF K (.ref a.Bl)=true
 DQ:Fun K "is_done" "is_done" Iv a.Dr a.D7
 NC:Binds K a.D7 ["trip", "deed"] []
 Nv:mg "is_done" = some (.ref a.Dr)
 Nz:zF K (.ref a.Dr)=true
 C7:Fun K "times_of" "times_of" Fa a.Co a.DH
 MQ:Binds K a.DH ["book", "having"] []
 MH:mg "times_of" = some (.ref a.Co)
 ML:zF K (.ref a.Co)=true
 DR:Fun K "_law_is" "_law_is" Iw a.Ds a.D8
 Lg:Binds K a.D8 ["_law_found", "_law_due"] []
 Le:mg "_law_is" = some (.ref a.Ds)
 Lf:zF K (.ref a.Ds)=true
 KO:Fun K "run" "run" LV a.Jw a.Lh
 N9:Binds K a.Lh ["book", "letters", "rule"] []
 NX:mg "run" = some (.ref a.Jw)
 N4:zF K (.ref a.Jw)=true
 CI:Fun K "_law_past" "_law_past" FV a.BZ a.Dl
 Jv:Binds K a.Dl ["_law_purse_here", "_law_walkers"] []
 Jo:mg "_law_past" = some (.ref a.BZ)
 Js:zF K (.ref a.BZ)=true
 B7:Fun K "_law_times" "_law_times" Fe a.BB a.CQ
 LD:Binds K a.CQ ["_law_book_here", "_law_sender", "_law_since"] []
 Ly:mg "_law_times" = some (.ref a.BB)
 LB:zF K (.ref a.BB)=true
 Dc:Fun K "_law_met" "_law_met" Fh a.Ct a.DM
 Kf:Binds K a.DM ["_law_past_here", "_law_walker", "_law_wish"] []
 JZ:mg "_law_met" = some (.ref a.Ct)
 Kb:zF K (.ref a.Ct)=true
 AT:Fun K "_law_are_copies" "_law_are_copies" wL a.AD a.Bc
 Ht:Binds K a.Bc ["_law_found", "_law_book_here", "_law_letters_here"] []
 Hk:mg "_law_are_copies" = some (.ref a.AD)
 Ho:zF K (.ref a.AD)=true
 Bt:Fun K "_law_refused" "_law_refused" Ej a.A1 a.BJ
 Ey:Binds K a.BJ ["_law_book_here", "_law_letters_here", "_law_rule_here"] []
 Er:mg "_law_refused" = some (.ref a.A1)
 Es:zF K (.ref a.A1)=true
 BG:Fun K "_law_climbs" "_law_climbs" EV a.Bn a.Cc
 K3:Binds K a.Cc ["_law_book_here", "_law_letters_here", "_law_past_here", "_law_deeds"] []
 KW:mg "_law_climbs" = some (.ref a.Bn)
 K0:zF K (.ref a.Bn)=true
 Bu:Fun K "_law_reached" "_law_reached" Ek a.A2 a.BK
 Ke:Binds K a.BK ["_law_book_here", "_law_letters_here", "_law_deeds", "_law_times_told", "_law_tokens"] []
 JY:mg "_law_reached" = some (.ref a.A2)
 Ka:zF K (.ref a.A2)=true
 JA:Fun K "law" "law" NT a.HW a.Li
 Oz:Binds K a.Li ["_law_script_here"] []
 Oy:mg "law" = some (.ref a.HW)
 k_law:zF K (.ref a.HW)=true
 b_ValueError:mg "ValueError" = none
 b_all:mg "all" = none
 b_bool:mg "bool" = none
 b_dict:mg "dict" = none
 b_enumerate:mg "enumerate" = none
 b_int:mg "int" = none
 b_isinstance:mg "isinstance" = none
 b_len:mg "len" = none
 b_list:mg "list" = none
 b_max:mg "max" = none
 b_min:mg "min" = none
 b_range:mg "range" = none
 b_sorted:mg "sorted" = none
 b_tuple:mg "tuple" = none
 N3:mg "AllMet" = some (.ref a.At)
 N1:mg "Halves" = some (.ref a.Ao)
 Nh:mg "HasIt" = some (.ref a.A0)
 Mb:mg "MeetError" = some (.ref a.Dp)
 J8:mg "Nearer" = some (.ref a.Ah)
 N0:mg "NoBook" = some (.ref a.BS)
 Nx:mg "NoClaim" = some (.ref a.Bs)
 Oh:mg "NoDay" = some (.ref a.CW)
 Ma:mg "NoDeed" = some (.ref a.AQ)
 J7:mg "NoLetter" = some (.ref a.An)
 Jp:mg "NoMeeting" = some (.ref a.Aj)
 NZ:mg "NoName" = some (.ref a.BR)
 J6:mg "NoPass" = some (.ref a.Al)
 J5:mg "NoRoom" = some (.ref a.Ak)
 Og:mg "NoRow" = some (.ref a.CV)
 J2:mg "NoRule" = some (.ref a.As)
 NY:mg "NoText" = some (.ref a.BQ)
 GQ:mg "NoWalker" = some (.ref a.Am)
 Fj:mg "NotThere" = some (.ref a.Ag)
 Nw:mg "TooMany" = some (.ref a.Br)
 On:mg "Trip" = some (.ref a.Aa)
 Of:mg "Twice" = some (.ref a.CU)
 NQ:XCls K a.AQ
 LU:XCls K a.Aj
 MC:XCls K a.An
 JO:XCls K a.Am
 JN:XCls K a.Ag
 Oe:XCls K a.A0
 NP:XCls K a.Al
 NO:XCls K a.Ak
 E5:XCls K a.As
 Mv:Cls K a.At
 Ia:Cls K a.Ao
 EE:Cls K a.Ah
 Ai:Cls K a.Aa
 Oc:L2.Mk K a.At a.Ar
 Ob:L2.Mk K a.Ao a.Aq
 Mt:L2.Mk K a.Ah a.Ap
 Op:L2.Mk K a.Aa a.AB
 n_Halves_tokens:NoAttr K a.Ao "tokens"
 n_Nearer_past:NoAttr K a.Ah "past"
 n_Trip_book:NoAttr K a.Aa "book"
 n_Trip_letters:NoAttr K a.Aa "letters"
 n_Trip_holders:NoAttr K a.Aa "holders"
 n_Trip_arrivals:NoAttr K a.Aa "arrivals"
 n_Trip_passed:NoAttr K a.Aa "passed"
 n_Trip_reached:NoAttr K a.Aa "reached"
 n_Trip_deeds:NoAttr K a.Aa "deeds"
 NW:OCls K a.At
 NV:OCls K a.Ao
 L6:OCls K a.Ah
 f_d4:yk K (.ref a.Ag) [.ref a.Ag,.ref a.Al,.ref a.Ak]=some true
 f_d6:yk K (.ref a.Al) [.ref a.Ag,.ref a.Al,.ref a.Ak]=some true
 f_d7:yk K (.ref a.Ak) [.ref a.Ag,.ref a.Al,.ref a.Ak]=some true
 f_na:zc K (.ref a.At) (.ref a.Ah)=some false
 f_nh:zc K (.ref a.Ao) (.ref a.Ah)=some false
 f_nn:zc K (.ref a.Ah) (.ref a.Ah)=some true
 f_em:PySem.W.exmOne K (.ref a.As) (.ref a.Dp)=some true
 f_rv:zc K (.ref a.As) (.type "ValueError")=some true
 f_nr:zc K (.type "NoneType") (.ref a.As)=some false
 f_a1:yG K (.ref a.As) [.ref a.BS,.ref a.Aj,.ref a.AQ,.ref a.An,.ref a.Am,.ref a.Ag,.ref a.A0,.ref a.Al,.ref a.Ak]=some false
 f_a2:yG K (.ref a.As) [.ref a.Br,.ref a.CW,.ref a.Bs,.ref a.BQ,.ref a.CV,.ref a.BR,.ref a.CU]=some false
 f_b1:yG K (.type "NoneType") [.ref a.BS,.ref a.Aj,.ref a.AQ,.ref a.An,.ref a.Am,.ref a.Ag,.ref a.A0,.ref a.Al,.ref a.Ak]=some false
 f_b2:yG K (.type "NoneType") [.ref a.Br,.ref a.CW,.ref a.Bs,.ref a.BQ,.ref a.CV,.ref a.BR,.ref a.CU]=some false
 c_MOST_TOKENS:mg "MOST_TOKENS" = some (.int 64 a_MOST_TOKENS)
section
variable {P:Program}{w:World}{K:PySem.W.Frag}{mg:Str->Option Value}{base:Heap}{a:Ad}{t_MOST_TOKENS:Tok}
theorem Os (T:Tx K mg a t_MOST_TOKENS):FnOk P w K mg base CX0 1 a.EQ a.Gf ["k"] (spNever):=⟨λ_ _ _ _ h=>h.elim,λ_ _ _ _ _ _ _ _ _ _ _ _ _ h=>h.elim⟩
theorem Gz:FnScope ["_law_script", "_law_k", "_law_cell", "_law_left"] ["_law_script", "_law_k"] (defScope Fg):=⟨rfl,rfl,rfl,by decide +kernel,rfl,by decide +kernel,by decide +kernel⟩
theorem KR (T:Tx K mg a t_MOST_TOKENS):FnOk P w K mg base CX0 1 a.BD a.CT ["_law_script", "_law_k"] (spPurse K):=by
 refine T.B9.ok Gz (λvs H Q E h=>?_) (λcdv A outer s H vs Q E hr h=>?_)
 ·obtain ⟨a,ns,k,rfl,_⟩:=h;rfl
 ·have nd:=Gz.nd
  have hu:=hr.units
  obtain ⟨sa,ns,k,rfl,hS,hk,q⟩:=h
  refine ⟨_,(xL (xZ (xf (i:=2) nd rfl (by first | exact Or.inl rfl | exact Or.inr rfl) xI) (xZ (xi (xb op_lt (pv 1) (xS (xQ rfl) (by rfl) T.b_len PySem.boot_len (xG (xH (pv 0) xN rfl))) (nomark _)) (xL (xg (xf (i:=2) nd rfl (by first | exact Or.inl rfl | exact Or.inr rfl) (xU (xV rfl) (pv 0) (pv 1) (λ_ _=>rfl))))) xX) (xZ (xf (i:=3) nd rfl (by first | exact Or.inl rfl | exact Or.inr rfl) xI) (xZ (xi (xb op_lt (pv 2) xI (nomark _)) (xL (xg (xf (i:=3) nd rfl (by first | exact Or.inl rfl | exact Or.inr rfl) (xh op_sub (pe_un un_neg xI) (pv 2))))) xX) (xZ (xi (xb op_ge (pv 2) (xh op_pow xI xI) (nomark _)) (xL (xg (xf (i:=3) nd rfl (by first | exact Or.inl rfl | exact Or.inr rfl) (pv 2)))) xX) (xg (xY (xw (xG (xH (pv 3) (xH (xh op_mod (xh xr (xh xr (xh op_mul (pv 2) xI) (xh op_mul (pv 1) xI)) xI) xI) (xH xI xN rfl) rfl) rfl))))))))))),?_⟩
  have c18:CPow 10 18:=⟨by decide,by decide,by decide⟩
  have s3:3<=sizeLine:=by rw [sizeLine_eq];decide
  have fin:∀ (x y:Int) p,H p=none->Q (.ref p) (upd H p (.lst [.int x,.int y,.int 0])):=λx y p hp=>q p _ hp ⟨x,y,0,xJ⟩ (xM hp)
  have c69:∀ x:Int,CMul x 69:=λx=>.inr ⟨by decide,by decide⟩
  have c405:∀ x:Int,CMul x 40503:=λx=>.inr ⟨by decide,by decide⟩
  refine (zr rfl (zr rfl ⟨sa,zr rfl ⟨.inl hS,zr2 rfl rfl (zr rfl (iteN (fun σ H1=>∃ c:Int,σ=[some (.ref sa),some (.int k),some (.int c),none]/\H=H1) ?_ (λc k0=>?_) (λc=>⟨0,rfl,rfl⟩)))⟩⟩))
  ·rintro σ H1 ⟨c,rfl,rfl⟩
   refine (zr rfl (zr2 rfl rfl (zr rfl (iteN (fun σ H1=>∃ d:Int,σ=[some (.ref sa),some (.int k),some (.int c),some (.int d)]/\H=H1) ?_ (λz k0=>?_) (λz=>⟨0,rfl,rfl⟩)))))
   ·rintro σ H1 ⟨d,rfl,rfl⟩
    refine (zr rfl (zr2 rfl rfl ⟨c18,zr2 rfl rfl (zr rfl (iteN (fun σ H1=>∃ d:Int,σ=[some (.ref sa),some (.int k),some (.int c),some (.int d)]/\H=H1) ?_ (λz k0=>(zr rfl (k0 _ _ ⟨c,rfl,rfl⟩))) (λz=>⟨d,rfl,rfl⟩)))⟩))
    rintro σ H1 ⟨d,rfl,rfl⟩
    exact (zr rfl (zr rfl (zr2 rfl rfl ⟨c69 _,zr rfl (zr2 rfl rfl ⟨c405 _,zr2 rfl rfl (zr2 rfl rfl (zr2 rfl rfl ⟨(by show (0:Int) < 2147483647;decide),s3,fin _ _⟩))⟩)⟩)))
   ·exact (zr rfl (zr rfl (zr2 rfl rfl (k0 _ _ (zr rfl rfl)))))
  ·have hk2:k < ns.length:=by
    have:=of_decide_eq_true c
    rw [zA] at this;omega
   exact (zr rfl (zr rfl ⟨sa,_,zr2 rfl rfl ⟨hS,xj (v:=V.int ns[k]) (by simp [hk2]),k0 _ _ (zr rfl rfl)⟩⟩))
theorem Hb:FnScope ["_law_purse_here", "_law_many", "_law_digit", "_law_mixed"] ["_law_purse_here", "_law_many"] (defScope FT):=⟨rfl,rfl,rfl,by decide +kernel,rfl,by decide +kernel,by decide +kernel⟩
theorem xp (T:Tx K mg a t_MOST_TOKENS):FnOk P w K mg base CX0 1 a.BX a.Dj ["_law_purse_here", "_law_many"] (spTake):=by
 refine T.CF.ok Hb (λvs H Q E h=>?_) (λcdv A outer s H vs Q E hr h=>?_)
 ·obtain ⟨p,n,rfl,_⟩:=h;rfl
 ·have nd:=Hb.nd
  have hu:=hr.units
  obtain ⟨p,n,rfl,n0,n1,⟨x,y,z,hp⟩,q⟩:=h
  refine ⟨_,(xL (xZ (xi (xb op_gt (xU (xV rfl) (pv 0) xI (λ_ _=>rfl)) xI (nomark _)) (xL (xZ (xf (i:=2) nd rfl (by first | exact Or.inl rfl | exact Or.inr rfl) (xh op_mod (xU (xV rfl) (pv 0) xI (λ_ _=>rfl)) (pv 1))) (xZ (wW (xh wg (xU (xV rfl) (pv 0) xI (λ_ _=>rfl)) (pv 1)) (pg_sub (pv 0) xI wT)) (xg (xY (pv 2)))))) xX) (xZ (ps_augS (pv 0) xI (get_list rfl) xI ip_add wT) (xZ (xf (i:=3) nd rfl (by first | exact Or.inl rfl | exact Or.inr rfl) (xh op_mod (xh op_mul (xh xr (xU (xV rfl) (pv 0) xI (λ_ _=>rfl)) (xh op_mul (xU (xV rfl) (pv 0) xI (λ_ _=>rfl)) xI)) xI) xI)) (xZ (xf (i:=3) nd rfl (by first | exact Or.inl rfl | exact Or.inr rfl) (xh op_mod (xh xr (xh xr (xh op_mul (pv 3) (pv 3)) (xh op_mul (xU (xV rfl) (pv 0) xI (λ_ _=>rfl)) xI)) (xU (xV rfl) (pv 0) xI (λ_ _=>rfl))) xI)) (xg (xY (xh op_mod (xh wg (xh op_mod (xh op_mul (pv 3) xI) xI) xI) (pv 1))))))))),?_⟩
  have hS:SqL K H p _:=SqL.of hp
  have cm:∀ x c:Int,-(2 ^ 64) < c->c < 2 ^ 64->CMul x c:=λx c h h'=>.inr ⟨h,h'⟩
  refine (zr rfl ⟨p,_,zr2 rfl rfl ⟨hS,rfl,zr2 rfl rfl (zr rfl (iteD (λh1=>?_) λh1=>?_))⟩⟩)
  ·refine (zr rfl ⟨p,_,zr2 rfl rfl ⟨hS,rfl,zr rfl (zr2 rfl rfl ⟨n0,?_⟩)⟩⟩)
   refine (zr rfl ⟨p,_,zr2 rfl rfl ⟨hS,rfl,zr rfl (zr2 rfl rfl ⟨⟨n0,n1⟩,zr rfl ⟨p,_,_,0,rfl,rfl,hp,rfl,?_⟩⟩)⟩⟩)
   exact (zr rfl (q _ _ (yr _ (by omega)) (yY _ n0) ⟨But.set,_,_,_,xJ⟩))
  ·refine (zr rfl ⟨p,_,zr2 rfl rfl ⟨hS,rfl,zr2 rfl rfl ⟨p,_,_,2,rfl,rfl,hp,rfl,?_⟩⟩⟩)
   have h2:(upd H p (HO.lst ([V.int x,V.int y,V.int z].set 2 (.int (z + 1))))) p=some (.lst [V.int x,V.int y,V.int (z + 1)]):=xJ
   have b2:But p H (upd H p (HO.lst ([V.int x,V.int y,V.int z].set 2 (.int (z + 1))))):=But.set
   generalize upd H p (HO.lst ([V.int x,V.int y,V.int z].set 2 (.int (z + 1))))=H2 at h2 b2 ⊢
   have hS2:SqL K H2 p _:=SqL.of h2
   have big:(2147483647:Int) < 2 ^ 64:=by decide
   have low:-(2:Int) ^ 64 < 0:=by decide
   have pos:(0:Int) < 2147483647:=by decide
   refine (zr rfl ⟨p,_,zr2 rfl rfl ⟨hS2,rfl,zr rfl ⟨p,_,zr2 rfl rfl ⟨hS2,rfl,zr2 rfl rfl ⟨cm _ _ (by decide) (by decide),zr2 rfl rfl (zr2 rfl rfl ⟨cm _ _ (by decide) (by decide),zr2 rfl rfl ⟨(by show (0:Int) < 2147483647;decide),?_⟩⟩)⟩⟩⟩⟩⟩)
   have m0:=yr ((y + (z + 1) * 362437) * 48271) (show (2147483647:Int)≠0 by decide)
   have m1:=yY ((y + (z + 1) * 362437) * 48271) pos
   refine (zr rfl (zr rfl (zr2 rfl rfl ⟨.inl ⟨Int.lt_of_lt_of_le low m0,Int.lt_trans m1 big⟩,zr rfl ⟨p,_,zr2 rfl rfl ⟨hS2,rfl,zr2 rfl rfl ⟨cm _ _ (by decide) (by decide),zr2 rfl rfl (zr rfl ⟨p,_,zr2 rfl rfl ⟨hS2,rfl,zr2 rfl rfl (zr2 rfl rfl ⟨(by show (0:Int) < 2147483629;decide),?_⟩)⟩⟩)⟩⟩⟩⟩)))
   refine (zr rfl (zr2 rfl rfl ⟨cm _ _ (by decide) (by decide),zr2 rfl rfl ⟨(by show (0:Int) < 2147483563;decide),zr2 rfl rfl ⟨⟨by decide,by decide⟩,zr rfl (zr2 rfl rfl ⟨n0,?_⟩)⟩⟩⟩))
   exact q _ _ (yr _ (by omega)) (yY _ n0) ⟨b2,_,_,_,h2⟩
theorem Jj:FnScope ["_law_purse_here", "_law_high"] ["_law_purse_here"] (defScope GG):=⟨rfl,rfl,rfl,by decide +kernel,rfl,by decide +kernel,by decide +kernel⟩
theorem L3 (T:Tx K mg a t_MOST_TOKENS):FnOk P w K mg base CX0 2 a.Cu a.DN ["_law_purse_here"] (spFar):=by
 have Ab:=@xp P w _ _ base _ _ T
 refine T.De.ok Jj (λvs H Q E h=>?_) (λcdv A outer s H vs Q E hr h=>?_)
 ·obtain ⟨p,rfl,_⟩:=h;rfl
 ·have nd:=Jj.nd
  have hu:=hr.units
  obtain ⟨p,rfl,hp,q⟩:=h
  refine ⟨_,(xL (xZ (xf (i:=1) nd rfl (by first | exact Or.inl rfl | exact Or.inr rfl) (xP Ab (hr.mono (by decide)) rfl T.Ac T.Ae T.Af .nil pass0 (xG (xH (pv 0) (xH xI xN rfl) rfl)))) (xg (xY (xh op_mod (xh xr (xh op_mul (pv 1) xI) (xP Ab (hr.mono (by decide)) rfl T.Ac T.Ae T.Af .nil pass0 (xG (xH (pv 0) (xH xI xN rfl) rfl)))) (xh xr (xh op_pow xI xI) xI)))))),?_⟩
  refine (zr rfl ⟨p,zr rfl ⟨by decide,by decide,hp,λd H1 d0 d1 g1=>(zr rfl (zr2 rfl rfl ⟨.inr ⟨by decide,by decide⟩,zr rfl ⟨p,zr rfl ⟨by decide,by decide,g1.2,λe H2 e0 e1 g2=>(zr2 rfl rfl (zr2 rfl rfl ⟨⟨by decide,by decide,by decide⟩,zr2 rfl rfl (zr2 rfl rfl ⟨(by show (0:Int) < 10 ^ Int.toNat 9 + 1;decide),?_⟩)⟩))⟩⟩⟩))⟩⟩)
  have e9:(10:Int) ^ Int.toNat 9 + 1=1000000001:=by decide
  rw [e9]
  exact q _ _ (yr _ (by decide)) (Int.lt_add_one_iff.mp (yY _ (by decide))) (g1.trans g2)
theorem Gy:FnScope ["_law_purse_here", "_law_walkers", "_law_rooms_here", "_law_walker", "_law_room"] ["_law_purse_here", "_law_walkers"] (defScope Ff):=⟨rfl,rfl,rfl,by decide +kernel,rfl,by decide +kernel,by decide +kernel⟩
theorem GC (T:Tx K mg a t_MOST_TOKENS):FnOk P w K mg base CX0 2 a.BC a.CS ["_law_purse_here", "_law_walkers"] (spRooms):=by
 have Ab:=@xp P w _ _ base _ _ T
 refine T.B8.ok Gy (λvs H Q E h=>?_) (λcdv A outer s H vs Q E hr h=>?_)
 ·obtain ⟨p,n,rfl,_⟩:=h;rfl
 ·have nd:=Gy.nd
  have hu:=hr.units
  obtain ⟨p,n,rfl,hn,hp,q⟩:=h
  refine ⟨_,(xL (xZ (xf (i:=2) nd rfl (by first | exact Or.inl rfl | exact Or.inr rfl) (xw pa_nil)) (xZ (wd PassesOwn.never rfl (wN rfl T.b_range (xG (xH (pv 1) xN rfl))) (xR (i:=3) nd rfl (by first | exact Or.inl rfl | exact Or.inr rfl)) (xL (xZ (xf (i:=4) nd rfl (by first | exact Or.inl rfl | exact Or.inr rfl) (xh wg (xP Ab (hr.mono (by decide)) rfl T.Ac T.Ae T.Af .nil pass0 (xG (xH (pv 0) (xH xI xN rfl) rfl))) xI)) (xZ (xi (xb wM (pv 4) xI (nomark _)) (xL (xg (xf (i:=4) nd rfl (by first | exact Or.inl rfl | exact Or.inr rfl) (xP Ab (hr.mono (by decide)) rfl T.Ac T.Ae T.Af .nil pass0 (xG (xH (pv 0) (xH xI xN rfl) rfl)))))) xX) (xg (wc (pe_bm PySem.F.plainAttrs_list PySem.F.slot_list_append PySem.F.type_list_append mt_append (pv 2) (xG (xH (pv 4) xN rfl))))))))) (xg (xY (wJ (call_tuple_of) (by rfl) T.b_tuple yH (xG (xH (pv 2) xN rfl)))))))),?_⟩
  have line:1001<=sizeLine:=by rw [sizeLine_eq];decide
  refine ⟨zZ _,λl hl=>?_⟩
  have npl:=hp.ne hl
  refine (zr rfl (zr rfl ⟨by omega,by omega,?_⟩))
  refine for_range (lo:=0) (n:=n) (λi σ H2=>∃ v3 v4 rs,σ=[some (.ref p),some (.int n),some (.ref l),v3,v4]/\H2 l=some (.lst (List.map V.int rs))/\rs.length=i/\(∀ r∈rs,(0:Int)<=r/\r<=99)/\Go p H H2)
   ⟨_,_,[],rfl,xJ,rfl,(λ_ z=>nomatch z),(Go.refl hp).new hl⟩ ?_ ?_
  ·rintro i σ H2 hi ⟨v3,v4,rs,rfl,h2,hlen,hr,go⟩
   refine (zr rfl ⟨p,zr rfl ⟨by decide,by decide,go.2,λd H3 d0 d1 g3=>(zr2 rfl rfl ⟨⟨by decide,by decide⟩,?_⟩)⟩⟩)
   refine (zr rfl ⟨rfl,zr rfl (iteN (fun σ H4=>∃ x:Int,σ=[some (.ref p),some (.int n),some (.ref l),some (.int (0 + (i:Int))),some (.int x)]/\0<=x/\x<=99/\Go p H2 H4) ?_ (λc k0=>(zr rfl ⟨p,zr rfl ⟨by decide,by decide,g3.2,λe H4 e0 e1 g4=>k0 _ _ ⟨e,rfl,e0,by omega,g3.trans g4⟩⟩⟩)) (λc=>(zr rfl ⟨by omega,by omega,g3⟩)))⟩)
   rintro σ H4 ⟨x,rfl,x0,x1,g4⟩
   have h4:=g4.1 l _ npl h2
   refine (zr rfl ⟨.inl ⟨rfl,_,SqL.of h4⟩,zr rfl ⟨l,zr2 rfl rfl ⟨h4,by rw [zA];omega,_,_,rs++[x],rfl,by rw [xJ,zQ];rfl,by simp [hlen],λr hr'=>?_,?_⟩⟩⟩)
   ·rcases ze.mp hr' with h | h
    ·exact hr r h
    ·cases zN.mp h;exact ⟨x0,x1⟩
   ·have g2:=go.trans g4
    refine ⟨λb u nb e=>?_,?_⟩
    ·rw [xO (xK e hl)];exact g2.1 b u nb e
    ·obtain ⟨a,b,c,e⟩:=g2.2
     exact ⟨a,b,c,by rw [xO npl.symm];exact e⟩
  ·rintro σ H2 ⟨v3,v4,rs,rfl,h2,hlen,hr,go⟩
   exact (zr rfl ⟨l,zr rfl (.inl ⟨SqL.of h2,λt ht=>q t rs _ (go.new ht) xJ hlen hr⟩)⟩)
theorem Hc:FnScope ["_law_purse_here", "_law_way"] ["_law_purse_here"] (defScope FU):=⟨rfl,rfl,rfl,by decide +kernel,rfl,by decide +kernel,by decide +kernel⟩
theorem Lr (T:Tx K mg a t_MOST_TOKENS):FnOk P w K mg base CX0 2 a.BY a.Dk ["_law_purse_here"] (spStep):=by
 have Ab:=@xp P w _ _ base _ _ T
 refine T.CG.ok Hc (λvs H Q E h=>?_) (λcdv A outer s H vs Q E hr h=>?_)
 ·obtain ⟨p,rfl,_⟩:=h;rfl
 ·have nd:=Hc.nd
  have hu:=hr.units
  obtain ⟨p,rfl,hp,q⟩:=h
  refine ⟨_,(xL (xZ (xf (i:=1) nd rfl (by first | exact Or.inl rfl | exact Or.inr rfl) (xP Ab (hr.mono (by decide)) rfl T.Ac T.Ae T.Af .nil pass0 (xG (xH (pv 0) (xH xI xN rfl) rfl)))) (xZ (xi (xb op_lt (pv 1) xI (nomark _)) (xL (xg (xY (xU (xV rfl) (xw (xG (xH xI (xH xI (xH xI xN rfl) rfl) rfl))) (pv 1) (λ_ _=>rfl))))) xX) (xZ (xi (xb wM (pv 1) xI (nomark _)) (xL (xg (xY (xh xr xI (xP Ab (hr.mono (by decide)) rfl T.Ac T.Ae T.Af .nil pass0 (xG (xH (pv 0) (xH xI xN rfl) rfl))))))) xX) (xg (xY (xh xr xI (xP Ab (hr.mono (by decide)) rfl T.Ac T.Ae T.Af .nil pass0 (xG (xH (pv 0) (xH (xh op_mul xI (xh op_pow xI xI)) xN rfl) rfl)))))))))),?_⟩
  have s3:3<=sizeLine:=by rw [sizeLine_eq];decide
  refine (zr rfl ⟨p,zr rfl ⟨by decide,by decide,hp,λd H1 d0 d1 g1=>(zr rfl (zr2 rfl rfl (zr rfl (iteD (λh1=>?_) λh1=>?_))))⟩⟩)
  ·obtain ⟨v,hv,v0,v1⟩:∃ v:Int,atI [V.int 0,V.int 1,V.int 1] d=some (V.int v)/\0<=v/\v<=1:=by
    obtain rfl | rfl | rfl:d=0\/d=1\/d=2:=by omega
    ·exact ⟨0,rfl,by decide,by decide⟩
    ·exact ⟨1,rfl,by decide,by decide⟩
    ·exact ⟨1,rfl,by decide,by decide⟩
   exact ⟨s3,λl hl=>(zr rfl (ixl xJ hv (q _ _ v0 (by omega) (g1.new hl))))⟩
  ·refine (zr rfl ⟨rfl,zr rfl (iteD (λh2=>?_) λh2=>?_)⟩)
   ·exact (zr rfl ⟨p,zr rfl ⟨by decide,by decide,g1.2,λe H2 e0 e1 g2=>(zr2 rfl rfl (q _ _ (by omega) (by omega) (g1.trans g2)))⟩⟩)
   ·have e16:(16:Int) * 10 ^ Int.toNat 6=16000000:=by decide
    refine (zr rfl (zr2 rfl rfl ⟨⟨by decide,by decide,by decide⟩,zr2 rfl rfl ⟨.inl ⟨by decide,by decide⟩,p,zr rfl ⟨by decide,by decide,g1.2,λe H2 e0 e1 g2=>(zr2 rfl rfl (q _ _ (by omega) (by rw [e16] at e1;omega) (g1.trans g2)))⟩⟩⟩))
theorem E6:FnScope ["_law_purse_here", "_law_walkers", "_law_most", "_law_found", "_law_when", "_law_busy", "_law_k", "_law_one", "_law_other", "_law_gap", "_law_passed", "_law_late"] ["_law_purse_here", "_law_walkers", "_law_most"] (defScope wV):=⟨rfl,rfl,rfl,by decide +kernel,rfl,by decide +kernel,by decide +kernel⟩
theorem E8 (T:Tx K mg a t_MOST_TOKENS):FnOk P w K mg base CX0 3 a.AX a.Bw ["_law_purse_here", "_law_walkers", "_law_most"] (spMeetings):=by
 have Ab:=@xp P w _ _ base _ _ T
 have Mx:=@Lr P w _ _ base _ _ T
 refine T.Bk.ok E6 (λvs H Q E h=>?_) (λcdv A outer s H vs Q E hr h=>?_)
 ·obtain ⟨p,w,n,rfl,_⟩:=h;rfl
 ·have nd:=E6.nd
  have hu:=hr.units
  obtain ⟨p,w,n,rfl,hn,w9,hw,hp,q⟩:=h
  refine ⟨_,(xL (xZ (xf (i:=3) nd rfl (by first | exact Or.inl rfl | exact Or.inr rfl) (xw pa_nil)) (xZ (xf (i:=4) nd rfl (by first | exact Or.inl rfl | exact Or.inr rfl) (xh xr xI (xh op_mul (xh wg (xP Ab (hr.mono (by decide)) rfl T.Ac T.Ae T.Af .nil pass0 (xG (xH (pv 0) (xH xI xN rfl) rfl))) xI) (xP Ab (hr.mono (by decide)) rfl T.Ac T.Ae T.Af .nil pass0 (xG (xH (pv 0) (xH (xh op_pow xI xI) xN rfl) rfl)))))) (xZ (xf (i:=5) nd rfl (by first | exact Or.inl rfl | exact Or.inr rfl) (xw pa_nil)) (xZ (wd PassesOwn.never rfl (wN rfl T.b_range (xG (xH (pv 2) xN rfl))) (xR (i:=6) nd rfl (by first | exact Or.inl rfl | exact Or.inr rfl)) (xL (xZ (xf (i:=7) nd rfl (by first | exact Or.inl rfl | exact Or.inr rfl) (xP Ab (hr.mono (by decide)) rfl T.Ac T.Ae T.Af .nil pass0 (xG (xH (pv 0) (xH (pv 1) xN rfl) rfl)))) (xZ (xf (i:=8) nd rfl (by first | exact Or.inl rfl | exact Or.inr rfl) (xh op_mod (xh xr (xh xr (pv 7) xI) (xP Ab (hr.mono (by decide)) rfl T.Ac T.Ae T.Af .nil pass0 (xG (xH (pv 0) (xH (xh op_sub (pv 1) xI) xN rfl) rfl)))) (pv 1))) (xZ (xf (i:=9) nd rfl (by first | exact Or.inl rfl | exact Or.inr rfl) (xP Mx (hr.mono (by decide)) rfl T.L8 T.Md T.Mg .nil pass0 (xG (xH (pv 0) xN rfl)))) (xZ (xi (PW.pt (pw_or (xb (op_in_seq' rfl) (pv 7) (pv 5) rfl) (pw_or1 (xb (op_in_seq' rfl) (pv 8) (pv 5) rfl)))) (xL (xg (xf (i:=9) nd rfl (by first | exact Or.inl rfl | exact Or.inr rfl) (xS (call_max2 rfl) (by rfl) T.b_max PyProof.Rows.boot_max (xG (xH xI (xH (pv 9) xN rfl) rfl)))))) xX) (xZ (xi (xb op_gt (pv 9) xI (nomark _)) (xL (xg (xf (i:=5) nd rfl (by first | exact Or.inl rfl | exact Or.inr rfl) (xw pa_nil)))) xX) (xZ (xf (i:=4) nd rfl (by first | exact Or.inl rfl | exact Or.inr rfl) (xh xr (pv 4) (pv 9))) (xZ (xf (i:=5) nd rfl (by first | exact Or.inl rfl | exact Or.inr rfl) (xh op_cat (pv 5) (xw (xG (xH (pv 7) (xH (pv 8) xN rfl) rfl))))) (xZ (xf (i:=10) nd rfl (by first | exact Or.inl rfl | exact Or.inr rfl) (xh xr xI (xh wg (xP Ab (hr.mono (by decide)) rfl T.Ac T.Ae T.Af .nil pass0 (xG (xH (pv 0) (xH xI xN rfl) rfl))) xI))) (xZ (xi (xb wM (xP Ab (hr.mono (by decide)) rfl T.Ac T.Ae T.Af .nil pass0 (xG (xH (pv 0) (xH xI xN rfl) rfl))) xI (nomark _)) (xL (xg (xf (i:=10) nd rfl (by first | exact Or.inl rfl | exact Or.inr rfl) (xh xr xI (xP Ab (hr.mono (by decide)) rfl T.Ac T.Ae T.Af .nil pass0 (xG (xH (pv 0) (xH xI xN rfl) rfl))))))) xX) (xg (wc (pe_bm PySem.F.plainAttrs_list PySem.F.slot_list_append PySem.F.type_list_append mt_append (pv 3) (xG (xH (wF (xG (xH (pv 4) (xH (xS (call_min2 rfl) (by rfl) T.b_min PyProof.Rows.boot_min (xG (xH (pv 7) (xH (pv 8) xN rfl) rfl))) (xH (xS (call_max2 rfl) (by rfl) T.b_max PyProof.Rows.boot_max (xG (xH (pv 7) (xH (pv 8) xN rfl) rfl))) (xH (pv 10) xN rfl) rfl) rfl) rfl))) xN rfl)))))))))))))))) (xZ (xf (i:=11) nd rfl (by first | exact Or.inl rfl | exact Or.inr rfl) xI) (xZ (xi (PW.pt (pw_and (xb wM (xP Ab (hr.mono (by decide)) rfl T.Ac T.Ae T.Af .nil pass0 (xG (xH (pv 0) (xH xI xN rfl) rfl))) xI (nomark _)) (wa (xb (op_neNil hu) (pv 3) (xw pa_nil) (nomark _))))) (xL (xg (xf (i:=11) nd rfl (by first | exact Or.inl rfl | exact Or.inr rfl) (xh op_sub (xh op_pow xI xI) (pv 4))))) xX) (xg (xY (wJ (call_tuple_of) (by rfl) T.b_tuple yH (xG (xH (wf (own:=["_law_then", "_law_low", "_law_high", "_law_room"]) (caps:=[11]) rfl (show CompScope ["_law_then", "_law_low", "_law_high", "_law_room"] [11] ["_law_purse_here", "_law_walkers", "_law_most", "_law_found", "_law_when", "_law_busy", "_law_k", "_law_one", "_law_other", "_law_gap", "_law_passed", "_law_late"] (defScope wV) _ from ⟨rfl,by decide +kernel,by decide +kernel,by decide +kernel,by decide +kernel⟩) (pi_list' rfl (xS (call_sortT) (by rfl) T.b_sorted PyProof.Rows.boot_sorted (xG (xH (pv 3) xN rfl)))) (λ_ _ _ _=>(xz (n:=4) rfl rfl (xT (xR (i:=0) (show List.Nodup (["_law_then", "_law_low", "_law_high", "_law_room", "_law_late"]:List Str) from by decide +kernel) rfl (by first | exact Or.inl rfl | exact Or.inr rfl)) (xT (xR (i:=1) (show List.Nodup (["_law_then", "_law_low", "_law_high", "_law_room", "_law_late"]:List Str) from by decide +kernel) rfl (by first | exact Or.inl rfl | exact Or.inr rfl)) (xT (xR (i:=2) (show List.Nodup (["_law_then", "_law_low", "_law_high", "_law_room", "_law_late"]:List Str) from by decide +kernel) rfl (by first | exact Or.inl rfl | exact Or.inr rfl)) (xT (xR (i:=3) (show List.Nodup (["_law_then", "_law_low", "_law_high", "_law_room", "_law_late"]:List Str) from by decide +kernel) rfl (by first | exact Or.inl rfl | exact Or.inr rfl)) xy)))))) (λ_ _ _ _=>we) (λ_ _ _ _=>(wF (xG (xH (pv 1) (xH (pv 2) (xH (xh xr (pv 0) (pv 4)) (xH (pv 3) xN rfl) rfl) rfl) rfl))))) xN rfl)))))))))))),?_⟩
  have line:1001<=sizeLine:=by rw [sizeLine_eq];decide
  have c7:CPow 10 7:=⟨by decide,by decide,by decide⟩
  have e7:(10:Int) ^ Int.toNat 7=10000000:=by decide
  have e64:(2:Int) ^ 64 > 1000:=by decide
  have e200:(2:Int) ^ 200 > 1000:=by decide
  refine ⟨zZ _,λlf hlf=>?_⟩
  have npf:=hp.ne hlf
  have hp1:Purse (upd H lf (.lst [])) p:=hp.new hlf
  refine (zr rfl ⟨p,zr rfl ⟨by decide,by decide,hp1,λd H1 d0 d1 g1=>(zr2 rfl rfl ⟨⟨by decide,by decide⟩,zr rfl (zr2 rfl rfl ⟨c7,?_⟩)⟩)⟩⟩)
  refine ⟨p,zr rfl ⟨by decide,by decide,g1.2,λd2 H2 d20 d21 g2=>(zr2 rfl rfl ⟨.inl ⟨by omega,by omega⟩,zr2 rfl rfl ?_⟩)⟩⟩
  rw [e7] at d21
  refine ⟨zZ _,λlb hlb=>?_⟩
  have fr2:=g1.trans g2
  have hlf2:H2 lf=some (.lst []):=fr2.1 lf _ npf xJ
  have go0:Go p H H2:=((Go.refl hp).new hlf).trans fr2
  refine (zr rfl (zr rfl ⟨by omega,by omega,?_⟩))
  have wh0:1<=1 + d / 2 * d2/\1 + d / 2 * d2<=10000000:=by
   obtain h | h:d / 2=0\/d / 2=1:=by omega
   ·rw [h];omega
   ·rw [h];omega
  refine for_range (lo:=0) (n:=n) (PvM p lf w n H)
   ⟨_,_,_,_,_,_,lb,[],[],rfl,by rw [xO (xK hlf2 hlb)];exact hlf2,xJ,(xK hlf2 hlb).symm,go0.2.ne hlb,(λ_ z=>nomatch z),⟨(λ_ z=>nomatch z),.nil,(λ_ z=>nomatch z)⟩,rfl,by simp,wh0.1,(by have:=wh0.2;simpa using this),go0.new hlb⟩ ?_ ?_
  ·rintro i σ H3 hi ⟨v6,v7,v8,v9,v10,wh,lb,bs,fs,rfl,h3f,h3b,nbf,nbp,h3r,F,lenf,lenb,wh1,wh2,go⟩
   have w2:2<=w:=by omega
   refine (zr rfl (zr rfl ⟨p,w,rfl,by omega,by omega,go.2,λone H4 o0 o1 g4=>?_⟩))
   refine (zr rfl (zr2 rfl rfl (zr rfl (zr rfl (zr2 rfl rfl ⟨p,zr rfl ⟨by omega,by omega,g4.2,λx H5 x0 x1 g5=>(zr2 rfl rfl (zr rfl (zr2 rfl rfl ⟨by omega,?_⟩)))⟩⟩)))))
   have ot:=oth_ok o0 o1 x0 x1
   refine (zr rfl ⟨p,rfl,g5.2,λgap H6 gap0 gap1 g6=>?_⟩)
   have g46:=g4.trans (g5.trans g6)
   have hb6:=g46.1 lb _ nbp h3b
   have hf6:=g46.1 lf _ npf h3f
   refine (zr rfl (zr rfl ⟨lb,zr rfl ⟨.inl (SqL.of hb6),rfl,flat_ints bs,zr rfl (iteO (fun σ H7=>∃ gp:Int,σ=[some (.ref p),some (.int w),some (.int n),some (.ref lf),some (.int wh),some (.ref lb),some (.int (0 + (i:Int))),some (.int one),some (.int ((one + 1 + x) % w)),some (.int gp),v10,none]/\H6=H7/\0<=gp/\gp<=16000000/\(gp=0->one ∉ bs/\(one + 1 + x) % w ∉ bs)) ?_ (λc1 k0=>?_) (λc1 k0=>(zr rfl (zr rfl ⟨lb,zr rfl ⟨.inl (SqL.of hb6),rfl,flat_ints bs,zr rfl (iteB (λc2=>?_) (λc2=>?_))⟩⟩))))⟩⟩))
   rotate_left
   ·exact (zr rfl (zr1 rfl (k0 _ _ (zr rfl ⟨rfl,by split <;> omega,by split <;> omega,λz=>by split at z <;> omega⟩))))
   ·exact (zr rfl (zr1 rfl (k0 _ _ (zr rfl ⟨rfl,by split <;> omega,by split <;> omega,λz=>by split at z <;> omega⟩))))
   ·have c1':one ∉ bs:=of_decide_eq_false (inV_ints.symm.trans c1)
    have c2':(one + 1 + x) % w ∉ bs:=of_decide_eq_false (inV_ints.symm.trans c2)
    exact k0 _ _ ⟨gap,rfl,rfl,by omega,by omega,λ_=>⟨c1',c2'⟩⟩
   rintro σ H7 ⟨gp,rfl,rfl,gp0,gp1,hg⟩
   refine (zr rfl (zr2 rfl rfl (zr rfl (iteN (fun σ H7=>∃ ly bz,σ=[some (.ref p),some (.int w),some (.int n),some (.ref lf),some (.int wh),some (.ref ly),some (.int (0 + (i:Int))),some (.int one),some (.int ((one + 1 + x) % w)),some (.int gp),v10,none]/\Go p H3 H7/\H7 ly=some (.lst (List.map V.int bz))/\ly≠p/\bz.length<=2 * i/\∀ z∈bs,gp=0->z∈bz) ?_ (λc3 k0=>⟨zZ _,λln hln=>k0 _ _ ⟨ln,[],rfl,g46.new hln,xJ,g46.2.ne hln,zZ _,λ_ _ z=>by have:=of_decide_eq_true c3;omega⟩⟩) (λc3=>⟨lb,bs,rfl,g46,hb6,nbp,lenb,λ_ z _=>z⟩)))))
   rintro σ H7 ⟨ly,bz,rfl,gy,hyb,nyp,leny,hb0⟩
   have h3f':=gy.1 lf _ npf h3f
   refine (zr rfl (zr rfl (zr2 rfl rfl ?_)))
   refine (zr rfl (zr rfl (zr rfl ⟨by show 2<=sizeLine;omega,λl2 hl2=>?_⟩)))
   have g2':=gy.new (o:=HO.lst [V.int one,V.int ((one + 1 + x) % w)]) hl2
   have hyb2:=xM (o:=HO.lst [V.int one,V.int ((one + 1 + x) % w)]) hl2 _ _ hyb
   have h22:(upd H7 l2 (HO.lst [V.int one,V.int ((one + 1 + x) % w)])) l2=some (.lst [V.int one,V.int ((one + 1 + x) % w)]):=xJ
   generalize upd H7 l2 (HO.lst [V.int one,V.int ((one + 1 + x) % w)])=H8 at g2' hyb2 h22 ⊢
   refine ⟨ly,l2,zr2 rfl rfl ⟨hyb2,h22,(by simp only [zA,zg,yc];omega),λl3 hl3=>?_⟩⟩
   have n3p:l3≠p:=g2'.2.ne hl3
   have n3f:l3≠lf:=(xK (g2'.1 lf _ npf h3f) hl3).symm
   have g3':=g2'.new (o:=HO.lst (List.map V.int bz++[V.int one,V.int ((one + 1 + x) % w)])) hl3
   have h3b':(upd H8 l3 (HO.lst (List.map V.int bz++[V.int one,V.int ((one + 1 + x) % w)]))) l3=some (.lst (List.map V.int (bz++[one,(one + 1 + x) % w]))):=by rw [xJ,zQ];rfl
   generalize upd H8 l3 (HO.lst (List.map V.int bz++[V.int one,V.int ((one + 1 + x) % w)]))=H9 at g3' h3b' ⊢
   refine (zr rfl ⟨p,zr rfl ⟨by decide,by decide,g3'.2,λd4 H10 d40 d41 g10=>(zr2 rfl rfl ⟨⟨by decide,by decide⟩,zr2 rfl rfl ?_⟩)⟩⟩)
   refine (zr rfl ⟨p,zr rfl ⟨by decide,by decide,g10.2,λd5 H11 d50 d51 g11=>⟨rfl,zr rfl (iteN (fun σ H12=>∃ mm:Int,σ=[some (.ref p),some (.int w),some (.int n),some (.ref lf),some (.int (wh + gp)),some (.ref l3),some (.int (0 + (i:Int))),some (.int one),some (.int ((one + 1 + x) % w)),some (.int gp),some (.int mm),none]/\1<=mm/\mm<=99/\Go p H9 H12) ?_ (λc5 k0=>(zr rfl ⟨p,zr rfl ⟨by decide,by decide,g11.2,λd6 H12 d60 d61 g12=>(zr2 rfl rfl (k0 _ _ (zr rfl ⟨by omega,by omega,(g10.trans g11).trans g12⟩)))⟩⟩)) (λc5=>(zr rfl ⟨by omega,by omega,g10.trans g11⟩)))⟩⟩⟩)
   rintro σ H12 ⟨mm,rfl,mm0,mm1,g12⟩
   have gall:=g3'.trans g12
   have hz:=gall.1 lf _ npf h3f
   refine (zr rfl ⟨.inl ⟨rfl,_,SqL.of hz⟩,zr rfl (zr rfl (zr rfl (zr1 rfl (zr rfl (zr rfl (zr1 rfl (zr rfl ⟨by show 4<=sizeLine;omega,λt ht=>⟨lf,zr2 rfl rfl ⟨(by rw [xO (xK hz ht)];exact hz),(by rw [zA];omega),?_⟩⟩⟩)))))))⟩)
   exact PvM.step npf hlf F lenf (bs':=bz++[one,(one + 1 + x) % w]) (by simp only [zW,zg,yc];omega) wh1 wh2 hz (g12.1 l3 _ n3p h3b') n3f n3p (λa ha=>gall.tups go.2 _ _ (h3r a ha)) (go.trans gall) ht gp0 gp1 o0 o1 ot.1 ot.2.1 ot.2.2 mm0 mm1 hg (λz hz1 hz2=>yd _ (hb0 z hz1 hz2)) (by simp) (by simp)
  ·rintro σ H3 ⟨v6,v7,v8,v9,v10,wh,lb,bs,fs,rfl,h3f,h3b,nbf,nbp,h3r,F,lenf,lenb,wh1,wh2,go⟩
   have c9:CPow 10 9:=⟨by decide,by decide,by decide⟩
   have e9:(10:Int) ^ Int.toNat 9=1000000000:=by decide
   refine (zr rfl ⟨p,zr rfl ⟨by decide,by decide,go.2,λd8 H4 _ _ g4=>⟨rfl,zr rfl (iteA (fun σ H5=>∃ late:Int,(∃ v6 v7 v8 v9 v10,σ=[some (.ref p),some (.int w),some (.int n),some (.ref lf),some (.int wh),some (.ref lb),v6,v7,v8,v9,v10,some (.int late)])/\Go p H3 H5/\0<=late/\(fs≠[]->wh + late<=1000000000)) ?_ (λc k0=>?_) (λc=>⟨0,⟨_,_,_,_,_,rfl⟩,g4,zo _,λ_=>by omega⟩))⟩⟩⟩)
   rotate_left
   ·have h4f:=g4.1 lf _ npf h3f
    refine (zr rfl ⟨zZ _,λl4 hl4=>⟨lf,l4,zr rfl ⟨rfl,SqL.of (by rw [xO (xK h4f hl4)];exact h4f),SqL.of xJ,zr rfl (iteB (λc2=>?_) (λc2=>?_))⟩⟩⟩)
    ·exact (zr2 rfl rfl ⟨c9,zr rfl (zr2 rfl rfl (k0 _ _ ⟨_,⟨_,_,_,_,_,rfl⟩,g4.new hl4,by rw [e9];omega,λ_=>by rw [e9];omega⟩))⟩)
    ·exact k0 _ _ ⟨0,⟨_,_,_,_,_,rfl⟩,g4.new hl4,zo _,λ_=>by omega⟩
   rintro σ Hz ⟨late,⟨v6',v7',v8',v9',v10',rfl⟩,gz,L0,L1⟩
   have hz:=gz.1 lf _ npf h3f
   refine (zr rfl ⟨lf,fs.map (λa=>(a.1,a.2.row)),rfl,?_,(by rw [zA];omega),(λa ha=>?_),λD qs hD pq sq=>?_⟩)
   ·rw [zX];exact SqL.of hz
   ·obtain ⟨b,hb,rfl⟩:=zO.mp ha
    exact ⟨gz.tups go.2 _ _ (h3r b hb),by intro z;cases z⟩
   obtain ⟨rs,prs,srs,rfl⟩:=rows_back pq sq
   refine ⟨D,rfl,⟨_,SqL.of xJ⟩,?_⟩
   have lrs:rs.length=n:=by rw [prs.length_eq,lenf]
   have hDl:(upd Hz D (HO.lst (List.map (λa=>V.ref a.1) (List.map (λa:Addr×M4=>(a.1,a.2.row)) rs)))) D=some (.lst (rs.map λa=>V.ref a.1)):=by rw [xJ,zX];rfl
   have rD:=λa (ha:a∈rs)=>(Tups.new (o:=HO.lst (List.map (λa=>V.ref a.1) (List.map (λa:Addr×M4=>(a.1,a.2.row)) rs))) hD) _ _ (gz.tups go.2 _ _ (h3r a (prs.mem_iff.mp ha)))
   have gD:=(go.trans gz).new (o:=HO.lst (List.map (λa=>V.ref a.1) (List.map (λa:Addr×M4=>(a.1,a.2.row)) rs))) hD
   refine comp_list (K:=K) (a:=D) (xs:=rs.map λa=>V.ref a.1) (λi τ acc H5=>∃ ps:List (Addr×M4),(∃ t0 t1 t2 t3,τ=[t0,t1,t2,t3,some (.int late)])/\acc=(ps.map λa=>V.ref a.1)/\(ps.map (·.2))=((rs.take i).map λa=>a.2.late late)/\RowsAt H5 ps/\Same (upd Hz D (HO.lst (List.map (λa=>V.ref a.1) (List.map (λa:Addr×M4=>(a.1,a.2.row)) rs)))) H5)
    ?_ (by rw [zA];omega) ?_ ?_ ?_
   ·exact ⟨[],⟨_,_,_,_,rfl⟩,rfl,rfl,(λ_ z=>nomatch z),Same.refl _⟩
   ·rintro i τ acc H6 ⟨ps,⟨t0,t1,t2,t3,rfl⟩,rfl,eps,rws,sm⟩
    have:=congrArg List.length eps
    rw [zA,zA,yV] at this
    exact ⟨by rw [zA];omega,sm.seq (SqL.of hDl)⟩
   ·rintro i x τ acc H5 C hx ⟨ps,⟨t0,t1,t2,t3,rfl⟩,rfl,eps,rws,sm⟩ hC
    obtain ⟨r,hr,rfl⟩:=wB hx
    have hrow:=sm _ _ (rD r (zD hr))
    refine (un4 hrow (zr rfl (zr rfl (zr rfl (zr rfl (zr2 rfl rfl (zr rfl ⟨by show 4<=sizeLine;omega,λt ht=>hC _ _ _ ?_⟩)))))))
    refine ⟨ps++[(t,r.2.late late)],⟨_,_,_,_,rfl⟩,by rw [zQ];rfl,by rw [zQ,wZ hr,zQ,eps];rfl,λa ha=>?_,sm.trans (xM ht)⟩
    rcases ze.mp ha with h | h
    ·exact xM ht _ _ (rws a h)
    ·cases zN.mp h
     exact xJ
   ·rintro τ acc H6 ⟨ps,⟨t0,t1,t2,t3,rfl⟩,rfl,eps,rws,sm⟩ lt hlt
    refine ⟨lt,zr rfl (.inl ⟨SqL.of xJ,λt ht=>q t ps _ (((gD.same sm).new hlt).new ht) xJ ((rws.tups (Tups.new hlt)).tups (Tups.new ht)) ?_ ?_⟩)⟩
    ·rw [eps,zA,yX]
     exact F.good (by omega) L0 L1 prs srs
    ·have:=congrArg List.length eps
     rw [zA,zA,zA,yX] at this
     omega
theorem He:FnScope ["_law_purse_here", "_law_most_walkers", "_law_most_meetings", "_law_walkers", "_law_most"] ["_law_purse_here", "_law_most_walkers", "_law_most_meetings"] (defScope FW):=⟨rfl,rfl,rfl,by decide +kernel,rfl,by decide +kernel,by decide +kernel⟩
theorem Lu (T:Tx K mg a t_MOST_TOKENS):FnOk P w K mg base CX0 4 a.B0 a.Dm ["_law_purse_here", "_law_most_walkers", "_law_most_meetings"] (spBook):=by
 have Ab:=@xp P w _ _ base _ _ T
 have Fx:=@GC P w _ _ base _ _ T
 have DY:=@E8 P w _ _ base _ _ T
 refine T.CJ.ok He (λvs H Q E h=>?_) (λcdv A outer s H vs Q E hr h=>?_)
 ·obtain ⟨p,a,n,rfl,_⟩:=h;rfl
 ·have nd:=He.nd
  have hu:=hr.units
  obtain ⟨p,aw,n,rfl,a1,a2,hn,hp,q⟩:=h
  refine ⟨_,(xL (xZ (xf (i:=3) nd rfl (by first | exact Or.inl rfl | exact Or.inr rfl) (xh xr xI (xP Ab (hr.mono (by decide)) rfl T.Ac T.Ae T.Af .nil pass0 (xG (xH (pv 0) (xH (pv 1) xN rfl) rfl))))) (xZ (xf (i:=4) nd rfl (by first | exact Or.inl rfl | exact Or.inr rfl) (xS (call_min2 rfl) (by rfl) T.b_min PyProof.Rows.boot_min (xG (xH (pv 2) (xH (xP Ab (hr.mono (by decide)) rfl T.Ac T.Ae T.Af .nil pass0 (xG (xH (pv 0) (xH (xh xr (pv 2) xI) xN rfl) rfl))) xN rfl) rfl)))) (xZ (xi (xb wM (pv 3) xI (nomark _)) (xL (xg (xf (i:=4) nd rfl (by first | exact Or.inl rfl | exact Or.inr rfl) xI))) xX) (xg (xY (wF (xG (xH (xP Fx (hr.mono (by decide)) rfl T.Hj T.Hn T.Hs .nil pass0 (xG (xH (pv 0) (xH (pv 3) xN rfl) rfl))) (xH (xP DY (hr.mono (by decide)) rfl T.FG T.FH T.FI .nil pass0 (xG (xH (pv 0) (xH (pv 3) (xH (pv 4) xN rfl) rfl) rfl))) xN rfl) rfl))))))))),?_⟩
  have line:1001<=sizeLine:=by rw [sizeLine_eq];decide
  have e200:(2:Int) ^ 200 > 1000:=by decide
  refine (zr rfl (zr rfl ⟨p,aw,rfl,by omega,by omega,hp,λd H1 d0 d1 g1=>(zr2 rfl rfl ?_)⟩))
  obtain ⟨k,rfl⟩:=zM d0
  refine (zr rfl (zr rfl (zr rfl (zr2 rfl rfl ⟨p,zr rfl ⟨by omega,by omega,g1.2,λe H2 e0 e1 g2=>(zr1 rfl ?_)⟩⟩))))
  obtain ⟨m,em,hm⟩:∃ m:Nat,(if e < (n:Int) then e else (n:Int))=m/\m<=n:=by
   refine ⟨(if e < (n:Int) then e else (n:Int)).toNat,?_,?_⟩ <;> split <;> omega
  refine ⟨_,rfl,rfl,_,rfl,iteN (fun σ H3=>∃ m:Nat,σ=[some (.ref p),some (.int aw),some (.int n),some (.int (1 + (k:Int))),some (.int m)]/\m<=n/\(m=0\/1<=k)/\Go p H H3) ?_ (λc k0=>k0 _ _ ⟨0,rfl,zZ _,.inl rfl,g1.trans g2⟩) (λc=>⟨m,by rw [<-em];rfl,hm,.inr (by
    by_cases hk:k=0
    ·subst hk;exact absurd c (by simp)
    ·omega),g1.trans g2⟩)⟩
  rintro σ H2 ⟨m,rfl,hm,hk,g2⟩
  refine (zr rfl (zr rfl ⟨p,1 + k,by simp,by omega,g2.2,λtr rooms H3 g3 h3 l3 r3=>(zr rfl (zr rfl (zr rfl ⟨p,_,m,rfl,by omega,by omega,by omega,g3.2,λtm ps H4 g4 h4 r4 gd l4=>⟨by show 2<=sizeLine;omega,λb hb=>?_⟩⟩)))⟩))
  have h3':=g4.tups g3.2 _ _ h3
  have tn:=Tups.new (o:=HO.tup [V.ref tr,V.ref tm]) hb
  refine q b rooms tr tm ps _ ((g2.trans (g3.trans g4)).new hb) ⟨xJ,tn _ _ h3',tn _ _ h4,r4.tups tn⟩ (by omega) (by omega) r3 ?_ (by omega)
  rw [l3]
  simpa using gd
theorem Ha:FnScope ["_law_purse_here", "_law_book_here", "_law_later", "_law_way", "_law_at"] ["_law_purse_here", "_law_book_here", "_law_later"] (defScope FS):=⟨rfl,rfl,rfl,by decide +kernel,rfl,by decide +kernel,by decide +kernel⟩
theorem Lq (T:Tx K mg a t_MOST_TOKENS):FnOk P w K mg base CX0 3 a.BW a.Di ["_law_purse_here", "_law_book_here", "_law_later"] (spTimeOf):=by
 have Ab:=@xp P w _ _ base _ _ T
 have Nd:=@L3 P w _ _ base _ _ T
 refine T.CD.ok Ha (λvs H Q E h=>?_) (λcdv A outer s H vs Q E hr h=>?_)
 ·obtain ⟨p,b,j,_,_,_,_,rfl,_⟩:=h;rfl
 ·have nd:=Ha.nd
  have hu:=hr.units
  obtain ⟨p,b,j,rooms,tr,tm,ps,rfl,hj,hb,gd,hp,q⟩:=h
  refine ⟨_,(xL (xZ (xf (i:=3) nd rfl (by first | exact Or.inl rfl | exact Or.inr rfl) (xP Ab (hr.mono (by decide)) rfl T.Ac T.Ae T.Af .nil pass0 (xG (xH (pv 0) (xH xI xN rfl) rfl)))) (xZ (xi (xb wM (pv 3) xI (nomark _)) (xL (xg (xY (xU (xV rfl) (xw (xG (xH xI (xH (xh op_pow xI xI) xN rfl) rfl))) (pv 2) (λ_ _=>rfl))))) xX) (xZ (xi (xb wM (pv 3) xI (nomark _)) (xL (xg (xY (xP Nd (hr.mono (by decide)) rfl T.MK T.MO T.MT .nil pass0 (xG (xH (pv 0) xN rfl)))))) xX) (xZ (xi (xb (op_eqUnit hu) (xU (xW rfl) (pv 1) xI (λ_ _=>rfl)) (wF pa_nil) (nomark _)) (xL (xg (xY (xP Ab (hr.mono (by decide)) rfl T.Ac T.Ae T.Af .nil pass0 (xG (xH (pv 0) (xH xI xN rfl) rfl)))))) xX) (xZ (xf (i:=4) nd rfl (by first | exact Or.inl rfl | exact Or.inr rfl) (xP Ab (hr.mono (by decide)) rfl T.Ac T.Ae T.Af .nil pass0 (xG (xH (pv 0) (xH (xS (xQ rfl) (by rfl) T.b_len PySem.boot_len (xG (xH (xU (xW rfl) (pv 1) xI (λ_ _=>rfl)) xN rfl))) xN rfl) rfl)))) (xZ (xi (xb op_gt (pv 3) xI (nomark _)) (xL (xg (xf (i:=4) nd rfl (by first | exact Or.inl rfl | exact Or.inr rfl) (xU (xV rfl) (xw (xG (xH (xh wg (pv 4) xI) (xH (xh wg (xh xr (pv 4) (xS (xQ rfl) (by rfl) T.b_len PySem.boot_len (xG (xH (xU (xW rfl) (pv 1) xI (λ_ _=>rfl)) xN rfl)))) xI) xN rfl) rfl))) (pv 2) (λ_ _=>rfl))))) xX) (xg (xY (xh op_sub (xU (xW rfl) (xU (xW rfl) (xU (xW rfl) (pv 1) xI (λ_ _=>rfl)) (pv 4) (λ_ _=>rfl)) xI (λ_ _=>rfl)) (xU (xV rfl) (xw (xG (xH xI (xH xI xN rfl) rfl))) (xh op_xor (xh wg (xP Ab (hr.mono (by decide)) rfl T.Ac T.Ae T.Af .nil pass0 (xG (xH (pv 0) (xH xI xN rfl) rfl))) xI) (pv 2)) (λ_ _=>rfl)))))))))))),?_⟩
  have line:=line9
  have e200:(2:Int) ^ 200 > 10000:=by decide
  have c9:CPow 10 9:=⟨by decide,by decide,by decide⟩
  have e9:(10:Int) ^ Int.toNat 9=1000000000:=by decide
  have l60:=gd.len
  refine (zr rfl ⟨p,zr rfl ⟨by decide,by decide,hp,λway H1 w0 w1 g1=>?_⟩⟩)
  refine (zr rfl ⟨rfl,zr rfl (iteD (λc=>?_) (λc=>(zr rfl ⟨rfl,zr rfl (iteD (λc=>?_) (λc=>?_))⟩)))⟩)
  ·refine (zr2 rfl rfl ⟨c9,by show 2<=sizeLine;omega,λl hl=>(zr rfl ?_)⟩)
   rcases hj with rfl | rfl
   ·exact (ixl xJ rfl (q _ _ (by omega) (by omega) (g1.new hl)))
   ·exact (ixl xJ rfl (q _ _ (by rw [e9];decide) (by rw [e9];decide) (g1.new hl)))
  ·exact (zr rfl ⟨p,rfl,g1.2,λd H2 d0 d1 g2=>q _ _ d0 d1 (g1.trans g2)⟩)
  have hb1:=hb.tups (g1.tups hp)
  refine (zr rfl (ixt hb1.book rfl ⟨zZ _,λu hu2=>?_⟩))
  have hb2:=hb1.tups (Tups.new (o:=HO.tup []) hu2)
  have g2:=g1.new (o:=HO.tup []) hu2
  refine ⟨tm,u,zr rfl ⟨rfl,SqT.of hb2.meets,SqT.of xJ,zr rfl (iteB (λc2=>?_) (λc2=>?_))⟩⟩
  ·exact (zr rfl ⟨p,zr rfl ⟨by decide,by decide,g2.2,λd H3 d0 d1 g3=>q _ _ d0 (by omega) (g2.trans g3)⟩⟩)
  have lps:1<=ps.length:=by
   cases ps with
   | nil=>cases c2
   | cons _ _=>simp
  refine (zr rfl (zr rfl (ixt hb2.book rfl ⟨tm,zr rfl ⟨.inr (SqT.of hb2.meets),p,zr rfl ⟨by rw [zA];omega,by rw [zA];omega,g2.2,λd H3 d0 d1 g3=>?_⟩⟩⟩)))
  rw [zA] at d1
  have hb3:=hb2.tups (g3.tups g2.2)
  have gg3:=g2.trans g3
  refine (zr rfl (zr2 rfl rfl (zr rfl (iteD (λc3=>?_) (λc3=>?_)))))
  ·refine (zr rfl (zr2 rfl rfl ⟨⟨by decide,by decide⟩,zr rfl (zr rfl (ixt hb3.book rfl ⟨tm,zr rfl ⟨.inr (SqT.of hb3.meets),zr2 rfl rfl (zr2 rfl rfl ⟨⟨by decide,by decide⟩,by show 2<=sizeLine;omega,λl hl=>(zr rfl ?_)⟩)⟩⟩))⟩))
   have gx:=gg3.new (o:=HO.lst [V.int (d / 2),V.int ((d + ((ps.map λa=>V.ref a.1).length:Int)) / 2)]) hl
   have hx:=hb3.tups (Tups.new (o:=HO.lst [V.int (d / 2),V.int ((d + ((ps.map λa=>V.ref a.1).length:Int)) / 2)]) hl)
   obtain ⟨k,ek,hk⟩:∃ k:Nat,atI [V.int (d / 2),V.int ((d + ((ps.map λa=>V.ref a.1).length:Int)) / 2)] j=some (V.int (k:Int))/\k < ps.length:=by
    rcases hj with rfl | rfl
    ·obtain ⟨k,hk⟩:=zM (show 0<=d / 2 by omega)
     exact ⟨k,by rw [<-hk];rfl,by omega⟩
    ·obtain ⟨k,hk⟩:=zM (show 0<=(d + ((ps.map λa=>V.ref a.1).length:Int)) / 2 by omega)
     refine ⟨k,by rw [<-hk];rfl,?_⟩
     rw [zA] at hk
     omega
   refine (ixl xJ ek ?_)
   refine (zr rfl (ixt hx.book rfl (zr rfl (ixt hx.meets (xj (v:=V.ref ps[k].1) (by simp [hk])) (ixt (hx.rows _ (zi hk)) rfl ⟨by show 2<=sizeLine;omega,λl9 hl9=>?_⟩)))))
   have g9:=gx.new (o:=HO.lst [V.int 1,V.int 0]) hl9
   refine (zr rfl ⟨p,zr rfl ⟨by decide,by decide,g9.2,λe H9 e0 e1 g10=>(zr2 rfl rfl ⟨⟨by decide,by decide⟩,zr rfl (zr2 rfl rfl ?_)⟩)⟩⟩)
   have h9:=g10.1 l9 _ (gx.2.ne hl9) xJ
   have tb:=gd.at (zi hk)
   have bx:(e / 3=0\/e / 3=1):=by omega
   rcases hj with rfl | rfl <;> rcases bx with bx | bx <;> rw [bx]
   ·exact (ixl h9 (by decide:atI [V.int 1,V.int 0] (Builtin.bitXor 0 0)=some (V.int 1)) (zr2 rfl rfl (q _ _ (by omega) (by omega) (g9.trans g10))))
   ·exact (ixl h9 (by decide:atI [V.int 1,V.int 0] (Builtin.bitXor 1 0)=some (V.int 0)) (zr2 rfl rfl (q _ _ (by omega) (by omega) (g9.trans g10))))
   ·exact (ixl h9 (by decide:atI [V.int 1,V.int 0] (Builtin.bitXor 0 1)=some (V.int 0)) (zr2 rfl rfl (q _ _ (by omega) (by omega) (g9.trans g10))))
   ·exact (ixl h9 (by decide:atI [V.int 1,V.int 0] (Builtin.bitXor 1 1)=some (V.int 1)) (zr2 rfl rfl (q _ _ (by omega) (by omega) (g9.trans g10))))
  ·have gx:=gg3
   have hx:=hb3
   obtain ⟨k,rfl⟩:=zM d0
   have hk:k < ps.length:=by omega
   refine (zr rfl (ixt hx.book rfl (zr rfl (ixt hx.meets (xj (v:=V.ref ps[k].1) (by simp [hk])) (ixt (hx.rows _ (zi hk)) rfl ⟨by show 2<=sizeLine;omega,λl9 hl9=>?_⟩)))))
   have g9:=gx.new (o:=HO.lst [V.int 1,V.int 0]) hl9
   refine (zr rfl ⟨p,zr rfl ⟨by decide,by decide,g9.2,λe H9 e0 e1 g10=>(zr2 rfl rfl ⟨⟨by decide,by decide⟩,zr rfl (zr2 rfl rfl ?_)⟩)⟩⟩)
   have h9:=g10.1 l9 _ (gx.2.ne hl9) xJ
   have tb:=gd.at (zi hk)
   have bx:(e / 3=0\/e / 3=1):=by omega
   rcases hj with rfl | rfl <;> rcases bx with bx | bx <;> rw [bx]
   ·exact (ixl h9 (by decide:atI [V.int 1,V.int 0] (Builtin.bitXor 0 0)=some (V.int 1)) (zr2 rfl rfl (q _ _ (by omega) (by omega) (g9.trans g10))))
   ·exact (ixl h9 (by decide:atI [V.int 1,V.int 0] (Builtin.bitXor 1 0)=some (V.int 0)) (zr2 rfl rfl (q _ _ (by omega) (by omega) (g9.trans g10))))
   ·exact (ixl h9 (by decide:atI [V.int 1,V.int 0] (Builtin.bitXor 0 1)=some (V.int 0)) (zr2 rfl rfl (q _ _ (by omega) (by omega) (g9.trans g10))))
   ·exact (ixl h9 (by decide:atI [V.int 1,V.int 0] (Builtin.bitXor 1 1)=some (V.int 1)) (zr2 rfl rfl (q _ _ (by omega) (by omega) (g9.trans g10))))
theorem FN:FnScope ["_law_purse_here", "_law_book_here", "_law_walkers", "_law_sender", "_law_wish", "_law_since"] ["_law_purse_here", "_law_book_here"] (defScope EU):=⟨rfl,rfl,rfl,by decide +kernel,rfl,by decide +kernel,by decide +kernel⟩
theorem JU (T:Tx K mg a t_MOST_TOKENS):FnOk P w K mg base CX0 4 a.Bm a.Cb ["_law_purse_here", "_law_book_here"] (spLetter):=by
 have Ab:=@xp P w _ _ base _ _ T
 have Jy:=@Lq P w _ _ base _ _ T
 refine T.BF.ok FN (λvs H Q E h=>?_) (λcdv A outer s H vs Q E hr h=>?_)
 ·obtain ⟨p,b,_,_,_,_,rfl,_⟩:=h;rfl
 ·have nd:=FN.nd
  have hu:=hr.units
  obtain ⟨p,b,rooms,tr,tm,ps,rfl,hb,r1,r2,gd,hp,q⟩:=h
  refine ⟨_,(xL (xZ (xf (i:=2) nd rfl (by first | exact Or.inl rfl | exact Or.inr rfl) (xS (xQ rfl) (by rfl) T.b_len PySem.boot_len (xG (xH (xU (xW rfl) (pv 1) xI (λ_ _=>rfl)) xN rfl)))) (xZ (xf (i:=3) nd rfl (by first | exact Or.inl rfl | exact Or.inr rfl) (xP Ab (hr.mono (by decide)) rfl T.Ac T.Ae T.Af .nil pass0 (xG (xH (pv 0) (xH (pv 2) xN rfl) rfl)))) (xZ (xf (i:=4) nd rfl (by first | exact Or.inl rfl | exact Or.inr rfl) (xP Ab (hr.mono (by decide)) rfl T.Ac T.Ae T.Af .nil pass0 (xG (xH (pv 0) (xH (pv 2) xN rfl) rfl)))) (xZ (xi (PW.pt (pw_and (xb wM (pv 3) (pv 4) (nomark _)) (wa (xb op_gt (xP Ab (hr.mono (by decide)) rfl T.Ac T.Ae T.Af .nil pass0 (xG (xH (pv 0) (xH xI xN rfl) rfl))) xI (nomark _))))) (xL (xg (xf (i:=4) nd rfl (by first | exact Or.inl rfl | exact Or.inr rfl) (xh op_mod (xh xr (pv 4) xI) (pv 2))))) xX) (xZ (xf (i:=5) nd rfl (by first | exact Or.inl rfl | exact Or.inr rfl) (xP Jy (hr.mono (by decide)) rfl T.Jn T.Jr T.Ju .nil pass0 (xG (xH (pv 0) (xH (pv 1) (xH xI xN rfl) rfl) rfl)))) (xg (xY (wF (xG (xH (pv 3) (xH (pv 5) (xH (pv 4) (xH (xP Jy (hr.mono (by decide)) rfl T.Jn T.Jr T.Ju .nil pass0 (xG (xH (pv 0) (xH (pv 1) (xH xI xN rfl) rfl) rfl))) xN rfl) rfl) rfl) rfl))))))))))),?_⟩
  have line:=line9
  have e200:(2:Int) ^ 200 > 10000:=by decide
  have rl:(rooms.map V.int).length=rooms.length:=zA _
  have fin:∀ s w:Int,0<=s->s < rooms.length->0<=w->w < rooms.length->∀ H3,Go p H H3->spTimeOf [.ref p,.ref b,.int 0] H3 (λx H4=>spTimeOf [.ref p,.ref b,.int 1] H4 (λy H5=>4<=sizeLine/\∀ t,H5 t=none->Q (.ref t) (upd H5 t (.tup [.int s,x,.int w,y]))) E0) E0:=by
   intro s w s0 s1 w0 w1 H3 g3
   have hb3:=hb.tups (g3.tups hp)
   refine (ex7 p b 0 rooms tr tm ps ⟨rfl,.inl rfl,hb3,gd,g3.2,λx H4 x0 x1 g4=>?_⟩)
   exact (ex7 p b 1 rooms tr tm ps ⟨rfl,.inr rfl,hb3.tups (g4.tups g3.2),gd,g4.2,λy H5 y0 y1 g5=>⟨by omega,λt ht=>q t s x w y _ ((g3.trans (g4.trans g5)).new ht) xJ s0 s1 w0 w1 x0 x1 y0 y1⟩⟩)
  refine (zr rfl (ixt hb.book rfl ⟨tr,zr rfl ⟨.inr (SqT.of hb.rooms),?_⟩⟩))
  refine (zr rfl (zr rfl ⟨p,zr rfl ⟨by omega,by omega,hp,λs H1 s0 s1 g1=>(zr rfl (zr rfl ⟨p,zr rfl ⟨by omega,by omega,g1.2,λw H2 w0 w1 g2=>?_⟩⟩))⟩⟩))
  refine (zr rfl (zr rfl ⟨rfl,zr rfl (iteD (λc=>?_) (λc=>iteB0 rfl ?_))⟩))
  ·refine (zr rfl ⟨p,zr rfl ⟨by decide,by decide,g2.2,λe H3 e0 e1 g3=>(zr2 rfl rfl (zr rfl (iteD (λc2=>?_) (λc2=>?_))))⟩⟩)
   ·refine (zr rfl (zr2 rfl rfl (zr rfl (zr2 rfl rfl ⟨by omega,?_⟩))))
    have:=fin s ((w + 1) % (((rooms.map V.int).length:Nat):Int)) s0 (by omega) (yr _ (by omega)) (by have:=yY (w + 1) (show (0:Int) < ((rooms.map V.int).length:Nat) by omega);omega) H3 (g1.trans (g2.trans g3))
    simp only [gTup,gCons,gNil,tYes,tBM,rAppend,gSub,tAugS,ipI,rU,rIxL,rIxT,rSetL,tSeq,tAsg,tIfS,tRet,tOp,tUn,rI0,rI,tVar,tC,gName,tCall,tCB,tCons,tNil,tAndV,tOrV,tNotV,tNext,tTest,tB,tNot,tAnd,tOr,tDrop,rEq,rNe,scal,tChain,tTup,tLst,tSl,tNoPart,tPart,cxOf,L2.start,zf,xC,zg,yc,Nat.reduceAdd,Nat.reduceSub,List.replicate,List.cons_append,List.nil_append,zj,List.getElem?_cons_zero,List.getElem?_cons_succ,Option.some.injEq,exists_eq_left',exists_eq_left,exists_and_left,and_assoc,V.int.injEq,V.ty.injEq,V.str.injEq,V.bl.injEq,V.ref.injEq,List.cons.injEq,and_true,true_and,List.set_cons_zero,List.set_cons_succ]
    exact this
   ·have:=fin s w s0 (by omega) w0 (by omega) H3 (g1.trans (g2.trans g3))
    simp only [gTup,gCons,gNil,tYes,tBM,rAppend,gSub,tAugS,ipI,rU,rIxL,rIxT,rSetL,tSeq,tAsg,tIfS,tRet,tOp,tUn,rI0,rI,tVar,tC,gName,tCall,tCB,tCons,tNil,tAndV,tOrV,tNotV,tNext,tTest,tB,tNot,tAnd,tOr,tDrop,rEq,rNe,scal,tChain,tTup,tLst,tSl,tNoPart,tPart,cxOf,L2.start,zf,xC,zg,yc,Nat.reduceAdd,Nat.reduceSub,List.replicate,List.cons_append,List.nil_append,zj,List.getElem?_cons_zero,List.getElem?_cons_succ,Option.some.injEq,exists_eq_left',exists_eq_left,exists_and_left,and_assoc,V.int.injEq,V.ty.injEq,V.str.injEq,V.bl.injEq,V.ref.injEq,List.cons.injEq,and_true,true_and,List.set_cons_zero,List.set_cons_succ]
    exact this
  ·have:=fin s w s0 (by omega) w0 (by omega) H2 (g1.trans g2)
   simp only [gTup,gCons,gNil,tYes,tBM,rAppend,gSub,tAugS,ipI,rU,rIxL,rIxT,rSetL,tSeq,tAsg,tIfS,tRet,tOp,tUn,rI0,rI,tVar,tC,gName,tCall,tCB,tCons,tNil,tAndV,tOrV,tNotV,tNext,tTest,tB,tNot,tAnd,tOr,tDrop,rEq,rNe,scal,tChain,tTup,tLst,tSl,tNoPart,tPart,cxOf,L2.start,zf,xC,zg,yc,Nat.reduceAdd,Nat.reduceSub,List.replicate,List.cons_append,List.nil_append,zj,List.getElem?_cons_zero,List.getElem?_cons_succ,Option.some.injEq,exists_eq_left',exists_eq_left,exists_and_left,and_assoc,V.int.injEq,V.ty.injEq,V.str.injEq,V.bl.injEq,V.ref.injEq,List.cons.injEq,and_true,true_and,List.set_cons_zero,List.set_cons_succ]
   exact this
theorem Gw:FnScope ["_law_thing"] ["_law_thing"] (defScope Fd):=⟨rfl,rfl,rfl,by decide +kernel,rfl,by decide +kernel,by decide +kernel⟩
theorem GB (T:Tx K mg a t_MOST_TOKENS):FnOk P w K mg base CX0 1 a.BA a.CP ["_law_thing"] (spWhole):=by
 refine T.B6.ok Gw (λvs H Q E h=>?_) (λcdv A outer s H vs Q E hr h=>?_)
 ·obtain ⟨x,t,rfl,_⟩:=h;rfl
 ·have nd:=Gw.nd
  have hu:=hr.units
  obtain ⟨x,t,rfl,ht,k⟩:=h
  refine ⟨_,(xL (xg (xY (pe_and (xS (xq) (by rfl) T.b_isinstance zR (xG (xH (pv 0) (xH (wU (v:=V.ty "int") rfl T.b_int yZ rfl) xN rfl) rfl))) (pe_one (pe_not (xS (xq) (by rfl) T.b_isinstance zR (xG (xH (pv 0) (xH (wU (v:=V.ty "bool") rfl T.b_bool PyProof.Rows.boot_bool rfl) xN rfl) rfl))))))))),?_⟩
  refine (zr rfl ⟨x,t, "int", rfl,ht,.inl rfl,zr rfl ?_⟩)
  rcases tyS_six ht with rfl | rfl | rfl | rfl | rfl | rfl | rfl <;> first | exact iteB0 rfl k | exact iteB1 rfl ⟨_,rfl,x,_, "bool", rfl,ht,.inr (.inl rfl),_,rfl,k⟩
theorem FB:FnScope ["_law_purse_here", "_law_book_here", "_law_many"] ["_law_purse_here", "_law_book_here"] (defScope wj):=⟨rfl,rfl,rfl,by decide +kernel,rfl,by decide +kernel,by decide +kernel⟩
theorem JD (T:Tx K mg a t_MOST_TOKENS):FnOk P w K mg base CX0 5 a.A3 a.BL ["_law_purse_here", "_law_book_here"] (spLetters47):=by
 have Ab:=@xp P w _ _ base _ _ T
 have Lb:=@JU P w _ _ base _ _ T
 refine T.Bv.ok FB (λvs H Q E h=>?_) (λcdv A outer s H vs Q E hr h=>?_)
 ·obtain ⟨_,_,_,_,_,_,rfl,_⟩:=h;rfl
 ·have nd:=FB.nd
  have hu:=hr.units
  obtain ⟨p,b,rooms,tr,tm,ps,rfl,hb,r1,r2,gd,pu,q⟩:=h
  refine ⟨_,(xL (xZ (xf (i:=2) nd rfl (by first | exact Or.inl rfl | exact Or.inr rfl) (xP Ab (hr.mono (by decide)) rfl T.Ac T.Ae T.Af .nil pass0 (xG (xH (pv 0) (xH xI xN rfl) rfl)))) (xZ (xi (xb wM (xP Ab (hr.mono (by decide)) rfl T.Ac T.Ae T.Af .nil pass0 (xG (xH (pv 0) (xH xI xN rfl) rfl))) xI (nomark _)) (xL (xg (xf (i:=2) nd rfl (by first | exact Or.inl rfl | exact Or.inr rfl) (xP Ab (hr.mono (by decide)) rfl T.Ac T.Ae T.Af .nil pass0 (xG (xH (pv 0) (xH xI xN rfl) rfl)))))) xX) (xg (xY (wf (own:=["_law_k"]) (caps:=[0,1]) rfl (show CompScope ["_law_k"] [0,1] ["_law_purse_here", "_law_book_here", "_law_many"] (defScope wj) _ from ⟨rfl,by decide +kernel,by decide +kernel,by decide +kernel,by decide +kernel⟩) (wN rfl T.b_range (xG (xH (pv 2) xN rfl))) (λ_ _ _ _=>(xR (i:=0) (show List.Nodup (["_law_k", "_law_purse_here", "_law_book_here"]:List Str) from by decide +kernel) rfl (by first | exact Or.inl rfl | exact Or.inr rfl))) (λ_ _ _ _=>we) (λ_ _ _ _=>(xP Lb (hr.mono (by decide)) rfl T.KU T.KZ T.K2 .nil pass0 (xG (xH (pv 1) (xH (pv 2) xN rfl) rfl)))))))))),?_⟩
  have line:=line9
  refine (zr rfl ⟨p,7,rfl,by decide,by decide,pu,λd1 H1 d0 d7 g1=>?_⟩)
  refine (zr rfl ⟨p,8,rfl,by decide,by decide,g1.2,λd2 H2 e0 e8 g2=>⟨rfl,zr rfl (iteB (λc=>?_) (λc=>?_))⟩⟩)
  ·refine (zr rfl ⟨p,41,rfl,by decide,by decide,(g1.trans g2).2,λd3 H3 f0 f41 g3=>?_⟩)
   have G:=(g1.trans g2).trans g3
   obtain ⟨n,rfl⟩:=zM f0
   refine (zr rfl ⟨n,rfl,by omega,by omega,?_⟩)
   refine comp_range (lo:=0) (m:=n) (λi τ acc H5=>∃ ls:List (Addr×L4),(∃ t0,τ=[t0,some (.ref p),some (.ref b)])/\acc=(ls.map λx=>V.ref x.1)/\ls.length=i/\Go p H H5/\∀ x∈ls,H5 x.1=some (.tup (letRow x.2))/\x.2.s < rooms.length/\x.2.w < rooms.length) ⟨[],⟨_,rfl⟩,rfl,rfl,G,λ_ h=>nomatch h⟩ (by omega) ?_ ?_ ?_
   ·rintro i τ acc H5 ⟨ls,_,rfl,rfl,_⟩
    rw [zA];exact zK _
   ·rintro i τ acc H5 C hi ⟨ls,⟨t0,rfl⟩,rfl,li,G5,hr5⟩ hC
    have hb5:=hb.tups (G5.tups pu)
    refine (zr rfl (zr rfl (ex6 p b rooms tr tm ps ⟨rfl,hb5,r1,r2,gd,G5.2,λt s a w z H6 g6 ht s0 s1 w0 w1 _ _ _ _=>?_⟩)))
    obtain ⟨s,rfl⟩:=zM s0
    obtain ⟨w,rfl⟩:=zM w0
    refine hC _ _ _ ⟨ls++[(t,⟨s,w,a,z⟩)],⟨_,rfl⟩,by rw [zQ];rfl,by rw [zW,li];rfl,G5.trans g6,λx hx=>?_⟩
    rcases ze.mp hx with hx | hx
    ·exact ⟨g6.tups G5.2 _ _ (hr5 x hx).1,(hr5 x hx).2⟩
    ·cases zN.mp hx
     exact ⟨ht,(by show s < _;omega),(by show w < _;omega)⟩
   ·rintro τ acc H5 ⟨ls,⟨t0,rfl⟩,rfl,li,G5,hr5⟩ lc hlc
    have s6:=xM (o:=HO.lst (ls.map λx=>V.ref x.1)) hlc
    exact q lc ls _ (G5.same s6) xJ (λx hx=>s6 _ _ (hr5 x hx).1) (by omega) (G5.2.ne hlc) (λx hx=>(hr5 x hx).2)
  ·have G:=g1.trans g2
   obtain ⟨n,rfl⟩:=zM d0
   refine (zr rfl ⟨n,rfl,by omega,by omega,?_⟩)
   refine comp_range (lo:=0) (m:=n) (λi τ acc H5=>∃ ls:List (Addr×L4),(∃ t0,τ=[t0,some (.ref p),some (.ref b)])/\acc=(ls.map λx=>V.ref x.1)/\ls.length=i/\Go p H H5/\∀ x∈ls,H5 x.1=some (.tup (letRow x.2))/\x.2.s < rooms.length/\x.2.w < rooms.length) ⟨[],⟨_,rfl⟩,rfl,rfl,G,λ_ h=>nomatch h⟩ (by omega) ?_ ?_ ?_
   ·rintro i τ acc H5 ⟨ls,_,rfl,rfl,_⟩
    rw [zA];exact zK _
   ·rintro i τ acc H5 C hi ⟨ls,⟨t0,rfl⟩,rfl,li,G5,hr5⟩ hC
    have hb5:=hb.tups (G5.tups pu)
    refine (zr rfl (zr rfl (ex6 p b rooms tr tm ps ⟨rfl,hb5,r1,r2,gd,G5.2,λt s a w z H6 g6 ht s0 s1 w0 w1 _ _ _ _=>?_⟩)))
    obtain ⟨s,rfl⟩:=zM s0
    obtain ⟨w,rfl⟩:=zM w0
    refine hC _ _ _ ⟨ls++[(t,⟨s,w,a,z⟩)],⟨_,rfl⟩,by rw [zQ];rfl,by rw [zW,li];rfl,G5.trans g6,λx hx=>?_⟩
    rcases ze.mp hx with hx | hx
    ·exact ⟨g6.tups G5.2 _ _ (hr5 x hx).1,(hr5 x hx).2⟩
    ·cases zN.mp hx
     exact ⟨ht,(by show s < _;omega),(by show w < _;omega)⟩
   ·rintro τ acc H5 ⟨ls,⟨t0,rfl⟩,rfl,li,G5,hr5⟩ lc hlc
    have s6:=xM (o:=HO.lst (ls.map λx=>V.ref x.1)) hlc
    exact q lc ls _ (G5.same s6) xJ (λx hx=>s6 _ _ (hr5 x hx).1) (by omega) (G5.2.ne hlc) (λx hx=>(hr5 x hx).2)
theorem Jg:FnScope ["thing"] ["thing"] (defScope GE):=⟨rfl,rfl,rfl,by decide +kernel,rfl,by decide +kernel,by decide +kernel⟩
theorem Jl (T:Tx K mg a t_MOST_TOKENS):FnOk P w K mg base CX0 1 a.Cr a.DK ["thing"] (spWhole):=by
 refine T.Da.ok Jg (λvs H Q E h=>?_) (λcdv A outer s H vs Q E hr h=>?_)
 ·obtain ⟨x,t,rfl,_⟩:=h;rfl
 ·have nd:=Jg.nd
  have hu:=hr.units
  obtain ⟨x,t,rfl,ht,k⟩:=h
  refine ⟨_,(xL (xg (xY (pe_and (xS (xq) (by rfl) T.b_isinstance zR (xG (xH (pv 0) (xH (wU (v:=V.ty "int") rfl T.b_int yZ rfl) xN rfl) rfl))) (pe_one (pe_not (xS (xq) (by rfl) T.b_isinstance zR (xG (xH (pv 0) (xH (wU (v:=V.ty "bool") rfl T.b_bool PyProof.Rows.boot_bool rfl) xN rfl) rfl))))))))),?_⟩
  refine (zr rfl ⟨x,t, "int", rfl,ht,.inl rfl,zr rfl ?_⟩)
  rcases tyS_six ht with rfl | rfl | rfl | rfl | rfl | rfl | rfl <;> first | exact iteB0 rfl k | exact iteB1 rfl ⟨_,rfl,x,_, "bool", rfl,ht,.inr (.inl rfl),_,rfl,k⟩
theorem G8:FnScope ["thing", "least", "most"] ["thing", "least", "most"] (defScope FQ):=⟨rfl,rfl,rfl,by decide +kernel,rfl,by decide +kernel,by decide +kernel⟩
theorem D5 (T:Tx K mg a t_MOST_TOKENS):FnOk P w K mg base CX0 2 a.BU a.Dg ["thing", "least", "most"] (spWithin):=by
 have G6:=@Jl P w _ _ base _ _ T
 refine T.Cz.ok G8 (λvs H Q E h=>?_) (λcdv A outer s H vs Q E hr h=>?_)
 ·obtain ⟨x,t,lo,hi,rfl,_⟩:=h;rfl
 ·have nd:=G8.nd
  have hu:=hr.units
  obtain ⟨x,t,lo,hi,rfl,ht,k⟩:=h
  refine ⟨_,(xL (xg (xY (pe_and (xP G6 (hr.mono (by decide)) rfl T.JX T.J9 T.Kd .nil pass0 (xG (xH (pv 0) xN rfl))) (pe_one (pe_chain op_le op_le (pv 1) (pv 0) (pv 2))))))),?_⟩
  refine (zr rfl ⟨x,t,rfl,ht,zr rfl ?_⟩)
  by_cases h:t = "int"
  ·subst h
   obtain ⟨i,rfl⟩:=tyS_int ht
   refine iteB1 rfl (zr rfl (zr rfl (zr2 rfl rfl (zr rfl ?_))))
   have k:Q (.bl (decide (lo<=i) && decide (i<=hi))) H:=k
   by_cases h1:lo<=i
   ·rw [decide_eq_true h1] at k ⊢
    exact iteB1 rfl (zr rfl (zr2 rfl rfl k))
   ·rw [decide_eq_false h1] at k ⊢
    exact iteB0 rfl k
  ·rw [inB_no ht h] at k
   exact iteB0 (by simpa using h) k
theorem Jh:FnScope ["number", "bound"] ["number", "bound"] (defScope GF):=⟨rfl,rfl,rfl,by decide +kernel,rfl,by decide +kernel,by decide +kernel⟩
theorem LY (T:Tx K mg a t_MOST_TOKENS):FnOk P w K mg base CX0 1 a.Cs a.DL ["number", "bound"] (spBelow):=by
 refine T.Db.ok Jh (λvs H Q E h=>?_) (λcdv A outer s H vs Q E hr h=>?_)
 ·obtain ⟨o,t,rfl,_⟩:=h;rfl
 ·have nd:=Jh.nd
  have hu:=hr.units
  obtain ⟨o,t,rfl,q⟩:=h
  refine ⟨_,(xL (xg (xY (pe_and (pe_cmp (pc_notN (pv 0))) (pe_one (pe_cmpR op_lt (pv 0) (pv 1) (nomark _))))))),?_⟩
  cases o with
  | none=>exact (zr rfl (zr rfl (iteB0 rfl q)))
  | some y=>exact (zr rfl (zr rfl (iteB1 rfl (zr rfl (zr rfl (zr2 rfl rfl q))))))
theorem DT:FnScope ["book", "thing"] ["book", "thing"] (defScope wQ):=⟨rfl,rfl,rfl,by decide +kernel,rfl,by decide +kernel,by decide +kernel⟩
theorem FZ (T:Tx K mg a t_MOST_TOKENS):FnOk P w K mg base CX0 3 a.Au a.AU ["book", "thing"] (spIsMeetNo):=by
 have Cw:=@D5 P w _ _ base _ _ T
 refine T.AC.ok DT (λvs H Q E h=>?_) (λcdv A outer s H vs Q E hr h=>?_)
 ·obtain ⟨b,x,t,_,_,_,_,rfl,_⟩:=h;rfl
 ·have nd:=DT.nd
  have hu:=hr.units
  obtain ⟨b,x,t,rooms,tr,tm,ps,rfl,hb,ht,q⟩:=h
  refine ⟨_,(xL (xg (xY (xP Cw (hr.mono (by decide)) rfl T.EJ T.EK T.EL .nil pass0 (xG (xH (pv 1) (xH xI (xH (xh op_sub (xS (xQ rfl) (by rfl) T.b_len PySem.boot_len (xG (xH (xU (xW rfl) (pv 0) xI (λ_ _=>rfl)) xN rfl))) xI) xN rfl) rfl) rfl)))))),?_⟩
  refine (zr rfl (zr rfl (ixt hb.book rfl ⟨tm,zr rfl ⟨.inr (SqT.of hb.meets),zr2 rfl rfl ⟨x,t,zr1 rfl ⟨ht,?_⟩⟩⟩⟩)))
  rw [zA]
  exact q
theorem G9:FnScope ["book", "thing"] ["book", "thing"] (defScope FR):=⟨rfl,rfl,rfl,by decide +kernel,rfl,by decide +kernel,by decide +kernel⟩
theorem Lp (T:Tx K mg a t_MOST_TOKENS):FnOk P w K mg base CX0 3 a.BV a.Dh ["book", "thing"] (spIsWalker):=by
 have Cw:=@D5 P w _ _ base _ _ T
 refine T.CB.ok G9 (λvs H Q E h=>?_) (λcdv A outer s H vs Q E hr h=>?_)
 ·obtain ⟨b,x,t,_,_,_,_,rfl,_⟩:=h;rfl
 ·have nd:=G9.nd
  have hu:=hr.units
  obtain ⟨b,x,t,rooms,tr,tm,ps,rfl,hb,ht,q⟩:=h
  refine ⟨_,(xL (xg (xY (xP Cw (hr.mono (by decide)) rfl T.EJ T.EK T.EL .nil pass0 (xG (xH (pv 1) (xH xI (xH (xh op_sub (xS (xQ rfl) (by rfl) T.b_len PySem.boot_len (xG (xH (xU (xW rfl) (pv 0) xI (λ_ _=>rfl)) xN rfl))) xI) xN rfl) rfl) rfl)))))),?_⟩
  refine (zr rfl (zr rfl (ixt hb.book rfl ⟨tr,zr rfl ⟨.inr (SqT.of hb.rooms),zr2 rfl rfl ⟨x,t,zr1 rfl ⟨ht,?_⟩⟩⟩⟩)))
  rw [zA]
  exact q
theorem Je:FnScope ["book", "number", "walker", "one", "other", "when", "many"] ["book", "number", "walker"] (defScope GD):=⟨rfl,rfl,rfl,by decide +kernel,rfl,by decide +kernel,by decide +kernel⟩
theorem FY (T:Tx K mg a t_MOST_TOKENS):FnOk P w K mg base CX0 1 a.Cp a.DI ["book", "number", "walker"] (spOtherAt):=by
 refine T.C8.ok Je (λvs H Q E h=>?_) (λcdv A outer s H vs Q E hr h=>?_)
 ·obtain ⟨b,k,v,_,_,_,_,_,rfl,_⟩:=h;rfl
 ·have nd:=Je.nd
  have hu:=hr.units
  obtain ⟨b,k,v,rooms,tr,tm,ps,m,rfl,hb,hm,q⟩:=h
  refine ⟨_,(xL (xZ (wW (xU (xW rfl) (xU (xW rfl) (pv 0) xI (λ_ _=>rfl)) (pv 1) (λ_ _=>rfl)) (xz (n:=4) rfl rfl (xT (xR (i:=3) nd rfl (by first | exact Or.inl rfl | exact Or.inr rfl)) (xT (xR (i:=4) nd rfl (by first | exact Or.inl rfl | exact Or.inr rfl)) (xT (xR (i:=5) nd rfl (by first | exact Or.inl rfl | exact Or.inr rfl)) (xT (xR (i:=6) nd rfl (by first | exact Or.inl rfl | exact Or.inr rfl)) xy)))))) (xg (xY (pe_ifExp (xb wM (pv 2) (pv 3) (nomark _)) (pv 4) (pv 3)))))),?_⟩
  have hk:k < ps.length:=by
   have:=(zB.mp hm).1
   simpa using this
  have em:ps[k].2=m:=by
   rw [zC,zE hk] at hm
   exact Option.some.inj hm
  have hrow:=hb.rows _ (zi hk)
  rw [em] at hrow
  refine (zr rfl (ixt hb.book rfl (zr rfl (ixt hb.meets (xj (v:=V.ref ps[k].1) (by simp [hk])) (un4 hrow ?_)))))
  refine (zr rfl (zr rfl ⟨rfl,zr rfl (iteD (λc=>?_) (λc=>?_))⟩))
  ·rw [if_pos (V.int.inj c)] at q
   exact (zr rfl q)
  ·rw [if_neg λz=>c (by rw [z])] at q
   exact (zr rfl q)
theorem Jf:FnScope ["book", "walker", "number"] ["book", "walker", "number"] (defScope Fb):=⟨rfl,rfl,rfl,by decide +kernel,rfl,by decide +kernel,by decide +kernel⟩
theorem LX (T:Tx K mg a t_MOST_TOKENS):FnOk P w K mg base CX0 1 a.Cq a.DJ ["book", "walker", "number"] (spLone):=by
 refine T.C9.ok Jf (λvs H Q E h=>?_) (λcdv A outer s H vs Q E hr h=>?_)
 ·obtain ⟨b,k,x,_,_,_,_,rfl,_⟩:=h;rfl
 ·have nd:=Jf.nd
  have hu:=hr.units
  obtain ⟨b,k,x,rooms,tr,tm,ps,rfl,hb,hn,q⟩:=h
  refine ⟨_,(xL (xg (xY (wf (own:=["other"]) (caps:=[2,1]) rfl (show CompScope ["other"] [2,1] ["book", "walker", "number"] (defScope Fb) _ from ⟨rfl,by decide +kernel,by decide +kernel,by decide +kernel,by decide +kernel⟩) (wN rfl T.b_range (xG (xH (xS (xQ rfl) (by rfl) T.b_len PySem.boot_len (xG (xH (xU (xW rfl) (pv 0) xI (λ_ _=>rfl)) xN rfl))) xN rfl))) (λ_ _ _ _=>(xR (i:=0) (show List.Nodup (["other", "number", "walker"]:List Str) from by decide +kernel) rfl (by first | exact Or.inl rfl | exact Or.inr rfl))) (λ_ _ _ _=>we) (λ_ _ _ _=>(pe_ifExp (xb wM (pv 0) (pv 2) (nomark _)) (pv 1) pe_non)))))),?_⟩
  refine (zr rfl (ixt hb.book rfl ⟨tr,zr rfl ⟨.inr (SqT.of hb.rooms),zr rfl ⟨by rw [zA];omega,by rw [zA];omega,?_⟩⟩⟩))
  refine comp_range (lo:=0) (m:=(rooms.map V.int).length) (λi τ acc H5=>(∃ t0,τ=[t0,some (.int x),some (.int k)])/\acc=(rep i (lone k x)).map oV/\H5=H) ?_ (by rw [zA];omega) ?_ ?_ ?_
  ·exact ⟨⟨_,rfl⟩,rfl,rfl⟩
  ·rintro i τ acc H5 ⟨⟨t0,rfl⟩,rfl,rfl⟩
   rw [zA,rep_len];exact zK _
  ·rintro i τ acc H5 C hi ⟨⟨t0,rfl⟩,rfl,rfl⟩ hC
   have snoc:∀ v,oV (lone k x i)=v->(rep i (lone k x)).map oV++[v]=(rep (i + 1) (lone k x)).map oV:=λv e=>by
    unfold rep
    rw [List.range_succ,zQ,zQ,<- e];rfl
   refine (zr rfl (zr rfl ⟨rfl,zr rfl (iteD (λc=>(zr rfl (hC _ _ _ ⟨⟨_,rfl⟩,snoc _ ?_,rfl⟩))) (λc=>hC _ _ _ ⟨⟨_,rfl⟩,snoc _ ?_,rfl⟩))⟩))
   ·have:i=k:=by have:=V.int.inj c;omega
    unfold lone
    rw [if_pos this];rfl
   ·have:i≠k:=λz=>c (by rw [z];simp)
    unfold lone
    rw [if_neg this];rfl
  ·rintro τ acc H5 ⟨⟨t0,rfl⟩,rfl,rfl⟩ l hl
   rw [zA]
   exact q l _ hl (xM hl) xJ
theorem Ei:FnScope ["self"] ["self"] (defScope wl):=⟨rfl,rfl,rfl,by decide +kernel,rfl,by decide +kernel,by decide +kernel⟩
theorem GO (T:Tx K mg a t_MOST_TOKENS):FnOk P w K mg base CX0 1 a.Ar a.Bj ["self"] (spInitA):=by
 refine T.AO.ok Ei (λvs H Q E h=>?_) (λcdv A outer s H vs Q E hr h=>?_)
 ·obtain ⟨_,rfl,_⟩:=h;rfl
 ·have nd:=Ei.nd
  have hu:=hr.units
  obtain ⟨x,rfl,q⟩:=h
  refine ⟨_,(xL (xg ps_pass)),?_⟩
  exact q
theorem Eg:FnScope ["self"] ["self"] (defScope wm):=⟨rfl,rfl,rfl,by decide +kernel,rfl,by decide +kernel,by decide +kernel⟩
theorem GN (T:Tx K mg a t_MOST_TOKENS):FnOk P w K mg base CX0 1 a.AH a.Bi ["self"] (spFirst0):=by
 refine T.AN.ok Eg (λvs H Q E h=>?_) (λcdv A outer s H vs Q E hr h=>?_)
 ·obtain ⟨_,rfl,_⟩:=h;rfl
 ·have nd:=Eg.nd
  have hu:=hr.units
  obtain ⟨x,rfl,q⟩:=h
  refine ⟨_,(xL (xg (xY xI))),?_⟩
  exact q
theorem FF:FnScope ["self", "letter", "giver", "other", "tokens"] ["self", "letter", "giver", "other", "tokens"] (defScope Eo):=⟨rfl,rfl,rfl,by decide +kernel,rfl,by decide +kernel,by decide +kernel⟩
theorem JH (T:Tx K mg a t_MOST_TOKENS):FnOk P w K mg base CX0 1 a.A7 a.BP ["self", "letter", "giver", "other", "tokens"] (spShare0):=by
 refine T.Bb.ok FF (λvs H Q E h=>?_) (λcdv A outer s H vs Q E hr h=>?_)
 ·obtain ⟨_,_,_,_,_,rfl,_⟩:=h;rfl
 ·have nd:=FF.nd
  have hu:=hr.units
  obtain ⟨x,l,g,o,t,rfl,q⟩:=h
  refine ⟨_,(xL (xg (xY xI))),?_⟩
  exact q
theorem Ef:FnScope ["self", "tokens"] ["self", "tokens"] (defScope wn):=⟨rfl,rfl,rfl,by decide +kernel,rfl,by decide +kernel,by decide +kernel⟩
theorem GM (T:Tx K mg a t_MOST_TOKENS):FnOk P w K mg base (CXE P w) 3 a.Aq a.Bh ["self", "tokens"] (spInitH a.Ao a.As):=by
 have Cw:=@D5 P w _ _ base _ _ T
 refine T.AM.okE Ef (λvs H Q E h=>?_) (λcdv A outer s H vs Q E hr h=>?_)
 ·obtain ⟨_,_,_,_,rfl,_⟩:=h;rfl
 ·have nd:=Ef.nd
  have hu:=hr.units
  obtain ⟨x,dx,v,t,rfl,hx,ht,q⟩:=h
  refine ⟨_,(xL (xZ (xi (wE (xo (xP Cw (hr.mono (by decide)) rfl T.EJ T.EK T.EL .nil pass0 (xG (xH (pv 1) (xH xI (xH (xt (v:=V.int 64) rfl T.c_MOST_TOKENS ⟨_,rfl⟩) xN rfl) rfl) rfl))))) (xL (xg (wI rfl rfl rfl rfl rfl T.J2 T.E5))) xX) (xg (PS.nox (ps_fld (pv 0) (pv 1) rfl))))),?_⟩
  refine (zr rfl ⟨v,t,zr1 rfl ⟨ht,zr rfl ?_⟩⟩)
  rcases q with ⟨no,q⟩ | ⟨n,rfl,n1,n64,q⟩
  ·exact iteB1 (by rw [no];rfl) q
  ·refine iteB0 (by simp [inB,n1,n64]) (zr rfl (zr rfl ⟨x,_,dx,zr rfl ⟨hx,T.Ia,T.n_Halves_tokens,by decide,?_⟩⟩))
   exact q _ But.set ⟨dx,xJ⟩
theorem Ee:FnScope ["self"] ["self"] (defScope wq):=⟨rfl,rfl,rfl,by decide +kernel,rfl,by decide +kernel,by decide +kernel⟩
theorem GL (T:Tx K mg a t_MOST_TOKENS):FnOk P w K mg base CX0 1 a.AG a.Bg ["self"] (spFirstH a.Ao):=by
 refine T.AL.ok Ee (λvs H Q E h=>?_) (λcdv A outer s H vs Q E hr h=>?_)
 ·obtain ⟨_,_,rfl,_⟩:=h;rfl
 ·have nd:=Ee.nd
  have hu:=hr.units
  obtain ⟨x,n,rfl,⟨dx,hx⟩,q⟩:=h
  refine ⟨_,(xL (xg (xY (xk (pv 0) rfl)))),?_⟩
  exact (zr rfl ⟨x,_,dx,zr1 rfl ⟨hx,T.Ia,T.n_Halves_tokens,rfl,q⟩⟩)
theorem FE:FnScope ["self", "letter", "giver", "other", "tokens"] ["self", "letter", "giver", "other", "tokens"] (defScope En):=⟨rfl,rfl,rfl,by decide +kernel,rfl,by decide +kernel,by decide +kernel⟩
theorem JG (T:Tx K mg a t_MOST_TOKENS):FnOk P w K mg base CX0 1 a.A6 a.BO ["self", "letter", "giver", "other", "tokens"] (spShareH):=by
 refine T.Ba.ok FE (λvs H Q E h=>?_) (λcdv A outer s H vs Q E hr h=>?_)
 ·obtain ⟨_,_,_,_,_,_,_,_,_,rfl,_⟩:=h;rfl
 ·have nd:=FE.nd
  have hu:=hr.units
  obtain ⟨x,lt,g,o,tok,s0,a0,w0,z0,rfl,hl,t0,t64,q⟩:=h
  refine ⟨_,(xL (xZ (xi (xb wM (pv 3) (xU (xW rfl) (pv 1) xI (λ_ _=>rfl)) (nomark _)) (xL (xg (xY xI))) xX) (xg (xY (pe_ifExp (xb op_ge (pv 4) xI (nomark _)) (xh wg (pv 4) xI) pe_non))))),?_⟩
  refine (zr rfl (zr rfl (ixt hl rfl ⟨rfl,zr rfl ?_⟩)))
  unfold halfV at q
  by_cases c:o=w0
  ·rw [if_pos c] at q
   exact iteB1 (by rw [c];simp) q
  ·rw [if_neg c] at q
   refine iteB0 (by simp [c]) (zr rfl (zr2 rfl rfl (zr rfl (iteD (λc2=>?_) (λc2=>?_)))))
   ·rw [if_pos c2] at q
    exact (zr rfl (zr2 rfl rfl ⟨⟨by decide,by decide⟩,q⟩))
   ·rw [if_neg c2] at q
    exact q
theorem G7:FnScope ["book", "one", "other"] ["book", "one", "other"] (defScope EI):=⟨rfl,rfl,rfl,by decide +kernel,rfl,by decide +kernel,by decide +kernel⟩
theorem Lo (T:Tx K mg a t_MOST_TOKENS):FnOk P w K mg base CX0 1 a.BT a.Df ["book", "one", "other"] (spMet):=by
 refine T.Cy.ok G7 (λvs H Q E h=>?_) (λcdv A outer s H vs Q E hr h=>?_)
 ·obtain ⟨_,_,_,_,_,_,_,rfl,_⟩:=h;rfl
 ·have nd:=G7.nd
  have hu:=hr.units
  obtain ⟨b,i0,j0,rooms,tr,tm,ps,rfl,hb,n1,q⟩:=h
  refine ⟨_,(xL (xg (xY (xS (xQ rfl) (by rfl) T.b_len PySem.boot_len (xG (xH (wf (own:=["meeting"]) (caps:=[1,2]) rfl (show CompScope ["meeting"] [1,2] ["book", "one", "other"] (defScope EI) _ from ⟨rfl,by decide +kernel,by decide +kernel,by decide +kernel,by decide +kernel⟩) (pi_tup'' rfl (xU (xW rfl) (pv 0) xI (λ_ _=>rfl))) (λ_ _ _ _=>(xR (i:=0) (show List.Nodup (["meeting", "one", "other"]:List Str) from by decide +kernel) rfl (by first | exact Or.inl rfl | exact Or.inr rfl))) (λ_ _ _ _=>pts_one (xb (op_inT' rfl hu) (pe_slice (sl_tup' rfl) (pv 0) po_none (po_some xI)) (wF (xG (xH (wF (xG (xH (pv 1) (xH (pv 2) xN rfl) rfl))) (xH (wF (xG (xH (pv 2) (xH (pv 1) xN rfl) rfl))) xN rfl) rfl))) rfl)) (λ_ _ _ _=>(pv 0))) xN rfl)))))),?_⟩
  have line:=line9
  refine (zr rfl (ixt hb.book rfl ⟨tm,rfl,⟨_,SqT.of hb.meets⟩,?_⟩))
  refine comp_tup (K:=K) (a:=tm) (xs:=ps.map λa=>V.ref a.1) (λi τ acc H5=>(∃ t0,τ=[t0,some (.int i0),some (.int j0)])/\acc=(((ps.take i).filter λa=>metB i0 j0 a.2).map λa=>V.ref a.1)/\Same H H5) ⟨⟨_,rfl⟩,rfl,Same.refl _⟩ (by rw [zA];exact n1) ?_ ?_ ?_
  ·rintro i τ acc H5 ⟨_,rfl,s5⟩
   exact ⟨by rw [zA];exact zk (List.length_filter_le _ _) (by rw [yV];omega),SqT.of (s5 _ _ hb.meets)⟩
  ·rintro i x τ acc H5 C hx ⟨⟨t0,rfl⟩,rfl,s5⟩ hC
   obtain ⟨r,hr,rfl⟩:=wB hx
   have hrow:H5 r.1=some (.tup [.int r.2.lo,.int r.2.hi,.int r.2.t,.int r.2.m]):=s5 _ _ (hb.rows r (zD hr))
   refine (zr rfl ⟨2,rfl,r.1,zr rfl ⟨SqT.of hrow,(by show ¬ (HT.sIx 4 0 none=0/\HT.sIx 4 4 (some 2)=4);decide),λt1 ht1=>?_⟩⟩)
   have s6:=xM (o:=HO.tup [V.int r.2.lo,V.int r.2.hi]) ht1
   refine (zr rfl (zr rfl ⟨by show 2<=_;omega,λt2 ht2=>(zr rfl (zr rfl ⟨by show 2<=_;omega,λt3 ht3=>⟨by show 2<=_;omega,λt4 ht4=>?_⟩⟩))⟩))
   have s7:=xM (o:=HO.tup [V.int i0,V.int j0]) ht2
   have s8:=xM (o:=HO.tup [V.int j0,V.int i0]) ht3
   have s9:=xM (o:=HO.tup [V.ref t2,V.ref t3]) ht4
   have s59:=(((s5.trans s6).trans s7).trans s8).trans s9
   have k1:=s9 _ _ (s8 _ _ (s7 _ _ (xJ (H:=H5) (a:=t1) (o:=HO.tup [V.int r.2.lo,V.int r.2.hi]))))
   have k2:=s9 _ _ (s8 _ _ (xJ (a:=t2) (o:=HO.tup [V.int i0,V.int j0])))
   have k3:=s9 _ _ (xJ (a:=t3) (o:=HO.tup [V.int j0,V.int i0]))
   refine ⟨1,t4,[(t2,decide ([i0,j0]=[r.2.lo,r.2.hi])),(t3,decide ([j0,i0]=[r.2.lo,r.2.hi]))],by decide,rfl,SqT.of xJ,λx hx=>?_,zr rfl ?_⟩
   ·rcases zV.mp hx with rfl | hx
    ·exact Eqv.rows (f:=V.int) (λ_=>rfl) eqV_int (.inr ⟨k2,k1⟩)
    ·cases zN.mp hx
     exact Eqv.rows (f:=V.int) (λ_=>rfl) eqV_int (.inr ⟨k3,k1⟩)
   ·have ea:([(t2,decide ([i0,j0]=[r.2.lo,r.2.hi])),(t3,decide ([j0,i0]=[r.2.lo,r.2.hi]))]:List (Addr×Bool)).any (·.2)=metB i0 j0 r.2:=by simp [metB]
    rw [ea]
    have sn:=filt_sn (p:=λa=>metB i0 j0 a.2) hr
    cases c:metB i0 j0 r.2 with
    | true=>exact iteB1 rfl (zr rfl (hC _ _ _ ⟨⟨_,rfl⟩,by rw [sn,if_pos c,zQ];rfl,s59⟩))
    | false=>exact iteB0 rfl (hC _ _ _ ⟨⟨_,rfl⟩,by rw [sn,if_neg (by rw [c];exact zG),zj],s59⟩)
  ·rintro τ acc H5 ⟨⟨t0,rfl⟩,rfl,s5⟩ lc hlc
   rw [zA,yX]
   refine ⟨lc,zr rfl ⟨.inl (SqL.of xJ),?_⟩⟩
   rw [zA,<- filt_len]
   exact q _ (s5.trans (xM hlc))
theorem Ed:FnScope ["self", "past"] ["self", "past"] (defScope wr):=⟨rfl,rfl,rfl,by decide +kernel,rfl,by decide +kernel,by decide +kernel⟩
theorem GK (T:Tx K mg a t_MOST_TOKENS):FnOk P w K mg base CX0 1 a.Ap a.Bf ["self", "past"] (spInitN a.Ah):=by
 refine T.AK.ok Ed (λvs H Q E h=>?_) (λcdv A outer s H vs Q E hr h=>?_)
 ·obtain ⟨_,_,_,rfl,_⟩:=h;rfl
 ·have nd:=Ed.nd
  have hu:=hr.units
  obtain ⟨x,dx,b,rfl,hx,q⟩:=h
  refine ⟨_,(xL (xg (ps_fld (pv 0) (pv 1) rfl))),?_⟩
  refine (zr rfl (zr rfl ⟨x,_,dx,zr rfl ⟨hx,T.EE,T.n_Nearer_past,by decide,?_⟩⟩))
  exact q _ But.set ⟨dx,xJ⟩
theorem Ec:FnScope ["self"] ["self"] (defScope wt):=⟨rfl,rfl,rfl,by decide +kernel,rfl,by decide +kernel,by decide +kernel⟩
theorem GJ (T:Tx K mg a t_MOST_TOKENS):FnOk P w K mg base CX0 1 a.AF a.Be ["self"] (spFirst0):=by
 refine T.AJ.ok Ec (λvs H Q E h=>?_) (λcdv A outer s H vs Q E hr h=>?_)
 ·obtain ⟨_,rfl,_⟩:=h;rfl
 ·have nd:=Ec.nd
  have hu:=hr.units
  obtain ⟨x,rfl,q⟩:=h
  refine ⟨_,(xL (xg (xY xI))),?_⟩
  exact q
theorem FD:FnScope ["self", "letter", "giver", "other", "tokens", "wish"] ["self", "letter", "giver", "other", "tokens"] (defScope Em):=⟨rfl,rfl,rfl,by decide +kernel,rfl,by decide +kernel,by decide +kernel⟩
theorem JF (T:Tx K mg a t_MOST_TOKENS):FnOk P w K mg base CX0 2 a.A5 a.BN ["self", "letter", "giver", "other", "tokens"] (spShare a.Ah):=by
 have Jx:=@Lo P w _ _ base _ _ T
 refine T.A9.ok FD (λvs H Q E h=>?_) (λcdv A outer s H vs Q E hr h=>?_)
 ·obtain ⟨_,_,_,_,_,_,_,_,_,_,_,_,_,_,rfl,_⟩:=h;rfl
 ·have nd:=FD.nd
  have hu:=hr.units
  obtain ⟨x,b,lt,g,o,tok,s0,a0,w0,z0,rooms,tr,tm,ps,rfl,⟨dx,hx⟩,hb,n1,hl,q⟩:=h
  refine ⟨_,(xL (xZ (xf (i:=5) nd rfl (by first | exact Or.inl rfl | exact Or.inr rfl) (xU (xW rfl) (pv 1) xI (λ_ _=>rfl))) (xZ (xi (PW.pt (pw_or (xb wM (pv 3) (pv 5) (nomark _)) (pw_or1 (xb op_gt (xP Jx (hr.mono (by decide)) rfl T.Jm T.Jq T.Jt .nil pass0 (xG (xH (xk (pv 0) rfl) (xH (pv 3) (xH (pv 5) xN rfl) rfl) rfl))) (xP Jx (hr.mono (by decide)) rfl T.Jm T.Jq T.Jt .nil pass0 (xG (xH (xk (pv 0) rfl) (xH (pv 2) (xH (pv 5) xN rfl) rfl) rfl))) (nomark _))))) (xL (xg (xY xI))) xX) (xg (xY pe_non))))),?_⟩
  refine (zr rfl (ixt hl rfl ?_))
  by_cases c:o=w0
  ·refine (zr rfl (zr rfl ⟨rfl,zr rfl (iteB1 (by rw [c];simp) (iteB1 rfl ?_))⟩))
   have:=q H (Same.refl _)
   rwa [show shareV (ps.map (·.2)) g o w0=.int 0 from by unfold shareV;rw [if_pos (.inl c)]] at this
  ·refine (zr rfl (zr rfl ⟨rfl,zr rfl (iteB0 (by simp [c]) ?_)⟩))
   refine (zr rfl ⟨x,_,dx,zr1 rfl ⟨hx,T.EE,T.n_Nearer_past,rfl,zr rfl (zr rfl (ex7 b o w0 rooms tr tm ps ⟨rfl,hb,n1,λH1 s1=>?_⟩))⟩⟩)
   refine (zr rfl ⟨x,_,dx,zr1 rfl ⟨s1 _ _ hx,T.EE,T.n_Nearer_past,rfl,zr rfl (zr rfl (ex7 b g w0 rooms tr tm ps ⟨rfl,hb.same s1,n1,λH2 s2=>(zr2 rfl rfl (zr rfl ?_))⟩))⟩⟩)
   have:=q H2 (s1.trans s2)
   by_cases c2:metN (ps.map (·.2)) g w0 < metN (ps.map (·.2)) o w0
   ·rw [show shareV (ps.map (·.2)) g o w0=.int 0 from by unfold shareV;rw [if_pos (.inr c2)]] at this
    exact iteB1 (by simpa using c2) this
   ·rw [show shareV (ps.map (·.2)) g o w0=.non from by unfold shareV;rw [if_neg (by rintro (z | z);exact c z;exact c2 z)]] at this
    exact iteB0 (by simpa using c2) this
theorem Gv:FnScope ["things"] ["things"] (defScope D4):=⟨rfl,rfl,rfl,by decide +kernel,rfl,by decide +kernel,by decide +kernel⟩
theorem GA (T:Tx K mg a t_MOST_TOKENS):FnOk P w K mg base CX0 2 a.Bz a.CO ["things"] (spAreW):=by
 have G6:=@Jl P w _ _ base _ _ T
 refine T.B5.ok Gv (λvs H Q E h=>?_) (λcdv A outer s H vs Q E hr h=>?_)
 ·obtain ⟨_,_,rfl,_⟩:=h;rfl
 ·have nd:=Gv.nd
  have hu:=hr.units
  obtain ⟨p,ns,rfl,hp,n10,q⟩:=h
  refine ⟨_,(xL (xg (xY (xS (call_all rfl rfl) (by rfl) T.b_all PyProof.Rows.boot_all (xG (xH (wf (own:=["thing"]) (caps:=[]) rfl (show CompScope ["thing"] [] ["things"] (defScope D4) _ from ⟨rfl,by decide +kernel,by decide +kernel,by decide +kernel,by decide +kernel⟩) (pi_tup'' rfl (pv 0)) (λ_ _ _ _=>(xR (i:=0) (show List.Nodup (["thing"]:List Str) from by decide +kernel) rfl (by first | exact Or.inl rfl | exact Or.inr rfl))) (λ_ _ _ _=>we) (λ_ _ _ _=>(xP G6 (hr.mono (by decide)) rfl T.JX T.J9 T.Kd .nil pass0 (xG (xH (pv 0) xN rfl))))) xN rfl)))))),?_⟩
  have line:=line9
  refine (zr rfl ⟨p,rfl,⟨_,SqT.of hp⟩,?_⟩)
  refine comp_tup (K:=K) (a:=p) (xs:=ns.map V.int) (λi τ acc H5=>(∃ t0,τ=[t0])/\acc=(List.replicate i true).map V.bl/\H5=H) ⟨⟨_,rfl⟩,rfl,rfl⟩ (by rw [zA];omega) ?_ ?_ ?_
  ·rintro i τ acc H5 ⟨_,rfl,rfl⟩
   exact ⟨by simp,SqT.of hp⟩
  ·rintro i x τ acc H5 C hx ⟨⟨t0,rfl⟩,rfl,rfl⟩ hC
   obtain ⟨j,_,rfl⟩:=wB hx
   exact (zr rfl ⟨.int j, "int", rfl,rfl,hC _ _ _ ⟨⟨_,rfl⟩,by rw [List.replicate_succ',zQ];rfl,rfl⟩⟩)
  ·rintro τ acc H5 ⟨_,rfl,rfl⟩ l hl
   refine ⟨l,zr rfl ⟨SqL.of xJ,?_⟩⟩
   have:(List.replicate (ns.map V.int).length true).all id=true:=by simp
   rw [this]
   exact q _ (xM hl)
theorem Gu:FnScope ["thing"] ["thing"] (defScope Fc):=⟨rfl,rfl,rfl,by decide +kernel,rfl,by decide +kernel,by decide +kernel⟩
theorem KP (T:Tx K mg a t_MOST_TOKENS):FnOk P w K mg base CX0 3 a.By a.CM ["thing"] (spIsPass):=by
 have Fv:=@GA P w _ _ base _ _ T
 refine T.B4.ok Gu (λvs H Q E h=>?_) (λcdv A outer s H vs Q E hr h=>?_)
 ·obtain ⟨_,rfl,_⟩:=h;rfl
 ·have nd:=Gu.nd
  have hu:=hr.units
  obtain ⟨y,rfl,h⟩:=h
  refine ⟨_,(xL (xg (xY (pe_and (xS (xq) (by rfl) T.b_isinstance zR (xG (xH (pv 0) (xH (wU (v:=V.ty "tuple") rfl T.b_tuple yH rfl) xN rfl) rfl))) (pe_and (pe_cmpR wM (xS (xQ rfl) (by rfl) T.b_len PySem.boot_len (xG (xH (pv 0) xN rfl))) xI (nomark _)) (pe_and (pe_cmpR (op_in_seq' rfl) (xU (xW rfl) (pv 0) xI (λ_ _=>rfl)) (wF (xG (xH pe_str (xH pe_str xN rfl) rfl))) rfl) (pe_one (xP Fv (hr.mono (by decide)) rfl T.Hh T.Hl T.Hq .nil pass0 (xG (xH (pe_slice (sl_tup' rfl) (pv 0) (po_some xI) po_none) xN rfl)))))))))),?_⟩
  have line:=line9
  rcases h with ⟨d,⟨p,rfl,hp⟩,q⟩ | ⟨p,xs,rfl,hp,q⟩
  ·cases d with
   | drop l w0=>exact (zr rfl ⟨_, "tuple", "tuple", rfl,tyS_tup hp,.inr (.inr (.inr rfl)),zr rfl (iteB1 rfl (zr rfl ⟨p,zr rfl ⟨.inr (SqT.of hp),rfl,zr rfl (iteB0 rfl (q H (Same.refl _)))⟩⟩))⟩)
   | pass gv m l g=>
    cases gv
    ·refine (zr rfl ⟨_, "tuple", "tuple", rfl,tyS_tup hp,.inr (.inr (.inr rfl)),zr rfl (iteB1 rfl (zr rfl ⟨p,zr rfl ⟨.inr (SqT.of hp),rfl,zr rfl (iteB1 rfl (zr rfl (ixt hp rfl ⟨by show 2<=_;omega,λt2 ht2=>⟨t2,zr rfl ⟨.inr (SqT.of xJ),rfl,rfl,zr rfl (iteB1 rfl ?_)⟩⟩⟩)))⟩⟩))⟩)
     have s1:=xM (o:=HO.tup [V.str (Str.ofString "give"),V.str (Str.ofString "copy")]) ht2
     have hp1:=s1 _ _ hp
     generalize upd H t2 (HO.tup [V.str (Str.ofString "give"),V.str (Str.ofString "copy")])=H1 at s1 hp1 ⊢
     refine (zr rfl (zr rfl ⟨p,zr rfl ⟨SqT.of hp1,λz=>(by have:=z.1;revert this;show HT.sIx 4 0 (some 1)=0->False;decide),λt3 ht3=>?_⟩⟩))
     have s2:=xM (o:=HO.tup (List.map V.int [m,l,g])) ht3
     refine ⟨t3,[m,l,g],rfl,xJ,by show 3<=10;decide,λH3 s3=>?_⟩
     exact q _ (s1.trans (s2.trans s3))
    ·refine (zr rfl ⟨_, "tuple", "tuple", rfl,tyS_tup hp,.inr (.inr (.inr rfl)),zr rfl (iteB1 rfl (zr rfl ⟨p,zr rfl ⟨.inr (SqT.of hp),rfl,zr rfl (iteB1 rfl (zr rfl (ixt hp rfl ⟨by show 2<=_;omega,λt2 ht2=>⟨t2,zr rfl ⟨.inr (SqT.of xJ),rfl,rfl,zr rfl (iteB1 rfl ?_)⟩⟩⟩)))⟩⟩))⟩)
     have s1:=xM (o:=HO.tup [V.str (Str.ofString "give"),V.str (Str.ofString "copy")]) ht2
     have hp1:=s1 _ _ hp
     generalize upd H t2 (HO.tup [V.str (Str.ofString "give"),V.str (Str.ofString "copy")])=H1 at s1 hp1 ⊢
     refine (zr rfl (zr rfl ⟨p,zr rfl ⟨SqT.of hp1,λz=>(by have:=z.1;revert this;show HT.sIx 4 0 (some 1)=0->False;decide),λt3 ht3=>?_⟩⟩))
     have s2:=xM (o:=HO.tup (List.map V.int [m,l,g])) ht3
     refine ⟨t3,[m,l,g],rfl,xJ,by show 3<=10;decide,λH3 s3=>?_⟩
     exact q _ (s1.trans (s2.trans s3))
  ·exact (zr rfl ⟨_, "list", "tuple", rfl,tyS_lst hp,.inr (.inr (.inr rfl)),zr rfl (iteB0 rfl q)⟩)
theorem JP:FnScope ["thing"] ["thing"] (defScope Ir):=⟨rfl,rfl,rfl,by decide +kernel,rfl,by decide +kernel,by decide +kernel⟩
theorem MD (T:Tx K mg a t_MOST_TOKENS):FnOk P w K mg base CX0 3 a.Dq a.D6 ["thing"] (spIsDrop):=by
 have Fv:=@GA P w _ _ base _ _ T
 refine T.DP.ok JP (λvs H Q E h=>?_) (λcdv A outer s H vs Q E hr h=>?_)
 ·obtain ⟨_,rfl,_⟩:=h;rfl
 ·have nd:=JP.nd
  have hu:=hr.units
  obtain ⟨y,rfl,h⟩:=h
  refine ⟨_,(xL (xg (xY (pe_and (xS (xq) (by rfl) T.b_isinstance zR (xG (xH (pv 0) (xH (wU (v:=V.ty "tuple") rfl T.b_tuple yH rfl) xN rfl) rfl))) (pe_and (pe_cmpR wM (xS (xQ rfl) (by rfl) T.b_len PySem.boot_len (xG (xH (pv 0) xN rfl))) xI (nomark _)) (pe_and (pe_cmpR wM (xU (xW rfl) (pv 0) xI (λ_ _=>rfl)) pe_str (nomark _)) (pe_one (xP Fv (hr.mono (by decide)) rfl T.Hh T.Hl T.Hq .nil pass0 (xG (xH (pe_slice (sl_tup' rfl) (pv 0) (po_some xI) po_none) xN rfl)))))))))),?_⟩
  have line:=line9
  rcases h with ⟨l,w0,⟨p,rfl,hp⟩,q⟩ | ⟨p,xs,rfl,hp,q⟩
  ·refine (zr rfl ⟨_, "tuple", "tuple", rfl,tyS_tup hp,.inr (.inr (.inr rfl)),zr rfl (iteB1 rfl (zr rfl ⟨p,zr rfl ⟨.inr (SqT.of hp),rfl,zr rfl (iteB1 rfl (zr rfl (ixt hp rfl ⟨rfl,zr rfl (iteB1 rfl ?_)⟩)))⟩⟩))⟩)
   refine (zr rfl (zr rfl ⟨p,zr rfl ⟨SqT.of hp,λz=>(by have:=z.1;revert this;show HT.sIx 3 0 (some 1)=0->False;decide),λt3 ht3=>?_⟩⟩))
   have s2:=xM (o:=HO.tup (List.map V.int [l,w0])) ht3
   exact ⟨t3,[l,w0],rfl,xJ,by show 2<=10;decide,λH3 s3=>q _ (s2.trans s3)⟩
  ·exact (zr rfl ⟨_, "list", "tuple", rfl,tyS_lst hp,.inr (.inr (.inr rfl)),zr rfl (iteB0 rfl q)⟩)
theorem Eb:FnScope ["self", "letter", "walker", "sender", "since", "wish", "last"] ["self", "letter", "walker"] (defScope wu):=⟨rfl,rfl,rfl,by decide +kernel,rfl,by decide +kernel,by decide +kernel⟩
theorem Ep (T:Tx K mg a t_MOST_TOKENS):FnOk P w K mg base CX0 1 a.AE a.Bd ["self", "letter", "walker"] (spTakes a.Aa):=by
 refine T.AI.ok Eb (λvs H Q E h=>?_) (λcdv A outer s H vs Q E hr h=>?_)
 ·obtain ⟨_,_,_,_,_,_,_,_,_,_,_,_,_,_,_,_,_,rfl,_⟩:=h;rfl
 ·have nd:=Eb.nd
  have hu:=hr.units
  obtain ⟨x,b,dx,lL,lH,lA,lP,lD,ls,hs,os,ns,r,ds,n,w0,l,rfl,t,hn,q⟩:=h
  refine ⟨_,(xL (xZ (wW (xU (xV rfl) (xk (pv 0) rfl) (pv 1) (λ_ _=>rfl)) (xz (n:=4) rfl rfl (xT (xR (i:=3) nd rfl (by first | exact Or.inl rfl | exact Or.inr rfl)) (xT (xR (i:=4) nd rfl (by first | exact Or.inl rfl | exact Or.inr rfl)) (xT (xR (i:=5) nd rfl (by first | exact Or.inl rfl | exact Or.inr rfl)) (xT (xR (i:=6) nd rfl (by first | exact Or.inl rfl | exact Or.inr rfl)) xy)))))) (xg (xY (pe_cmpR op_notIn_seq (pv 2) (wF (xG (xH (pv 3) (xH (pv 5) xN rfl) rfl))) rfl))))),?_⟩
  have line:=line9
  have hl:=t.rows l (zD hn)
  have at1:atI (ls.map λl=>V.ref l.1) (n:Int)=some (V.ref l.1):=xj (by rw [zC,hn];rfl)
  refine (zr rfl ⟨x,_,dx,zr1 rfl ⟨t.ins,T.Ai,T.n_Trip_letters,rfl,zr rfl (ixl t.lts at1 (un4 hl ?_))⟩⟩)
  refine (zr rfl (zr rfl (zr rfl ⟨by show 2<=_;omega,λt2 ht2=>⟨t2,zr rfl ⟨.inr (SqT.of xJ),rfl,rfl,?_⟩⟩⟩)))
  have e:inV (V.int w0) [V.int (l.2.s:Int),V.int (l.2.w:Int)]=(decide (w0=l.2.s) || decide (w0=l.2.w)):=by
   simp [inV,eqV_int]
   congr 1 <;> exact decide_eq_decide.mpr ⟨Eq.symm,Eq.symm⟩
  show Q (.bl (!inV (V.int w0) [V.int (l.2.s:Int),V.int (l.2.w:Int)])) _
  rw [e]
  exact q _ (xM ht2)
theorem DU:FnScope ["self", "letter", "walker", "time", "sender", "since", "wish", "last"] ["self", "letter", "walker", "time"] (defScope wR):=⟨rfl,rfl,rfl,by decide +kernel,rfl,by decide +kernel,by decide +kernel⟩
theorem DW (T:Tx K mg a t_MOST_TOKENS):FnOk P w K mg base CX0 1 a.Av a.AV ["self", "letter", "walker", "time"] (spNote a.Aa):=by
 refine T.Ax.ok DU (λvs H Q E h=>?_) (λcdv A outer s H vs Q E hr h=>?_)
 ·obtain ⟨_,_,_,_,_,_,_,_,_,_,_,_,_,_,_,_,_,_,rfl,_⟩:=h;rfl
 ·have nd:=DU.nd
  have hu:=hr.units
  obtain ⟨x,b,dx,lL,lH,lA,lP,lD,ls,hs,os,ns,r,ds,n,w0,t0,l,rfl,t,hn,ho,q⟩:=h
  refine ⟨_,(xL (xZ (wW (xU (xV rfl) (xk (pv 0) rfl) (pv 1) (λ_ _=>rfl)) (xz (n:=4) rfl rfl (xT (xR (i:=4) nd rfl (by first | exact Or.inl rfl | exact Or.inr rfl)) (xT (xR (i:=5) nd rfl (by first | exact Or.inl rfl | exact Or.inr rfl)) (xT (xR (i:=6) nd rfl (by first | exact Or.inl rfl | exact Or.inr rfl)) (xT (xR (i:=7) nd rfl (by first | exact Or.inl rfl | exact Or.inr rfl)) xy)))))) (xg (xi (PW.pt (pw_and (xb wM (pv 2) (pv 6) (nomark _)) (pw_and (xb op_le (pv 3) (pv 7) (nomark _)) (wa (pt_cmp (pc_isN (xU (xV rfl) (xk (pv 0) rfl) (pv 1) (λ_ _=>rfl)))))))) (xL (xg (wW (pv 3) (pg_sub (xk (pv 0) rfl) (pv 1) wT)))) xX)))),?_⟩
  have line:=line9
  have hl:=t.rows l (zD hn)
  have at1:atI (ls.map λl=>V.ref l.1) (n:Int)=some (V.ref l.1):=xj (by rw [zC,hn];rfl)
  refine (zr rfl ⟨x,_,dx,zr1 rfl ⟨t.ins,T.Ai,T.n_Trip_letters,rfl,zr rfl (ixl t.lts at1 (un4 hl ?_))⟩⟩)
  obtain ⟨o,eo⟩:∃ o,os[n]?=some o:=⟨_,zE ho⟩
  have at2:atI (os.map oV) (n:Int)=some (oV o):=xj (by rw [zC,eo];rfl)
  have stay:¬ (w0=l.2.w/\t0<=l.2.z/\os[n]?=some none)->Q .non H:=λc=>q H (λ_ _ _ e=>e) (by rw [noteA,if_neg c];exact t.arr)
  refine (zr rfl (zr rfl ⟨rfl,zr rfl ?_⟩))
  by_cases c1:w0=l.2.w
  ·refine iteB1 (by rw [c1];simp) (zr rfl (zr rfl (zr2 rfl rfl (zr rfl (iteD (λc2=>?_) (λc2=>stay λc=>c2 c.2.1))))))
   refine (zr rfl ⟨x,_,dx,zr1 rfl ⟨t.ins,T.Ai,T.n_Trip_arrivals,rfl,zr rfl (ixl t.arr at2 (zr rfl ?_))⟩⟩)
   cases o with
   | some i=>exact iteB0 rfl (stay λc=>by rw [eo] at c;cases c.2.2)
   | none=>
    refine iteB1 rfl (zr rfl (zr rfl ⟨x,_,dx,zr1 rfl ⟨t.ins,T.Ai,T.n_Trip_arrivals,rfl,zr rfl ⟨lA,_,_,n,rfl,rfl,t.arr,by rw [zA];unfold ixN;rw [if_pos (by omega),if_pos (by omega)];simp,?_⟩⟩⟩))
    refine q _ But.set ?_
    rw [xJ,noteA,if_pos ⟨c1,c2,eo⟩,zq]
    rfl
  ·exact iteB0 (by simp [c1]) (stay λc=>c1 c.1)
theorem E7:FnScope ["self", "book", "letters", "number", "sender", "since", "wish", "last"] ["self", "book", "letters"] (defScope wA):=⟨rfl,rfl,rfl,by decide +kernel,rfl,by decide +kernel,by decide +kernel⟩
theorem IH (T:Tx K mg a t_MOST_TOKENS):FnOk P w K mg base CX0 2 a.AB a.Bx ["self", "book", "letters"] (spInit2 a.Aa):=by
 have C2:=@DW P w _ _ base _ _ T
 refine T.AY.ok E7 (λvs H Q E h=>?_) (λcdv A outer s H vs Q E hr h=>?_)
 ·obtain ⟨_,_,_,_,_,_,_,_,_,rfl,_⟩:=h;rfl
 ·have nd:=E7.nd
  have hu:=hr.units
  obtain ⟨x,dx,b,l0,ls,rooms,tr,tm,ps,rfl,hx,hb,gd,rm,hl0,hrw,n41,q⟩:=h
  refine ⟨_,(xL (xZ (ps_fld (pv 0) (pv 1) rfl) (xZ (ps_fld (pv 0) (wJ (call_list_of' rfl) (by rfl) T.b_list z8 (xG (xH (pv 2) xN rfl))) rfl) (xZ (ps_fld (pv 0) (wf (own:=["sender", "since", "wish", "last"]) (caps:=[]) rfl (show CompScope ["sender", "since", "wish", "last"] [] ["self", "book", "letters", "number", "sender", "since", "wish", "last"] (defScope wA) _ from ⟨rfl,by decide +kernel,by decide +kernel,by decide +kernel,by decide +kernel⟩) (pi_list' rfl (xk (pv 0) rfl)) (λ_ _ _ _=>(xz (n:=4) rfl rfl (xT (xR (i:=0) (show List.Nodup (["sender", "since", "wish", "last"]:List Str) from by decide +kernel) rfl (by first | exact Or.inl rfl | exact Or.inr rfl)) (xT (xR (i:=1) (show List.Nodup (["sender", "since", "wish", "last"]:List Str) from by decide +kernel) rfl (by first | exact Or.inl rfl | exact Or.inr rfl)) (xT (xR (i:=2) (show List.Nodup (["sender", "since", "wish", "last"]:List Str) from by decide +kernel) rfl (by first | exact Or.inl rfl | exact Or.inr rfl)) (xT (xR (i:=3) (show List.Nodup (["sender", "since", "wish", "last"]:List Str) from by decide +kernel) rfl (by first | exact Or.inl rfl | exact Or.inr rfl)) xy)))))) (λ_ _ _ _=>we) (λ_ _ _ _=>(pe_disp (pps_cons (pv 0) (pv 1) pps_nil) rfl rfl (by intro h;cases h) (by decide)))) rfl) (xZ (ps_fld (pv 0) (wf (own:=["letter"]) (caps:=[]) rfl (show CompScope ["letter"] [] ["self", "book", "letters", "number", "sender", "since", "wish", "last"] (defScope wA) _ from ⟨rfl,by decide +kernel,by decide +kernel,by decide +kernel,by decide +kernel⟩) (pi_list' rfl (xk (pv 0) rfl)) (λ_ _ _ _=>(xR (i:=0) (show List.Nodup (["letter"]:List Str) from by decide +kernel) rfl (by first | exact Or.inl rfl | exact Or.inr rfl))) (λ_ _ _ _=>we) (λ_ _ _ _=>pe_non)) rfl) (xZ (ps_fld (pv 0) (wf (own:=["meeting"]) (caps:=[]) rfl (show CompScope ["meeting"] [] ["self", "book", "letters", "number", "sender", "since", "wish", "last"] (defScope wA) _ from ⟨rfl,by decide +kernel,by decide +kernel,by decide +kernel,by decide +kernel⟩) (pi_tup'' rfl (xU (xW rfl) (pv 1) xI (λ_ _=>rfl))) (λ_ _ _ _=>(xR (i:=0) (show List.Nodup (["meeting"]:List Str) from by decide +kernel) rfl (by first | exact Or.inl rfl | exact Or.inr rfl))) (λ_ _ _ _=>we) (λ_ _ _ _=>xI)) rfl) (xZ (ps_fld (pv 0) xI rfl) (xZ (ps_fld (pv 0) (xw pa_nil) rfl) (xg (wd PassesOwn.never rfl (pi_enumL rfl rfl T.b_enumerate (xG (xH (xk (pv 0) rfl) xN rfl))) (xz (n:=2) rfl rfl (xT (xR (i:=3) nd rfl (by first | exact Or.inl rfl | exact Or.inr rfl)) (xT (xz (n:=4) rfl rfl (xT (xR (i:=4) nd rfl (by first | exact Or.inl rfl | exact Or.inr rfl)) (xT (xR (i:=5) nd rfl (by first | exact Or.inl rfl | exact Or.inr rfl)) (xT (xR (i:=6) nd rfl (by first | exact Or.inl rfl | exact Or.inr rfl)) (xT (xR (i:=7) nd rfl (by first | exact Or.inl rfl | exact Or.inr rfl)) xy))))) xy))) (xL (xg (wc (wK (pv 0) T.Ai T.D3 C2 (hr.mono (by decide)) T.D2 .nil pass0 (xG (xH (pv 3) (xH (pv 4) (xH (pv 5) xN rfl) rfl) rfl)))))))))))))))),?_⟩
  have h60:=gd.len
  have line:=line9
  refine (zr rfl (zr rfl ⟨x,_,dx,zr rfl ⟨hx,T.Ai,T.n_Trip_book,by decide,?_⟩⟩))
  have b1:But x H (upd H x (.ins a.Aa dx (putF "book" (.ref b) []))):=But.set
  have i1:upd H x (.ins a.Aa dx (putF "book" (.ref b) [])) x=some (.ins a.Aa dx [("book", .ref b)]):=xJ
  generalize upd H x (.ins a.Aa dx (putF "book" (.ref b) []))=H1 at b1 i1 ⊢
  have tu:∀ H',But x H H'->Tups H H':=λH' z c xs e=>z c _ (wP e hx (by intro z;cases z)) e
  have n0:l0≠x:=wP hl0 hx (by intro z;cases z)
  refine (zr rfl ⟨l0,zr rfl ⟨.inl (SqL.of (b1 _ _ n0 hl0)),λlL hL=>?_⟩⟩)
  have nL:lL≠x:=(xK i1 hL).symm
  have s2:=xM (o:=HO.lst (ls.map λl=>V.ref l.1)) hL
  have kL:upd H1 lL (HO.lst (ls.map λl=>V.ref l.1)) lL=some (.lst (ls.map λl=>V.ref l.1)):=xJ
  have i2:=s2 _ _ i1
  generalize upd H1 lL (HO.lst (ls.map λl=>V.ref l.1))=H2 at s2 kL i2 ⊢
  refine (zr rfl ⟨x,_,dx,zr rfl ⟨i2,T.Ai,T.n_Trip_letters,by show 1 < 1000;decide,?_⟩⟩)
  have b3:But x H (upd H2 x (.ins a.Aa dx (putF "letters" (.ref lL) [("book", .ref b)]))):=(b1.trans (Same.but s2)).trans But.set
  have i3:upd H2 x (.ins a.Aa dx (putF "letters" (.ref lL) [("book", .ref b)])) x=some (.ins a.Aa dx [("book", .ref b),("letters", .ref lL)]):=xJ
  replace kL:upd H2 x (.ins a.Aa dx (putF "letters" (.ref lL) [("book", .ref b)])) lL=some (.lst (ls.map λl=>V.ref l.1)):=by rw [xO nL];exact kL
  generalize upd H2 x (.ins a.Aa dx (putF "letters" (.ref lL) [("book", .ref b)]))=H3 at b3 i3 kL ⊢
  have rw3:∀ l∈ls,H3 l.1=some (.tup (letRow l.2)):=λl hl=>tu _ b3 _ _ (hrw l hl)
  refine (zr rfl ⟨x,_,dx,zr1 rfl ⟨i3,T.Ai,T.n_Trip_letters,rfl,lL,rfl,⟨_,SqL.of kL⟩,?_⟩⟩)
  refine comp_list (K:=K) (a:=lL) (xs:=ls.map λl=>V.ref l.1) (λi τ acc H5=>(∃ t0 t1 t2 t3,τ=[t0,t1,t2,t3])/\∃ hs:List (Addr×List (Int×Int)),acc=(hs.map λh=>V.ref h.1)/\hs.map (·.2)=(ls.take i).map (λl=>[((l.2.s:Int),l.2.a)])/\Same H3 H5/\(∀ h∈hs,H3 h.1=none/\H5 h.1=some (.dK (kvV h.2)))/\(hs.map (·.1)).Nodup) ⟨⟨_,_,_,_,rfl⟩,[],rfl,rfl,Same.refl _,(λ_ h=>nomatch h),List.nodup_nil⟩ (by rw [zA];omega) ?_ ?_ ?_
  ·rintro i τ acc H5 ⟨_,hs,rfl,e,s5,_⟩
   exact ⟨by rw [zA];have:=congrArg List.length e;simp at this;omega,SqL.of (s5 _ _ kL)⟩
  ·rintro i v τ acc H5 C hv ⟨⟨t0,t1,t2,t3,rfl⟩,hs,rfl,e,s5,kh,hnd⟩ hC
   obtain ⟨l1,hl1,rfl⟩:=wB hv
   refine (un4 (s5 _ _ (rw3 l1 (zD hl1))) (λp hp=>(zr rfl (zr rfl ⟨xJ,[(Sum.inl (l1.2.s:Int),V.int l1.2.a)],rfl,by show 1<=15;decide,?_⟩))))
   have s6:=same_twice (o1:=HO.dK []) (o2:=HO.dK (mergeK [] [(Sum.inl (l1.2.s:Int),V.int l1.2.a)])) hp
   refine hC _ _ _ ⟨⟨_,_,_,_,rfl⟩,hs++[(p,[((l1.2.s:Int),l1.2.a)])],by rw [zQ];rfl,?_,s5.trans s6,λh hh=>?_,?_⟩
   ·rw [zQ,e,wZ hl1,zQ];rfl
   ·rcases ze.mp hh with hh | hh
    ·exact ⟨(kh h hh).1,s6 _ _ (kh h hh).2⟩
    ·cases zN.mp hh
     exact ⟨s5.free hp,by rw [xJ];rfl⟩
   ·rw [zQ]
    refine List.nodup_append.mpr ⟨hnd,by simp,λc hc d hd=>?_⟩
    obtain ⟨h,hh,rfl⟩:=zO.mp hc
    cases zN.mp hd
    exact xK (kh h hh).2 hp
  ·rintro τ acc H5 ⟨⟨t0,t1,t2,t3,rfl⟩,hs,rfl,e,s5,kh,hnd⟩ lH hH
   rw [zA,yX] at e
   have s6:=xM (o:=HO.lst (hs.map λh=>V.ref h.1)) hH
   have s36:=s5.trans s6
   have kH:upd H5 lH (HO.lst (hs.map λh=>V.ref h.1)) lH=some (.lst (hs.map λh=>V.ref h.1)):=xJ
   replace kh:∀ h∈hs,H3 h.1=none/\upd H5 lH (HO.lst (hs.map λh=>V.ref h.1)) h.1=some (.dK (kvV h.2)):=λh hh=>⟨(kh h hh).1,s6 _ _ (kh h hh).2⟩
   have n3H:H3 lH=none:=s5.free hH
   have fh:∀ h∈hs,H3 h.1=none:=λh hh=>(kh h hh).1
   generalize upd H5 lH (HO.lst (hs.map λh=>V.ref h.1))=H6 at s6 s36 kH kh ⊢
   have i6:=s36 _ _ i3
   refine (zr rfl ⟨x,_,dx,zr rfl ⟨i6,T.Ai,T.n_Trip_holders,by show 2 < 1000;decide,?_⟩⟩)
   have nH:lH≠x:=(xK i3 n3H).symm
   have nLH:lH≠lL:=(xK kL n3H).symm
   have nh:∀ h∈hs,h.1≠x:=λh hh=>(xK i3 (kh h hh).1).symm
   replace kL:=s36 _ _ kL
   have bs7:But x H6 (upd H6 x (.ins a.Aa dx (putF "holders" (.ref lH) [("book", .ref b),("letters", .ref lL)]))):=But.set
   have i7:upd H6 x (.ins a.Aa dx (putF "holders" (.ref lH) [("book", .ref b),("letters", .ref lL)])) x=some (.ins a.Aa dx [("book", .ref b),("letters", .ref lL),("holders", .ref lH)]):=xJ
   generalize upd H6 x (.ins a.Aa dx (putF "holders" (.ref lH) [("book", .ref b),("letters", .ref lL)]))=H7 at bs7 i7 ⊢
   have b7:But x H H7:=(b3.trans (Same.but s36)).trans bs7
   replace kL:=bs7 _ _ nL kL
   replace kH:=bs7 _ _ nH kH
   replace kh:∀ h∈hs,H7 h.1=some (.dK (kvV h.2)):=λh hh=>bs7 _ _ (nh h hh) (kh h hh).2
   refine (zr rfl ⟨x,_,dx,zr1 rfl ⟨i7,T.Ai,T.n_Trip_letters,rfl,lL,rfl,⟨_,SqL.of kL⟩,?_⟩⟩)
   refine comp_list (K:=K) (a:=lL) (xs:=ls.map λl=>V.ref l.1) (λi τ acc H8=>(∃ t0,τ=[t0])/\acc=List.replicate i V.non/\H8=H7) ⟨⟨_,rfl⟩,rfl,rfl⟩ (by rw [zA];omega) ?_ ?_ ?_
   ·rintro i τ acc H8 ⟨_,rfl,rfl⟩
    exact ⟨by simp,SqL.of kL⟩
   ·rintro i v τ acc H8 C hv ⟨⟨t0,rfl⟩,rfl,rfl⟩ hC
    exact hC _ _ _ ⟨⟨_,rfl⟩,by rw [List.replicate_succ'],rfl⟩
   ·rintro τ acc H8 ⟨⟨t0,rfl⟩,rfl,rfl⟩ lA hA
    rw [zA] at *
    have s9:=xM (o:=HO.lst (List.replicate ls.length V.non)) hA
    have kA:upd H8 lA (HO.lst (List.replicate ls.length V.non)) lA=some (.lst (List.replicate ls.length V.non)):=xJ
    have nA:lA≠x:=(xK i7 hA).symm
    have nAL:lA≠lL:=(xK kL hA).symm
    have nAH:lA≠lH:=(xK kH hA).symm
    have nAh:∀ h∈hs,h.1≠lA:=λh hh=>xK (kh h hh) hA
    generalize upd H8 lA (HO.lst (List.replicate ls.length V.non))=H9 at s9 kA ⊢
    refine (zr rfl ⟨x,_,dx,zr rfl ⟨s9 _ _ i7,T.Ai,T.n_Trip_arrivals,by show 3 < 1000;decide,?_⟩⟩)
    have bsA:But x H9 (upd H9 x (.ins a.Aa dx (putF "arrivals" (.ref lA) [("book", .ref b),("letters", .ref lL),("holders", .ref lH)]))):=But.set
    have iA:upd H9 x (.ins a.Aa dx (putF "arrivals" (.ref lA) [("book", .ref b),("letters", .ref lL),("holders", .ref lH)])) x=some (.ins a.Aa dx [("book", .ref b),("letters", .ref lL),("holders", .ref lH),("arrivals", .ref lA)]):=xJ
    generalize upd H9 x (.ins a.Aa dx (putF "arrivals" (.ref lA) [("book", .ref b),("letters", .ref lL),("holders", .ref lH)]))=HA at bsA iA ⊢
    have bA:But x H HA:=(b7.trans (Same.but s9)).trans bsA
    replace kL:=bsA _ _ nL (s9 _ _ kL)
    replace kH:=bsA _ _ nH (s9 _ _ kH)
    replace kh:∀ h∈hs,HA h.1=some (.dK (kvV h.2)):=λh hh=>bsA _ _ (nh h hh) (s9 _ _ (kh h hh))
    replace kA:=bsA _ _ nA kA
    have hbA:=hb.tups (tu _ bA)
    refine (zr rfl (ixt hbA.book rfl ⟨tm,rfl,⟨_,SqT.of hbA.meets⟩,?_⟩))
    refine comp_tup (K:=K) (a:=tm) (xs:=ps.map λa=>V.ref a.1) (λi τ acc H8=>(∃ t0,τ=[t0])/\acc=List.replicate i (V.int 0)/\H8=HA) ⟨⟨_,rfl⟩,rfl,rfl⟩ (by rw [zA];omega) ?_ ?_ ?_
    ·rintro i τ acc H8 ⟨_,rfl,rfl⟩
     exact ⟨by simp,SqT.of hbA.meets⟩
    ·rintro i v τ acc H8 C hv ⟨⟨t0,rfl⟩,rfl,rfl⟩ hC
     exact hC _ _ _ ⟨⟨_,rfl⟩,by rw [List.replicate_succ'],rfl⟩
    ·rintro τ acc H8 ⟨⟨t0,rfl⟩,rfl,rfl⟩ lP hP
     rw [zA] at *
     have sB:=xM (o:=HO.lst (List.replicate ps.length (V.int 0))) hP
     have kP:upd H8 lP (HO.lst (List.replicate ps.length (V.int 0))) lP=some (.lst (List.replicate ps.length (V.int 0))):=xJ
     have nP:lP≠x:=(xK iA hP).symm
     have nPA:lP≠lA:=(xK kA hP).symm
     have nLP:=xK kL hP
     have nHP:=xK kH hP
     generalize upd H8 lP (HO.lst (List.replicate ps.length (V.int 0)))=HB at sB kP ⊢
     refine (zr rfl ⟨x,_,dx,zr rfl ⟨sB _ _ iA,T.Ai,T.n_Trip_passed,by show 4 < 1000;decide,?_⟩⟩)
     have bsC:But x HB (upd HB x (.ins a.Aa dx (putF "passed" (.ref lP) [("book", .ref b),("letters", .ref lL),("holders", .ref lH),("arrivals", .ref lA)]))):=But.set
     have iC:upd HB x (.ins a.Aa dx (putF "passed" (.ref lP) [("book", .ref b),("letters", .ref lL),("holders", .ref lH),("arrivals", .ref lA)])) x=some (.ins a.Aa dx [("book", .ref b),("letters", .ref lL),("holders", .ref lH),("arrivals", .ref lA),("passed", .ref lP)]):=xJ
     generalize upd HB x (.ins a.Aa dx (putF "passed" (.ref lP) [("book", .ref b),("letters", .ref lL),("holders", .ref lH),("arrivals", .ref lA)]))=HC at bsC iC ⊢
     refine (zr rfl ⟨x,_,dx,zr rfl ⟨iC,T.Ai,T.n_Trip_reached,by show 5 < 1000;decide,?_⟩⟩)
     have bsD:But x HC (upd HC x (.ins a.Aa dx (putF "reached" (.int 0) [("book", .ref b),("letters", .ref lL),("holders", .ref lH),("arrivals", .ref lA),("passed", .ref lP)]))):=But.set
     have iD:upd HC x (.ins a.Aa dx (putF "reached" (.int 0) [("book", .ref b),("letters", .ref lL),("holders", .ref lH),("arrivals", .ref lA),("passed", .ref lP)])) x=some (.ins a.Aa dx [("book", .ref b),("letters", .ref lL),("holders", .ref lH),("arrivals", .ref lA),("passed", .ref lP),("reached", .int 0)]):=xJ
     generalize upd HC x (.ins a.Aa dx (putF "reached" (.int 0) [("book", .ref b),("letters", .ref lL),("holders", .ref lH),("arrivals", .ref lA),("passed", .ref lP)]))=HD at bsD iD ⊢
     have bAD:But x H8 HD:=((Same.but sB).trans bsC).trans bsD
     replace kP:=(bsC.trans bsD) _ _ nP kP
     have kAD:=bAD _ _ nA kA
     refine ⟨zZ _,λlD hD=>?_⟩
     have sE:=xM (o:=HO.lst []) hD
     have kD:upd HD lD (HO.lst []) lD=some (.lst []):=xJ
     have nD:lD≠x:=(xK iD hD).symm
     have nDA:lD≠lA:=(xK kAD hD).symm
     have nLD:=xK (bAD _ _ nL kL) hD
     have nHD:=xK (bAD _ _ nH kH) hD
     have nPD:=xK kP hD
     generalize upd HD lD (HO.lst [])=HE at sE kD ⊢
     refine (zr rfl ⟨x,_,dx,zr rfl ⟨sE _ _ iD,T.Ai,T.n_Trip_deeds,by show 6 < 1000;decide,?_⟩⟩)
     have bsF:But x HE (upd HE x (.ins a.Aa dx (putF "deeds" (.ref lD) [("book", .ref b),("letters", .ref lL),("holders", .ref lH),("arrivals", .ref lA),("passed", .ref lP),("reached", .int 0)]))):=But.set
     have iF:upd HE x (.ins a.Aa dx (putF "deeds" (.ref lD) [("book", .ref b),("letters", .ref lL),("holders", .ref lH),("arrivals", .ref lA),("passed", .ref lP),("reached", .int 0)])) x=some (.ins a.Aa dx [("book", .ref b),("letters", .ref lL),("holders", .ref lH),("arrivals", .ref lA),("passed", .ref lP),("reached", .int 0),("deeds", .ref lD)]):=xJ
     generalize upd HE x (.ins a.Aa dx (putF "deeds" (.ref lD) [("book", .ref b),("letters", .ref lL),("holders", .ref lH),("arrivals", .ref lA),("passed", .ref lP),("reached", .int 0)]))=HF at bsF iF ⊢
     have bEF:But x HD HF:=(Same.but sE).trans bsF
     have bAF:But x H8 HF:=bAD.trans bEF
     have bF:But x H HF:=bA.trans bAF
     have lh:hs.length=ls.length:=by have:=congrArg List.length e;simpa using this
     have tF:TripAt a.Aa HF x b dx lL lH lA lP lD ls hs (List.replicate ls.length none) (List.replicate ps.length 0) 0 []:=
      ⟨iF,bAF _ _ nL kL,λl hl=>tu _ bF _ _ (hrw l hl),bAF _ _ nH kH,λh hh=>bAF _ _ (nh h hh) (kh h hh),by rw [bAF _ _ nA kA,List.map_replicate];rfl,by rw [bEF _ _ nP kP,List.map_replicate],bsF _ _ nD kD⟩
     have keepA:∀ H',But lA HF H'->∀ os',H' lA=some (.lst (os'.map oV))->TripAt a.Aa H' x b dx lL lH lA lP lD ls hs os' (List.replicate ps.length 0) 0 []:=λH' z os' ea=>
      ⟨z _ _ nA.symm tF.ins,z _ _ nAL.symm tF.lts,λl hl=>z _ _ (wP (tF.rows l hl) tF.arr (by intro z;cases z)) (tF.rows l hl),z _ _ nAH.symm tF.hol,λh hh=>z _ _ (nAh h hh) (tF.hols h hh),ea,z _ _ nPA tF.pas,z _ _ nDA tF.dee⟩
     refine (zr rfl ⟨x,_,dx,zr1 rfl ⟨iF,T.Ai,T.n_Trip_letters,rfl,lL,rfl,⟨_,SqL.of tF.lts⟩,?_⟩⟩)
     refine for_enumL (K:=K) (a:=lL) (xs:=ls.map λl=>V.ref l.1) (λi σ HG=>(∃ v3 v4 v5 v6 v7,σ=[some (.ref x),some (.ref b),some (.ref l0),v3,v4,v5,v6,v7])/\But lA HF HG/\HG lA=some (.lst ((osTo ls i).map oV))) ⟨⟨_,_,_,_,_,rfl⟩,But.refl _ _,by rw [tF.arr,osTo_0]⟩ ?_ ?_ ?_
     ·rintro i σ HG _ ⟨_,bG,kG⟩
      exact SqL.of (keepA _ bG _ kG).lts
     ·rintro i v q0 σ HG hv hq ⟨⟨v3,v4,v5,v6,v7,rfl⟩,bG,kG⟩
      obtain ⟨l1,hl1,rfl⟩:=wB hv
      have hi:i < ls.length:=(zB.mp hl1).1
      have s1:=xM (o:=HO.tup [V.int (i:Int),V.ref l1.1]) hq
      have kq:upd HG q0 (HO.tup [V.int (i:Int),V.ref l1.1]) q0=some (.tup [V.int (i:Int),V.ref l1.1]):=xJ
      generalize upd HG q0 (HO.tup [V.int (i:Int),V.ref l1.1])=HI at s1 kq ⊢
      have tI:=(keepA _ bG _ kG).same s1
      refine ⟨q0,zr rfl ⟨SqT.of kq,rfl,zr1 rfl (zr1 rfl (un4 (tI.rows l1 (zD hl1)) ⟨rfl,?_⟩))⟩⟩
      refine (zr rfl ⟨x,dx,zr rfl ⟨tI.ins,rfl,zr rfl (zr rfl (zr rfl ⟨x,b,dx,lL,lH,lA,lP,lD,ls,hs,_,_,_,_,i,_,_,l1,rfl,tI,hl1,by rw [osTo_len (by omega)];exact hi,λHJ bJ kJ=>?_⟩))⟩⟩)
      exact ⟨⟨_,_,_,_,_,rfl⟩,(bG.trans (Same.but s1)).trans bJ,by rw [kJ,osTo_step hl1]⟩
     ·rintro σ HG ⟨⟨v3,v4,v5,v6,v7,rfl⟩,bG,kG⟩
      rw [zA,osTo_all] at kG
      have n0A:H lA=none:=by
       cases z:H lA with
       | none=>rfl
       | some u=>have:=b7 _ _ nA z;rw [hA] at this;cases this
      refine q ⟨x,b,dx,lL,lH,lA,lP,lD,ls,hs,ls.map λl=>begA l.2,List.replicate ps.length 0,0,[]⟩ HG (λc u n z=>bG c u (xK z n0A) (bF c u n z)) ⟨keepA _ bG _ kG,(hb.tups (tu _ bF)).tups (λc xs z=>bG c _ (wP z tF.arr (by intro z;cases z)) z),gd,rm,lh,by rw [zA],by rw [yF],n41,λh hh=>?_,zZ _,⟨nAL.symm,nLP,nLD,nAH.symm,nHP,nHD,nPA.symm,nDA.symm,nPD⟩,hnd⟩ ⟨rfl,rfl,rfl,e,rfl,rfl,rfl,rfl,λc hc=>?_⟩
      ·have:h.2∈hs.map (·.2):=zO.mpr ⟨h,hh,rfl⟩
       rw [e] at this
       obtain ⟨l,_,el⟩:=zO.mp this
       rw [<-el];exact zK 1
      ·rcases hc with (rfl | rfl | rfl | rfl | hc) | rfl | rfl
       ·exact .inl rfl
       ·exact .inr n0A
       ·exact .inr (bA.free nP hP)
       ·exact .inr ((bA.trans bAD).free nD hD)
       ·obtain ⟨h,hh,rfl⟩:=zO.mp hc
        exact .inr (b3.free (nh h hh) (fh h hh))
       ·exact .inr (b1.free nL hL)
       ·exact .inr (b3.free nH n3H)
theorem FP:FnScope ["self", "letter"] ["self", "letter"] (defScope EW):=⟨rfl,rfl,rfl,by decide +kernel,rfl,by decide +kernel,by decide +kernel⟩
theorem JW (T:Tx K mg a t_MOST_TOKENS):FnOk P w K mg base CX0 1 a.Bo a.Cd ["self", "letter"] (spHaving a.Aa):=by
 refine T.Bp.ok FP (λvs H Q E h=>?_) (λcdv A outer s H vs Q E hr h=>?_)
 ·obtain ⟨_,_,_,_,_,_,_,_,_,_,_,_,_,_,_,_,rfl,_⟩:=h;rfl
 ·have nd:=FP.nd
  have hu:=hr.units
  obtain ⟨x,b,dx,lL,lH,lA,lP,lD,ls,hs,os,ns,r,ds,n,h0,rfl,t,hn,h64,q⟩:=h
  refine ⟨_,(xL (xg (xY (xS (call_sortItems rfl) (by rfl) T.b_sorted PyProof.Rows.boot_sorted (xG (xH (pe_bm0 PySem.F.plainAttrs_dict PySem.F.slot_dict_items PySem.F.type_dict_items mt_items (xU (xV rfl) (xk (pv 0) rfl) (pv 1) (λ_ _=>rfl))) xN rfl)))))),?_⟩
  have line:=line9
  have hh:=t.hols h0 (zD hn)
  have at1:atI (hs.map λh=>V.ref h.1) (n:Int)=some (V.ref h0.1):=xj (by rw [zC,hn];rfl)
  refine (zr rfl ⟨x,_,dx,zr1 rfl ⟨t.ins,T.Ai,T.n_Trip_holders,rfl,zr rfl (ixl t.hol at1 ?_)⟩⟩)
  refine ⟨.inr (.inr (.inl ⟨rfl,.inl ⟨_,hh⟩⟩)),h0.1,zr rfl ⟨rfl,hh,λv hv=>?_⟩⟩
  have sv:=xM (o:=viewO v h0.1) hv
  exact ⟨v,h0.1,h0.2,rfl,xJ,sv _ _ hh,h64,λl qs H' sm nl nq kl kr pm pw=>q l qs H' (sv.trans sm) (sv.free nl) (λa ha=>sv.free (nq a ha)) kl kr pm pw⟩
theorem Jk:FnScope ["self", "walker", "kept", "letter", "holders"] ["self", "walker"] (defScope GH):=⟨rfl,rfl,rfl,by decide +kernel,rfl,by decide +kernel,by decide +kernel⟩
theorem L5 (T:Tx K mg a t_MOST_TOKENS):FnOk P w K mg base CX0 2 a.Cv a.DO ["self", "walker"] (spBag a.Aa):=by
 have DE:=@Ep P w _ _ base _ _ T
 refine T.CK.ok Jk (λvs H Q E h=>?_) (λcdv A outer s H vs Q E hr h=>?_)
 ·obtain ⟨_,_,_,_,_,_,_,_,_,_,_,_,_,_,_,rfl,_⟩:=h;rfl
 ·have nd:=Jk.nd
  have hu:=hr.units
  obtain ⟨x,b,dx,lL,lH,lA,lP,lD,ls,hs,os,ns,r,ds,w0,rfl,t,n41,lh,q⟩:=h
  refine ⟨_,(xL (xZ (xf (i:=2) nd rfl (by first | exact Or.inl rfl | exact Or.inr rfl) (xw pa_nil)) (xZ (wd PassesOwn.never rfl (pi_enumL rfl rfl T.b_enumerate (xG (xH (xk (pv 0) rfl) xN rfl))) (xz (n:=2) rfl rfl (xT (xR (i:=3) nd rfl (by first | exact Or.inl rfl | exact Or.inr rfl)) (xT (xR (i:=4) nd rfl (by first | exact Or.inl rfl | exact Or.inr rfl)) xy))) (xL (xg (xi (PW.pt (pw_and (xb (op_inD hu) (pv 1) (pv 4) rfl) (wa (xo (wK (pv 0) T.Ai T.ER DE (hr.mono (by decide)) T.EM .nil pass0 (xG (xH (pv 3) (xH (pv 1) xN rfl) rfl))))))) (xL (xg (wc (pe_bm PySem.F.plainAttrs_list PySem.F.slot_list_append PySem.F.type_list_append mt_append (pv 2) (xG (xH (pv 3) xN rfl)))))) xX)))) (xg (xY (pv 2)))))),?_⟩
  have line:=line9
  refine ⟨zZ _,λlk hlk=>?_⟩
  have s1:=xM (o:=HO.lst []) hlk
  refine (zr rfl ⟨x,_,dx,zr1 rfl ⟨s1 _ _ t.ins,T.Ai,T.n_Trip_holders,rfl,lH,rfl,⟨_,SqL.of (s1 _ _ t.hol)⟩,?_⟩⟩)
  refine for_enumL (K:=K) (a:=lH) (xs:=hs.map λh=>V.ref h.1) (λi σ H3=>(∃ v3 v4,σ=[some (.ref x),some (.int w0),some (.ref lk),v3,v4])/\Same H H3/\H3 lk=some (.lst ((bagTo w0 ls hs i).map V.int))) ⟨⟨_,_,rfl⟩,s1,xJ⟩ ?_ ?_ ?_
  ·rintro i σ H3 _ ⟨_,s3,_⟩
   exact SqL.of (s3 _ _ t.hol)
  ·rintro i v q0 σ H3 hv hq ⟨⟨v3,v4,rfl⟩,s3,kl⟩
   obtain ⟨h0,hh,rfl⟩:=wB hv
   obtain ⟨l1,hl1⟩:∃ l,ls[i]?=some l:=⟨_,zE (by have:=(zB.mp hh).1;omega)⟩
   have s4:=xM (o:=HO.tup [V.int (i:Int),V.ref h0.1]) hq
   have k4:=s4 _ _ kl
   have kq:upd H3 q0 (HO.tup [V.int (i:Int),V.ref h0.1]) q0=some (.tup [V.int (i:Int),V.ref h0.1]):=xJ
   generalize upd H3 q0 (HO.tup [V.int (i:Int),V.ref h0.1])=H4 at s4 k4 kq ⊢
   have sH4:=s3.trans s4
   have t4:=t.same sH4
   refine (un2 kq ?_)
   refine (zr rfl (zr rfl ⟨h0.1,zr rfl ⟨DGet.k (k:=Sum.inl w0) (t4.hols h0 (zD hh)),zr rfl ?_⟩⟩))
   rw [valV_any]
   have nn:bagTo w0 ls hs (i + 1)=bagTo w0 ls hs i++(if inBag w0 ls[i]? hs[i]? then [(i:Int)] else []):=rfl
   rw [hl1,hh] at nn
   cases c:(h0.2.any λp=>decide (p.1=w0)) with
   | false=>exact iteB0 rfl ⟨⟨_,_,rfl⟩,sH4,by rw [nn,if_neg (by simp only [inBag,c,yJ];exact zG),zj];exact k4⟩
   | true=>
    refine iteB1 rfl (zr rfl ⟨x,dx,zr rfl ⟨t4.ins,rfl,zr rfl (zr rfl ⟨x,b,dx,lL,lH,lA,lP,lD,ls,hs,os,ns,r,ds,i,w0,l1,rfl,t4,hl1,λH5 s5=>(zr rfl ?_)⟩)⟩⟩)
    have k5:=s5 _ _ k4
    cases c2:(!(decide (w0=l1.2.s) || decide (w0=l1.2.w))) with
    | false=>exact iteB0 rfl ⟨⟨_,_,rfl⟩,sH4.trans s5,by rw [nn,if_neg (by simp only [inBag,c,c2,Bool.and_false];exact zG),zj];exact k5⟩
    | true=>
     have li:=bagTo_len w0 ls hs i
     have hi:i < hs.length:=(zB.mp hh).1
     refine iteB1 rfl (zr rfl ⟨.inl ⟨rfl,_,SqL.of k5⟩,zr rfl ⟨lk,zr2 rfl rfl ⟨k5,by rw [zA];omega,⟨_,_,rfl⟩,same_put (sH4.trans s5) hlk,?_⟩⟩⟩)
     rw [xJ,nn,if_pos (by simp only [inBag,c,c2,Bool.and_self]),zQ]
     rfl
  ·rintro σ H3 ⟨⟨v3,v4,rfl⟩,s3,kl⟩
   rw [zA] at kl
   exact (zr rfl (q lk H3 s3 hlk kl))
theorem Hf:FnScope ["self"] ["self"] (defScope FX):=⟨rfl,rfl,rfl,by decide +kernel,rfl,by decide +kernel,by decide +kernel⟩
theorem Lv (T:Tx K mg a t_MOST_TOKENS):FnOk P w K mg base CX0 1 a.B1 a.Do ["self"] (spDone a.Aa):=by
 refine T.B2.ok Hf (λvs H Q E h=>?_) (λcdv A outer s H vs Q E hr h=>?_)
 ·obtain ⟨_,_,_,_,_,_,_,_,_,_,_,_,_,_,rfl,_⟩:=h;rfl
 ·have nd:=Hf.nd
  have hu:=hr.units
  obtain ⟨x,b,dx,lL,lH,lA,lP,lD,ls,hs,os,ns,r,ds,rfl,t,q⟩:=h
  refine ⟨_,(xL (xg (xY (wJ (call_list_of' rfl) (by rfl) T.b_list z8 (xG (xH (xk (pv 0) rfl) xN rfl)))))),?_⟩
  exact (zr rfl ⟨x,_,dx,zr1 rfl ⟨t.ins,T.Ai,T.n_Trip_deeds,rfl,lD,zr rfl ⟨.inl (SqL.of t.dee),q⟩⟩⟩)
theorem DZ:FnScope ["self", "letter"] ["self", "letter"] (defScope wY):=⟨rfl,rfl,rfl,by decide +kernel,rfl,by decide +kernel,by decide +kernel⟩
theorem D1 (T:Tx K mg a t_MOST_TOKENS):FnOk P w K mg base (CXE P w) 3 a.Az a.AZ ["self", "letter"] (spNeedL a.Aa ⟨a.AQ,a.Aj,a.An,a.Am,a.Ag,a.A0,a.Al,a.Ak⟩):=by
 have Cw:=@D5 P w _ _ base _ _ T
 refine T.AA.okE DZ (λvs H Q E h=>?_) (λcdv A outer s H vs Q E hr h=>?_)
 ·obtain ⟨_,_,_,_,_,_,_,rfl,_⟩:=h;rfl
 ·have nd:=DZ.nd
  have hu:=hr.units
  obtain ⟨t,l,rooms,tr,tm,ps,n0,rfl,k,q1,q2⟩:=h
  refine ⟨_,(xL (xg (xi (wE (xo (xP Cw (hr.mono (by decide)) rfl T.EJ T.EK T.EL .nil pass0 (xG (xH (pv 1) (xH xI (xH (xh op_sub (xS (xQ rfl) (by rfl) T.b_len PySem.boot_len (xG (xH (xk (pv 0) rfl) xN rfl))) xI) xN rfl) rfl) rfl))))) (xL (xg (wI rfl rfl rfl rfl rfl T.J7 T.MC))) xX))),?_⟩
  refine (zr rfl (zr rfl ⟨t.x,_,t.dx,zr1 rfl ⟨k.at_.ins,T.Ai,T.n_Trip_letters,rfl,t.lL,zr rfl ⟨.inl (SqL.of k.at_.lts),zr2 rfl rfl ⟨.int l, "int", 0,zr rfl ⟨rfl,zr rfl ?_⟩⟩⟩⟩⟩))
  rw [zA]
  by_cases c:0<=l/\l < t.ls.length
  ·exact iteB0 (by simp [inB];omega) (q1 c)
  ·exact iteB1 (by simp [inB];omega) (q2 c)
theorem EH:FnScope ["self", "letter", "walker"] ["self", "letter", "walker"] (defScope DF):=⟨rfl,rfl,rfl,by decide +kernel,rfl,by decide +kernel,by decide +kernel⟩
theorem Hg (T:Tx K mg a t_MOST_TOKENS):FnOk P w K mg base (CXE P w) 4 a.AR a.Bq ["self", "letter", "walker"] (spNeedD a.Aa ⟨a.AQ,a.Aj,a.An,a.Am,a.Ag,a.A0,a.Al,a.Ak⟩):=by
 have Mw:=@Lp P w _ _ base _ _ T
 have C6:=@D1 P w _ _ base _ _ T
 refine T.AS.okE EH (λvs H Q E h=>?_) (λcdv A outer s H vs Q E hr h=>?_)
 ·obtain ⟨_,_,_,_,_,_,_,_,rfl,_⟩:=h;rfl
 ·have nd:=EH.nd
  have hu:=hr.units
  obtain ⟨t,l,w0,rooms,tr,tm,ps,n0,rfl,k,q1,q2⟩:=h
  refine ⟨_,(xL (xZ (wc (wK (E:=E) (pv 0) T.Ai T.ED C6 (hr.mono (by decide)) T.Ez .nil (pass_on rfl rfl rfl (λ_ _ z=>z)) (xG (xH (pv 1) xN rfl)))) (xZ (xi (wE (xo (xP Mw (hr.mono (by decide)) rfl T.L7 T.Mc T.Mf .nil pass0 (xG (xH (xk (pv 0) rfl) (xH (pv 2) xN rfl) rfl))))) (xL (xg (wI rfl rfl rfl rfl rfl T.GQ T.JO))) xX) (xg (xi (xb (op_notInD hu) (pv 2) (xU (xV rfl) (xk (pv 0) rfl) (pv 1) (λ_ _=>rfl)) rfl) (xL (xg (wI rfl rfl rfl rfl rfl T.Fj T.JN))) xX))))),?_⟩
  have qE:∀ n,codeD rooms t l w0=n->n≠8->E (.ref (XC.of ⟨a.AQ,a.Aj,a.An,a.Am,a.Ag,a.A0,a.Al,a.Ak⟩ n)) none H:=λn e ne=>e ▸ q2 (e ▸ ne)
  refine (zr rfl ⟨t.x,t.dx,zr rfl ⟨k.at_.ins,rfl,zr rfl (ex7 t l rooms tr tm ps n0 ⟨rfl,k,λc=>?_,λc=>qE 2 (by unfold codeD;rw [if_neg c]) (by decide)⟩)⟩⟩)
  obtain ⟨l,rfl⟩:=zM c.1
  obtain ⟨h,hh,_,hd⟩:=k.kvAt (l:=l) (by omega)
  refine (zr rfl ⟨t.x,_,t.dx,zr1 rfl ⟨k.at_.ins,T.Ai,T.n_Trip_book,rfl,zr rfl ⟨t.b,.int w0,ex5 ("int") rooms tr tm ps ⟨rfl,k.bk,rfl,zr rfl ?_⟩⟩⟩⟩)
  by_cases c2:0<=w0/\w0 < rooms.length
  ·have at1:atI (t.hs.map λh=>V.ref h.1) (l:Int)=some (V.ref h.1):=xj (by rw [zC,hh];rfl)
   refine iteB0 (by simp [inB];omega) (zr rfl (zr rfl ⟨t.x,_,t.dx,zr1 rfl ⟨k.at_.ins,T.Ai,T.n_Trip_holders,rfl,zr rfl (ixl k.at_.hol at1 ⟨h.1,zr rfl ⟨DGet.k (k:=Sum.inl w0) hd,zr rfl ?_⟩⟩)⟩⟩))
   have ce:codeD rooms t (l:Int) w0=if (kvget h.2 w0).isSome=true then 8 else 4:=by
    unfold codeD;rw [if_pos c,if_pos c2,zH,hh]
   rw [valV_kv,yE]
   cases c3:(kvget h.2 w0).isSome with
   | true=>exact iteB0 rfl (q1 (by rw [ce,c3];rfl))
   | false=>exact iteB1 rfl (qE 4 (by rw [ce,c3];rfl) (by decide))
  ·exact iteB1 (by simp [inB];omega) (qE 3 (by unfold codeD;rw [if_pos c,if_neg c2]) (by decide))
theorem DV:FnScope ["self", "meeting", "letter", "giver", "one", "two", "when", "many", "other"] ["self", "meeting", "letter", "giver"] (defScope wS):=⟨rfl,rfl,rfl,by decide +kernel,rfl,by decide +kernel,by decide +kernel⟩
theorem F1 (T:Tx K mg a t_MOST_TOKENS):FnOk P w K mg base (CXE P w) 4 a.Aw a.AW ["self", "meeting", "letter", "giver"] (spNeedP a.Aa ⟨a.AQ,a.Aj,a.An,a.Am,a.Ag,a.A0,a.Al,a.Ak⟩):=by
 have Nc:=@LY P w _ _ base _ _ T
 have Gr:=@FZ P w _ _ base _ _ T
 have EF:=@FY P w _ _ base _ _ T
 have DE:=@Ep P w _ _ base _ _ T
 have Nf:=@L5 P w _ _ base _ _ T
 have C6:=@D1 P w _ _ base _ _ T
 refine T.Ay.okE DV (λvs H Q E h=>?_) (λcdv A outer s H vs Q E hr h=>?_)
 ·obtain ⟨_,_,_,_,_,_,_,_,_,rfl,_⟩:=h;rfl
 ·have nd:=DV.nd
  have hu:=hr.units
  obtain ⟨t,m,l,g,rooms,tr,tm,ps,n0,rfl,k,q1,q2⟩:=h
  refine ⟨_,(xL (xZ (xi (PW.pt (pw_or (wE (xo (xP Gr (hr.mono (by decide)) rfl T.Gh T.Gi T.Gj .nil pass0 (xG (xH (xk (pv 0) rfl) (xH (pv 1) xN rfl) rfl))))) (pw_or1 (xb op_lt (pv 1) (xk (pv 0) rfl) (nomark _))))) (xL (xg (wI rfl rfl rfl rfl rfl T.Jp T.LU))) xX) (xZ (wc (wK (E:=E) (pv 0) T.Ai T.ED C6 (hr.mono (by decide)) T.Ez .nil (pass_on rfl rfl rfl (λ_ _ z=>z)) (xG (xH (pv 2) xN rfl)))) (xZ (PS.nox (wW (xU (xW rfl) (xU (xW rfl) (xk (pv 0) rfl) xI (λ_ _=>rfl)) (pv 1) (λ_ _=>rfl)) (xz (n:=4) rfl rfl (xT (xR (i:=4) nd rfl (by first | exact Or.inl rfl | exact Or.inr rfl)) (xT (xR (i:=5) nd rfl (by first | exact Or.inl rfl | exact Or.inr rfl)) (xT (xR (i:=6) nd rfl (by first | exact Or.inl rfl | exact Or.inr rfl)) (xT (xR (i:=7) nd rfl (by first | exact Or.inl rfl | exact Or.inr rfl)) xy))))))) (xZ (xi (xb op_notIn_seq (pv 3) (wF (xG (xH (pv 4) (xH (pv 5) xN rfl) rfl))) rfl) (xL (xg (wI rfl rfl rfl rfl rfl T.GQ T.JO))) xX) (xZ (xi (wE (xo (xP Nc (hr.mono (by decide)) rfl T.MJ T.MN T.MS .nil pass0 (xG (xH (pe_bm PySem.F.plainAttrs_dict PySem.F.slot_dict_get PySem.F.type_dict_get (mt_dget (by exact hu)) (xU (xV rfl) (xk (pv 0) rfl) (pv 2) (λ_ _=>rfl)) (xG (xH (pv 3) xN rfl))) (xH (pv 6) xN rfl) rfl))))) (xL (xg (wI rfl rfl rfl rfl rfl T.Fj T.JN))) xX) (xZ (PS.nox (xf (i:=8) nd rfl (by first | exact Or.inl rfl | exact Or.inr rfl) (xP EF (hr.mono (by decide)) rfl T.GP T.GR T.GT .nil pass0 (xG (xH (xk (pv 0) rfl) (xH (pv 1) (xH (pv 3) xN rfl) rfl) rfl))))) (xZ (xi (xb (op_inD hu) (pv 8) (xU (xV rfl) (xk (pv 0) rfl) (pv 2) (λ_ _=>rfl)) rfl) (xL (xg (wI rfl rfl rfl rfl rfl T.Nh T.Oe))) xX) (xZ (xi (xb op_ge (xU (xV rfl) (xk (pv 0) rfl) (pv 1) (λ_ _=>rfl)) (pv 7) (nomark _)) (xL (xg (wI rfl rfl rfl rfl rfl T.J6 T.NP))) xX) (xg (xi (PW.pt (pw_and (xo (wK (pv 0) T.Ai T.ER DE (hr.mono (by decide)) T.EM .nil pass0 (xG (xH (pv 2) (xH (pv 8) xN rfl) rfl)))) (wa (xb op_ge (xS (xQ rfl) (by rfl) T.b_len PySem.boot_len (xG (xH (wK (pv 0) T.Ai T.M9 Nf (hr.mono (by decide)) T.MU .nil pass0 (xG (xH (pv 8) xN rfl))) xN rfl))) (xU (xW rfl) (xU (xW rfl) (xk (pv 0) rfl) xI (λ_ _=>rfl)) (pv 8) (λ_ _=>rfl)) (nomark _))))) (xL (xg (wI rfl rfl rfl rfl rfl T.J5 T.NO))) xX))))))))))),?_⟩
  have line:=line9
  have qE:∀ n,codeP rooms (ps.map (·.2)) t m l g=n->n≠8->∀ H',Same H H'->E (.ref (XC.of ⟨a.AQ,a.Aj,a.An,a.Am,a.Ag,a.A0,a.Al,a.Ak⟩ n)) none H':=λn e ne=>e ▸ q2 (e ▸ ne)
  have lm:(ps.map (·.2)).length=ps.length:=zA _
  refine (zr rfl ⟨t.x,_,t.dx,zr1 rfl ⟨k.at_.ins,T.Ai,T.n_Trip_book,rfl,zr rfl ⟨t.b,.int m,ex5 ("int") rooms tr tm ps ⟨rfl,k.bk,rfl,zr rfl ?_⟩⟩⟩⟩)
  by_cases c1:0<=m/\m < ps.length
  rotate_left
  ·exact iteB1 (by simp [inB];omega) (iteB1 rfl (qE 1 (by unfold codeP;rw [lm,if_neg λz=>c1 ⟨z.1,z.2.1⟩]) (by decide) H (Same.refl _)))
  refine iteB0 (by simp [inB];omega) (zr rfl (zr rfl ⟨t.x,_,t.dx,zr1 rfl ⟨k.at_.ins,T.Ai,T.n_Trip_reached,rfl,zr2 rfl rfl (zr rfl (iteD (λc=>qE 1 (by unfold codeP;rw [lm,if_neg λz=>by omega]) (by decide) H (Same.refl _)) λc2=>?_))⟩⟩))
  refine (zr rfl ⟨t.x,t.dx,zr rfl ⟨k.at_.ins,rfl,zr rfl (ex7 t l rooms tr tm ps n0 ⟨rfl,k,λc3=>?_,λc3=>qE 2 (by unfold codeP;rw [lm,if_pos ⟨c1.1,c1.2,by omega⟩,if_neg c3]) (by decide) H (Same.refl _)⟩)⟩⟩)
  obtain ⟨m,rfl⟩:=zM c1.1
  obtain ⟨l,rfl⟩:=zM c3.1
  have hm:m < ps.length:=by omega
  obtain ⟨h,hh,_,hd⟩:=k.kvAt (l:=l) (by omega)
  obtain ⟨L,hL⟩:∃ L,t.ls[l]?=some L:=⟨_,zE (by omega)⟩
  obtain ⟨n,hn⟩:∃ n,t.ns[m]?=some n:=⟨_,zE (by have:=k.ln;omega)⟩
  obtain ⟨M,hp⟩:∃ M,ps[m]?=some M:=⟨_,zE hm⟩
  have hM:(ps.map (·.2))[m]?=some M.2:=by rw [zC,hp];rfl
  have ce:=codeP_at (rooms:=rooms) (ms:=ps.map (·.2)) (g:=g) (show t.r<=(m:Int) by omega) hM hL hh hn
  have hrow:H M.1=some (.tup M.2.vs):=k.bk.rows M (zD hp)
  have atm:atI (ps.map λa=>V.ref a.1) (m:Int)=some (V.ref M.1):=xj (by rw [zC,hp];rfl)
  have at1:atI (t.hs.map λh=>V.ref h.1) (l:Int)=some (V.ref h.1):=xj (by rw [zC,hh];rfl)
  have at2:atI (t.ns.map V.int) (m:Int)=some (V.int n):=xj (by rw [zC,hn];rfl)
  refine (zr rfl ⟨t.x,_,t.dx,zr1 rfl ⟨k.at_.ins,T.Ai,T.n_Trip_book,rfl,ixt k.bk.book rfl (zr rfl (ixt k.bk.meets atm (un4 hrow ?_)))⟩⟩)
  refine (zr rfl (zr rfl (zr rfl ⟨by show 2<=_;omega,λt2 ht2=>⟨t2,zr rfl ⟨.inr (SqT.of xJ),rfl,rfl,zr rfl ?_⟩⟩⟩)))
  have s1:=xM (o:=HO.tup [V.int M.2.lo,V.int M.2.hi]) ht2
  generalize upd H t2 (HO.tup [V.int M.2.lo,V.int M.2.hi])=H1 at s1 ⊢
  have k1:=k.same s1
  have hd1:=s1 _ _ hd
  have eV:inV (V.int g) [V.int M.2.lo,V.int M.2.hi]=decide (g=M.2.lo\/g=M.2.hi):=by
   simp [inV,eqV_int,Bool.decide_or]
   congr 1 <;> exact decide_eq_decide.mpr ⟨Eq.symm,Eq.symm⟩
  by_cases c4:g=M.2.lo\/g=M.2.hi
  rotate_left
  ·exact iteB1 (by show (!inV (V.int g) [V.int M.2.lo,V.int M.2.hi])=true;rw [eV,decide_eq_false c4];rfl) (qE 3 (by rw [ce];unfold codeP2;rw [if_neg c4]) (by decide) _ s1)
  refine iteB0 (by show (!inV (V.int g) [V.int M.2.lo,V.int M.2.hi])=false;rw [eV,decide_eq_true c4];rfl) ?_
  refine (zr rfl ⟨t.x,_,t.dx,zr1 rfl ⟨k1.at_.ins,T.Ai,T.n_Trip_holders,rfl,zr rfl (ixl k1.at_.hol at1 ⟨.inr (.inr (.inl ⟨rfl,.inl ⟨_,hd1⟩⟩)),zr rfl ⟨h.1,zr2 rfl rfl ⟨DGet.k (k:=Sum.inl g) hd1,zr rfl ⟨kvget h.2 g,M.2.t,by rw [valV_kv];cases kvget h.2 g <;> rfl,zr rfl ?_⟩⟩⟩⟩)⟩⟩)
  cases c5:below (kvget h.2 g) M.2.t with
  | false=>exact iteB1 rfl (qE 4 (by rw [ce];unfold codeP2;rw [if_pos c4,if_neg (by rw [c5];exact zG)]) (by decide) _ s1)
  | true=>
  refine iteB0 rfl (zr rfl ⟨t.x,_,t.dx,zr1 rfl ⟨k1.at_.ins,T.Ai,T.n_Trip_book,rfl,zr rfl (zr rfl (ex8 t.b m g rooms tr tm ps M.2 ⟨rfl,k1.bk,hM,?_⟩))⟩⟩)
  refine (zr rfl (zr rfl ⟨t.x,_,t.dx,zr1 rfl ⟨k1.at_.ins,T.Ai,T.n_Trip_holders,rfl,zr rfl (ixl k1.at_.hol at1 ⟨h.1,zr rfl ⟨DGet.k (k:=Sum.inl (othI M.2 g)) hd1,zr rfl ?_⟩⟩)⟩⟩))
  rw [valV_kv,yE]
  cases c6:(kvget h.2 (othI M.2 g)).isSome with
  | true=>exact iteB1 rfl (qE 5 (by rw [ce];unfold codeP2;rw [if_pos c4,if_pos c5,if_pos c6]) (by decide) _ s1)
  | false=>
  have n6:¬ (kvget h.2 (othI M.2 g)).isSome=true:=by rw [c6];exact zG
  refine iteB0 rfl (zr rfl ⟨t.x,_,t.dx,zr1 rfl ⟨k1.at_.ins,T.Ai,T.n_Trip_passed,rfl,zr rfl (ixl k1.at_.pas at2 (zr rfl (zr2 rfl rfl (zr rfl (iteD (λc7=>qE 6 (by rw [ce];unfold codeP2;rw [if_pos c4,if_pos c5,if_neg n6,if_pos c7]) (by decide) _ s1) λc7=>?_)))))⟩⟩)
  have c7':¬ M.2.m<=n:=c7
  refine (zr rfl ⟨t.x,t.dx,zr rfl ⟨k1.at_.ins,rfl,zr rfl (zr rfl ⟨t.x,t.b,t.dx,t.lL,t.lH,t.lA,t.lP,t.lD,t.ls,t.hs,t.os,t.ns,t.r,t.ds,l,othI M.2 g,L,rfl,k1.at_,hL,λH2 s2=>(zr rfl ?_)⟩)⟩⟩)
  have k2:=k1.same s2
  cases c8:(!(decide (othI M.2 g=L.2.s) || decide (othI M.2 g=L.2.w))) with
  | false=>exact iteB0 rfl (iteB0 rfl (q1 (by rw [ce];unfold codeP2;rw [if_pos c4,if_pos c5,if_neg n6,if_neg c7',if_neg (by show ¬ (takB L.2 (othI M.2 g) && _)=true;unfold takB;rw [c8];exact zG)]) _ (s1.trans s2)))
  | true=>
  have oi:=othI_in (g:=g) k.gd hM
  obtain ⟨o,eo⟩:=zM oi.1
  obtain ⟨rr,hrr⟩:∃ rr,rooms[o]?=some rr:=⟨_,zE (by omega)⟩
  have at3:atI (rooms.map V.int) (othI M.2 g)=some (V.int rr):=by rw [eo];exact xj (by rw [zC,hrr];rfl)
  refine iteB1 rfl (zr rfl ⟨t.x,t.dx,zr rfl ⟨k2.at_.ins,rfl,zr rfl ⟨t.x,t.b,t.dx,t.lL,t.lH,t.lA,t.lP,t.lD,t.ls,t.hs,t.os,t.ns,t.r,t.ds,othI M.2 g,rfl,k2.at_,by have:=k.lh;have:=k.few;omega,k.lh,λlb H3 s3 fl hlb=>?_⟩⟩⟩)
  have k3:=k2.same s3
  refine ⟨lb,zr rfl ⟨.inl (SqL.of hlb),zr rfl ⟨t.x,_,t.dx,zr1 rfl ⟨k3.at_.ins,T.Ai,T.n_Trip_book,rfl,ixt k3.bk.book rfl (zr rfl (ixt k3.bk.rooms at3 (zr2 rfl rfl (zr rfl ?_))))⟩⟩⟩⟩
  rw [zA]
  have e7:(takB L.2 (othI M.2 g) && decide ((rooms[(othI M.2 g).toNat]?.getD 0)<=((bagTo (othI M.2 g) t.ls t.hs t.hs.length).length:Int)))=decide (rr<=((bagTo (othI M.2 g) t.ls t.hs t.hs.length).length:Int)):=by
   unfold takB
   rw [c8,eo,zH,hrr];rfl
  refine iteD (λc9=>qE 7 (by rw [ce];unfold codeP2;rw [if_pos c4,if_pos c5,if_neg n6,if_neg c7',e7,if_pos (decide_eq_true c9)]) (by decide) _ ((s1.trans s2).trans s3)) λc9=>?_
  exact q1 (by rw [ce];unfold codeP2;rw [if_pos c4,if_pos c5,if_neg n6,if_neg c7',e7,if_neg (by rw [decide_eq_false c9];exact zG)]) _ ((s1.trans s2).trans s3)
theorem FC:FnScope ["self", "meeting", "letter", "giver", "other", "when"] ["self", "meeting", "letter", "giver"] (defScope El):=⟨rfl,rfl,rfl,by decide +kernel,rfl,by decide +kernel,by decide +kernel⟩
theorem JE (T:Tx K mg a t_MOST_TOKENS):FnOk P w K mg base CX0 2 a.A4 a.BM ["self", "meeting", "letter", "giver"] (spPassOn9 a.Aa):=by
 have EF:=@FY P w _ _ base _ _ T
 have C2:=@DW P w _ _ base _ _ T
 refine T.A8.ok FC (λvs H Q E h=>?_) (λcdv A outer s H vs Q E hr h=>?_)
 ·obtain ⟨_,_,_,_,_,_,_,_,_,_,_,rfl,_⟩:=h;rfl
 ·have nd:=FC.nd
  have hu:=hr.units
  obtain ⟨t,m,l,g,M,L,rooms,tr,tm,ps,n0,rfl,k,hM,hL,hg,n2,q⟩:=h
  refine ⟨_,(xL (xZ (xf (i:=4) nd rfl (by first | exact Or.inl rfl | exact Or.inr rfl) (xP EF (hr.mono (by decide)) rfl T.GP T.GR T.GT .nil pass0 (xG (xH (xk (pv 0) rfl) (xH (pv 1) (xH (pv 3) xN rfl) rfl) rfl)))) (xZ (xf (i:=5) nd rfl (by first | exact Or.inl rfl | exact Or.inr rfl) (xU (xW rfl) (xU (xW rfl) (xU (xW rfl) (xk (pv 0) rfl) xI (λ_ _=>rfl)) (pv 1) (λ_ _=>rfl)) xI (λ_ _=>rfl))) (xZ (ps_dput (Nat.lt_of_le_of_lt (Nat.add_le_add_left (by decide) _) hu) (xU (xV rfl) (xk (pv 0) rfl) (pv 2) (λ_ _=>rfl)) (pv 4) (pv 5) rfl) (xZ (ps_augS (xk (pv 0) rfl) (pv 1) (get_list rfl) xI ip_add wT) (xZ (ps_fld (pv 0) (pv 1) rfl) (xg (wc (wK (pv 0) T.Ai T.D3 C2 (hr.mono (by decide)) T.D2 .nil pass0 (xG (xH (pv 2) (xH (pv 4) (xH (pv 5) xN rfl) rfl) rfl))))))))))),?_⟩
  have line:100002<=sizeLine:=by rw [sizeLine_eq];decide
  have hl:l < t.ls.length:=(zB.mp hL).1
  obtain ⟨h,hh,ek,hd⟩:=k.kvAt hl
  obtain ⟨p0,hp⟩:∃ p0,ps[m]?=some p0:=⟨_,zE (by have:=(zB.mp hM).1;simpa using this)⟩
  have eM:p0.2=M:=by rw [zC,hp] at hM;exact Option.some.inj hM
  subst eM
  obtain ⟨n,hn⟩:∃ n,t.ns[m]?=some n:=⟨_,zE (by have:=k.ln;have:=(zB.mp hp).1;omega)⟩
  have hrow:H p0.1=some (.tup p0.2.vs):=k.bk.rows p0 (zD hp)
  have atm:atI (ps.map λa=>V.ref a.1) (m:Int)=some (V.ref p0.1):=xj (by rw [zC,hp];rfl)
  have at1:atI (t.hs.map λh=>V.ref h.1) (l:Int)=some (V.ref h.1):=xj (by rw [zC,hh];rfl)
  have sh:=k.sh h (zD hh)
  refine (zr rfl ⟨t.x,_,t.dx,zr1 rfl ⟨k.at_.ins,T.Ai,T.n_Trip_book,rfl,zr rfl (zr rfl (ex8 t.b m g rooms tr tm ps p0.2 ⟨rfl,k.bk,hM,?_⟩))⟩⟩)
  refine (zr rfl ⟨t.x,_,t.dx,zr1 rfl ⟨k.at_.ins,T.Ai,T.n_Trip_book,rfl,ixt k.bk.book rfl (zr rfl (ixt k.bk.meets atm (ixt hrow rfl ?_)))⟩⟩)
  refine (zr rfl (zr rfl ⟨t.x,_,t.dx,zr1 rfl ⟨k.at_.ins,T.Ai,T.n_Trip_holders,rfl,zr rfl (ixl k.at_.hol at1 (zr rfl ⟨h.1,zr rfl ⟨DPut.k (k:=Sum.inl (othI p0.2 g)) hd (by unfold kvV;rw [zA];omega),?_⟩⟩))⟩⟩))
  rw [putK_kv]
  have k1:=(k.mono (yT n0)).hset hh (kv:=kvput h.2 (othI p0.2 g) p0.2.t) (by have:=kvput_len h.2 (othI p0.2 g) p0.2.t;omega)
  have kp1:=k.hkeep hh (o:=HO.dK (kvV (kvput h.2 (othI p0.2 g) p0.2.t)))
  generalize upd H h.1 (HO.dK (kvV (kvput h.2 (othI p0.2 g) p0.2.t)))=H1 at k1 kp1 ⊢
  have pas1:H1 t.lP=some (.lst (t.ns.map V.int)):=k1.at_.pas
  have l2:m < (t.ns.map V.int).length:=by rw [zA];exact (zB.mp hn).1
  refine (zr rfl ⟨t.x,_,t.dx,zr1 rfl ⟨k1.at_.ins,T.Ai,T.n_Trip_passed,rfl,zr rfl ⟨t.lP,_,_,m,rfl,rfl,SqL.of pas1,(by show (t.ns.map V.int)[m]?=some (V.int n);rw [zC,hn];rfl),zr2 rfl rfl ⟨t.lP,_,_,m,rfl,rfl,pas1,(by show ixN (t.ns.map V.int).length (m:Int)=some m;unfold ixN;rw [if_pos (by omega),if_pos (by omega)];simp),?_⟩⟩⟩⟩)
  have k2:TrOk a.Aa (upd H1 t.lP (.lst ((t.ns.set m (n + 1)).map V.int))) { t.setH l (kvput h.2 (othI p0.2 g) p0.2.t) with ns:=t.ns.set m (n + 1) } rooms tr tm ps (n0 + 1):=k1.pset (by rw [zm];exact k.ln)
  have kp2:Keeps t H1 (upd H1 t.lP (.lst ((t.ns.set m (n + 1)).map V.int))):=Keeps.put (.inr (.inr (.inl rfl)))
  rw [zq] at k2 kp2
  show tSeq _ _ _ _ (upd H1 t.lP (HO.lst ((t.ns.map V.int).set m (V.int (n + 1)))))
  generalize upd H1 t.lP (HO.lst ((t.ns.map V.int).set m (V.int (n + 1))))=H2 at k2 kp2 ⊢
  have i2:H2 t.x=some (.ins a.Aa t.dx [("book", .ref t.b),("letters", .ref t.lL),("holders", .ref t.lH),("arrivals", .ref t.lA),("passed", .ref t.lP),("reached", .int t.r),("deeds", .ref t.lD)]):=k2.at_.ins
  refine (zr rfl (zr rfl ⟨t.x,_,t.dx,zr rfl ⟨i2,T.Ai,T.n_Trip_reached,by show 7 < 1000;decide,?_⟩⟩))
  have k3:=k2.rset (r:=(m:Int))
  have kp3:Keeps t H2 (upd H2 t.x (.ins a.Aa t.dx [("book", .ref t.b),("letters", .ref t.lL),("holders", .ref t.lH),("arrivals", .ref t.lA),("passed", .ref t.lP),("reached", .int (m:Int)),("deeds", .ref t.lD)])):=Keeps.put (.inl rfl)
  have k3':TrOk a.Aa (upd H2 t.x (.ins a.Aa t.dx (putF "reached" (.int (m:Int)) [("book", .ref t.b),("letters", .ref t.lL),("holders", .ref t.lH),("arrivals", .ref t.lA),("passed", .ref t.lP),("reached", .int t.r),("deeds", .ref t.lD)]))) _ rooms tr tm ps (n0 + 1):=k3
  have kp3':Keeps t H2 (upd H2 t.x (.ins a.Aa t.dx (putF "reached" (.int (m:Int)) [("book", .ref t.b),("letters", .ref t.lL),("holders", .ref t.lH),("arrivals", .ref t.lA),("passed", .ref t.lP),("reached", .int t.r),("deeds", .ref t.lD)]))):=kp3
  have i3:upd H2 t.x (.ins a.Aa t.dx (putF "reached" (.int (m:Int)) [("book", .ref t.b),("letters", .ref t.lL),("holders", .ref t.lH),("arrivals", .ref t.lA),("passed", .ref t.lP),("reached", .int t.r),("deeds", .ref t.lD)])) t.x=some (.ins a.Aa t.dx [("book", .ref t.b),("letters", .ref t.lL),("holders", .ref t.lH),("arrivals", .ref t.lA),("passed", .ref t.lP),("reached", .int (m:Int)),("deeds", .ref t.lD)]):=xJ
  refine (zr rfl ⟨t.x,t.dx,zr rfl ⟨i3,rfl,zr rfl (zr rfl (zr rfl ⟨_,_,_,_,_,_,_,_,_,_,_,_,_,_,l,othI p0.2 g,p0.2.t,L,rfl,k3'.at_,hL,by show l < t.os.length;rw [k.lo];exact hl,λH4 b4 h4=>?_⟩))⟩⟩)
  have k4:=k3'.aset (os:=noteA t.os l L.2 (othI p0.2 g) p0.2.t) (by rw [noteA_len];exact k.lo) b4 h4
  refine q H4 (((kp1.trans kp2).trans kp3').trans (Keeps.but (.inr (.inl rfl)) b4)) ?_
  have e:t.passed m l p0.2 L.2 (othI p0.2 g)={ t.setH l (kvput h.2 (othI p0.2 g) p0.2.t) with ns:=t.ns.set m (n + 1),r:=(m:Int),os:=noteA t.os l L.2 (othI p0.2 g) p0.2.t }:=by
   unfold Tr.passed;rw [ek,hn];rfl
  rw [e]
  exact k4
theorem JS:FnScope ["self", "deed", "kind", "meeting", "letter", "giver", "walker"] ["self", "deed"] (defScope Ix):=⟨rfl,rfl,rfl,by decide +kernel,rfl,by decide +kernel,by decide +kernel⟩
theorem MG (T:Tx K mg a t_MOST_TOKENS):FnOk P w K mg base (CXE P w) 5 a.Dt a.D9 ["self", "deed"] (spDo9 a.Aa ⟨a.AQ,a.Aj,a.An,a.Am,a.Ag,a.A0,a.Al,a.Ak⟩):=by
 have LR:=@KP P w _ _ base _ _ T
 have NJ:=@MD P w _ _ base _ _ T
 have Jc:=@Hg P w _ _ base _ _ T
 have Gs:=@F1 P w _ _ base _ _ T
 have KK:=@JE P w _ _ base _ _ T
 refine T.Du.okE JS (λvs H Q E h=>?_) (λcdv A outer s H vs Q E hr h=>?_)
 ·obtain ⟨_,_,_,_,_,_,_,rfl,_⟩:=h;rfl
 ·have nd:=JS.nd
  have hu:=hr.units
  obtain ⟨t,y,rooms,tr,tm,ps,n0,rfl,k,n2,h⟩:=h
  refine ⟨_,(xL (xZ (xi (xo (xP LR (hr.mono (by decide)) rfl T.Lx T.LA T.LC .nil pass0 (xG (xH (pv 1) xN rfl)))) (xL (xZ (PS.nox (wW (pv 1) (xz (n:=4) rfl rfl (xT (xR (i:=2) nd rfl (by first | exact Or.inl rfl | exact Or.inr rfl)) (xT (xR (i:=3) nd rfl (by first | exact Or.inl rfl | exact Or.inr rfl)) (xT (xR (i:=4) nd rfl (by first | exact Or.inl rfl | exact Or.inr rfl)) (xT (xR (i:=5) nd rfl (by first | exact Or.inl rfl | exact Or.inr rfl)) xy))))))) (xZ (wc (wK (E:=E) (pv 0) T.Ai T.Gq Gs (hr.mono (by decide)) T.Gk .nil (pass_on rfl rfl rfl (λ_ _ z=>z)) (xG (xH (pv 3) (xH (pv 4) (xH (pv 5) xN rfl) rfl) rfl)))) (xZ (PS.nox (wc (wK (pv 0) T.Ai T.KC KK (hr.mono (by decide)) T.Kh .nil pass0 (xG (xH (pv 3) (xH (pv 4) (xH (pv 5) xN rfl) rfl) rfl))))) (xg (PS.nox (xi (xb wM (pv 2) pe_str (nomark _)) (xL (xg (ps_ddel (xU (xV rfl) (xk (pv 0) rfl) (pv 4) (λ_ _=>rfl)) (pv 5)))) xX))))))) (xL (xg (xi (xo (xP NJ (hr.mono (by decide)) rfl T.Nu T.Ny T.NB .nil pass0 (xG (xH (pv 1) xN rfl)))) (xL (xZ (PS.nox (wW (pv 1) (xz (n:=3) rfl rfl (xT (xR (i:=2) nd rfl (by first | exact Or.inl rfl | exact Or.inr rfl)) (xT (xR (i:=4) nd rfl (by first | exact Or.inl rfl | exact Or.inr rfl)) (xT (xR (i:=6) nd rfl (by first | exact Or.inl rfl | exact Or.inr rfl)) xy)))))) (xZ (wc (wK (E:=E) (pv 0) T.Ai T.Jb Jc (hr.mono (by decide)) T.IQ .nil (pass_on rfl rfl rfl (λ_ _ z=>z)) (xG (xH (pv 4) (xH (pv 6) xN rfl) rfl)))) (xg (PS.nox (ps_ddel (xU (xV rfl) (xk (pv 0) rfl) (pv 4) (λ_ _=>rfl)) (pv 6))))))) (xL (xg (wI rfl rfl rfl rfl rfl T.Ma T.NQ))))))) (xg (PS.nox (wc (pe_bm PySem.F.plainAttrs_list PySem.F.slot_list_append PySem.F.type_list_append mt_append (xk (pv 0) rfl) (xG (xH (pv 1) xN rfl)))))))),?_⟩
  have line:100002<=sizeLine:=by rw [sizeLine_eq];decide
  rcases h with ⟨d,⟨p,rfl,hd⟩,q1,q2⟩ | ⟨p,xs,rfl,hp,q⟩
  ·cases d with
   | drop l w0=>
    refine (zr rfl (zr rfl (.inl ⟨.drop l w0,⟨p,rfl,hd⟩,λH1 s1=>(zr rfl (iteB0 rfl (zr rfl (zr rfl (.inl ⟨l,w0,⟨p,rfl,s1 _ _ hd⟩,λH2 s2=>(zr rfl (iteB1 rfl ?_))⟩)))))⟩)))
    have s12:=s1.trans s2
    have hd2:=s12 _ _ hd
    have k2:=k.same s12
    refine (zr rfl (un3 hd2 ?_))
    refine (zr rfl ⟨t.x,t.dx,zr rfl ⟨k2.at_.ins,rfl,zr rfl (zr rfl (ex8 t l w0 rooms tr tm ps n0 ⟨rfl,k2,λc=>?_,λc=>q2 c H2 s12⟩))⟩⟩)
    obtain ⟨l,h,rfl,hl,hh,hw,_,_⟩:=codeD8 c
    obtain ⟨h',hh',ek,hd3⟩:=k2.kvAt hl
    rw [hh] at hh';cases hh'
    have at1:atI (t.hs.map λh=>V.ref h.1) (l:Int)=some (V.ref h.1):=xj (by rw [zC,hh];rfl)
    refine (zr rfl ⟨t.x,_,t.dx,zr1 rfl ⟨k2.at_.ins,T.Ai,T.n_Trip_holders,rfl,zr rfl (ixl k2.at_.hol at1 (zr rfl ⟨h.1,_,Sum.inl w0,rfl,hd3,rfl,(by rw [valV_kv,yE];exact hw),?_⟩))⟩⟩)
    rw [dropK_kv]
    have k3:=(k2.mono (yT n0)).hset hh (kv:=kvdel h.2 w0) (by have:=kvdel_len h.2 w0;have:=k.sh h (zD hh);omega)
    have kp3:=(Keeps.same s12).trans (k2.hkeep hh (o:=HO.dK (kvV (kvdel h.2 w0))))
    generalize upd H2 h.1 (HO.dK (kvV (kvdel h.2 w0)))=H3 at k3 kp3 ⊢
    refine (zr rfl ⟨t.x,_,t.dx,zr1 rfl ⟨k3.at_.ins,T.Ai,T.n_Trip_deeds,rfl,.inl ⟨rfl,_,SqL.of k3.at_.dee⟩,zr rfl ⟨t.lD,t.ds,zr rfl ⟨rfl,k3.at_.dee,by have:=k.dn;omega,?_⟩⟩⟩⟩)
    refine q1 c _ (kp3.trans (Keeps.put (.inr (.inr (.inr (.inl rfl)))))) ?_
    have kZ:TrOk a.Aa (upd H3 t.lD (.lst (t.ds++[V.ref p]))) { t.setH l (kvdel h.2 w0) with ds:=t.ds++[V.ref p] } rooms tr tm ps (n0 + 1):=k3.dset (by have:=k.dn;show t.ds.length < n0 + 1;omega)
    have e:t.doneT (ps.map (·.2)) (V.ref p) (.drop (l:Int) w0)={ t.setH l (kvdel h.2 w0) with ds:=t.ds++[V.ref p] }:=by
     unfold Tr.doneT;dsimp only;rw [zH,ek]
    rw [e];exact kZ
   | pass gv m l g=>
    refine (zr rfl (zr rfl (.inl ⟨.pass gv m l g,⟨p,rfl,hd⟩,λH1 s1=>(zr rfl (iteB1 rfl ?_))⟩)))
    have hd1:=s1 _ _ hd
    have k1:=k.same s1
    refine (zr rfl (un4 hd1 ?_))
    refine (zr rfl ⟨t.x,t.dx,zr rfl ⟨k1.at_.ins,rfl,zr rfl (zr rfl (zr rfl (ex9 t m l g rooms tr tm ps n0 ⟨rfl,k1,λc H2 s2=>?_,λc H2 s2=>q2 c H2 (s1.trans s2)⟩)))⟩⟩)
    obtain ⟨m,l,M,L,h,rfl,rfl,hM,hL,hh,hr',hg,hb,ho,_⟩:=codeP8 k.lh c
    have k2:=k1.same s2
    refine (zr rfl ⟨t.x,t.dx,zr rfl ⟨k2.at_.ins,rfl,zr rfl (zr rfl (zr rfl (ex11 t m l g M L rooms tr tm ps n0 ⟨rfl,k2,hM,hL,hg,n2,λH3 kp3 k3=>?_⟩)))⟩⟩)
    have kp:=(Keeps.same (s1.trans s2)).trans kp3
    have eT:∀ gv,t.doneT (ps.map (·.2)) (V.ref p) (.pass gv (m:Int) (l:Int) g)={ t.doneP gv m l g M L.2 with ds:=t.ds++[V.ref p] }:=λgv=>by
     unfold Tr.doneT;dsimp only;rw [zH,zH,hM,hL]
    refine (zr rfl ⟨rfl,zr rfl ?_⟩)
    cases gv with
    | false=>
     refine iteB0 rfl ?_
     refine (zr rfl ⟨t.x,_,t.dx,zr1 rfl ⟨k3.at_.ins,T.Ai,T.n_Trip_deeds,rfl,.inl ⟨rfl,_,SqL.of k3.at_.dee⟩,zr rfl ⟨t.lD,t.ds,zr rfl ⟨rfl,k3.at_.dee,by have:=k.dn;omega,?_⟩⟩⟩⟩)
     refine q1 c _ (kp.trans (Keeps.put (.inr (.inr (.inr (.inl rfl)))))) ?_
     have kZ:TrOk a.Aa (upd H3 t.lD (.lst (t.ds++[V.ref p]))) { t.passed m l M L.2 (othI M g) with ds:=t.ds++[V.ref p] } rooms tr tm ps (n0 + 1):=k3.dset (by have:=k.dn;show t.ds.length < n0 + 1;omega)
     rw [eT];exact kZ
    | true=>
     have pk:=passed_kv (m:=m) (M:=M) (L:=L.2) (o:=othI M g) (C:=a.Aa) (H:=H) (rooms:=rooms) (tr:=tr) (tm:=tm) (ps:=ps) (n0:=n0) hh
     have lp:l < (t.passed m l M L.2 (othI M g)).ls.length:=(zB.mp hL).1
     obtain ⟨h',hh',ek,hd3⟩:=k3.kvAt lp
     rw [pk.1] at hh';cases hh'
     have at1:atI ((t.passed m l M L.2 (othI M g)).hs.map λh=>V.ref h.1) (l:Int)=some (V.ref h.1):=xj (by rw [zC,pk.1];rfl)
     refine iteB1 rfl (zr rfl ⟨t.x,_,t.dx,zr1 rfl ⟨k3.at_.ins,T.Ai,T.n_Trip_holders,rfl,zr rfl (ixl k3.at_.hol at1 (zr rfl ⟨h.1,_,Sum.inl g,rfl,hd3,rfl,(by rw [valV_kv,yE,kvget_put];split;rfl;exact below_some hb),?_⟩))⟩⟩)
     rw [dropK_kv]
     have k4:=k3.hset pk.1 (kv:=kvdel (kvput h.2 (othI M g) M.t) g) (by have:=kvdel_len (kvput h.2 (othI M g) M.t) g;have:=kvput_len h.2 (othI M g) M.t;have:=k.sh h (zD hh);omega)
     have kp4:Keeps t H (upd H3 h.1 (HO.dK (kvV (kvdel (kvput h.2 (othI M g) M.t) g)))):=kp.trans (Keeps.put (.inr (.inr (.inr (.inr (zO.mpr ⟨h,zD hh,rfl⟩))))))
     have k4':TrOk a.Aa (upd H3 h.1 (HO.dK (kvV (kvdel (kvput h.2 (othI M g) M.t) g)))) ((t.passed m l M L.2 (othI M g)).setH l (kvdel (kvput h.2 (othI M g) M.t) g)) rooms tr tm ps (n0 + 1):=k4
     generalize upd H3 h.1 (HO.dK (kvV (kvdel (kvput h.2 (othI M g) M.t) g)))=H4 at k4' kp4 ⊢
     refine (zr rfl ⟨t.x,_,t.dx,zr1 rfl ⟨k4'.at_.ins,T.Ai,T.n_Trip_deeds,rfl,.inl ⟨rfl,_,SqL.of k4'.at_.dee⟩,zr rfl ⟨t.lD,t.ds,zr rfl ⟨rfl,k4'.at_.dee,by have:=k.dn;omega,?_⟩⟩⟩⟩)
     refine q1 c _ (kp4.trans (Keeps.put (.inr (.inr (.inr (.inl rfl)))))) ?_
     have kZ:TrOk a.Aa (upd H4 t.lD (.lst (t.ds++[V.ref p]))) { (t.passed m l M L.2 (othI M g)).setH l (kvdel (kvput h.2 (othI M g) M.t) g) with ds:=t.ds++[V.ref p] } rooms tr tm ps (n0 + 1):=k4'.dset (by have:=k.dn;show t.ds.length < n0 + 1;omega)
     rw [eT]
     have eP:t.doneP true m l g M L.2=(t.passed m l M L.2 (othI M g)).setH l (kvdel (kvput h.2 (othI M g) M.t) g):=by
      unfold Tr.doneP;rw [if_pos rfl,pk.2]
     rw [eP];exact kZ
  ·exact (zr rfl (zr rfl (.inr ⟨p,xs,rfl,hp,zr rfl (iteB0 rfl (zr rfl (zr rfl (.inr ⟨p,xs,rfl,hp,zr rfl (iteB0 rfl q)⟩))))⟩)))
theorem FM:FnScope ["book", "meeting", "row", "one", "other", "when", "many"] ["book", "meeting", "row"] (defScope ET):=⟨rfl,rfl,rfl,by decide +kernel,rfl,by decide +kernel,by decide +kernel⟩
theorem JT (T:Tx K mg a t_MOST_TOKENS):FnOk P w K mg base CX0 1 a.Bl a.Ca ["book", "meeting", "row"] (spLoneH):=by
 refine T.BE.ok FM (λvs H Q E h=>?_) (λcdv A outer s H vs Q E hr h=>?_)
 ·obtain ⟨_,_,_,_,_,_,_,_,_,rfl,_⟩:=h;rfl
 ·have nd:=FM.nd
  have hu:=hr.units
  obtain ⟨b,m,row,os,M,rooms,tr,tm,ps,rfl,hb,gd,hM,hrow,los,q⟩:=h
  refine ⟨_,(xL (xZ (wW (xU (xW rfl) (xU (xW rfl) (pv 0) xI (λ_ _=>rfl)) (pv 1) (λ_ _=>rfl)) (xz (n:=4) rfl rfl (xT (xR (i:=3) nd rfl (by first | exact Or.inl rfl | exact Or.inr rfl)) (xT (xR (i:=4) nd rfl (by first | exact Or.inl rfl | exact Or.inr rfl)) (xT (xR (i:=5) nd rfl (by first | exact Or.inl rfl | exact Or.inr rfl)) (xT (xR (i:=6) nd rfl (by first | exact Or.inl rfl | exact Or.inr rfl)) xy)))))) (xZ (xi (xb wM (pe_cmp (pc_isN (xU (xV rfl) (pv 2) (pv 3) (λ_ _=>rfl)))) (pe_cmp (pc_isN (xU (xV rfl) (pv 2) (pv 4) (λ_ _=>rfl)))) (nomark _)) (xL (xg (xY pe_non))) xX) (xg (xY (pe_ifExp (pt_cmp (pc_isN (xU (xV rfl) (pv 2) (pv 3) (λ_ _=>rfl)))) (pv 4) (pv 3))))))),?_⟩
  have line:=line9
  obtain ⟨p0,hp⟩:∃ p0,ps[m]?=some p0:=⟨_,zE (by have:=(zB.mp hM).1;simpa using this)⟩
  have eM:p0.2=M:=by rw [zC,hp] at hM;exact Option.some.inj hM
  subst eM
  have hrowM:H p0.1=some (.tup p0.2.vs):=hb.rows p0 (zD hp)
  have atm:atI (ps.map λa=>V.ref a.1) (m:Int)=some (V.ref p0.1):=xj (by rw [zC,hp];rfl)
  have ge:=gd.each p0.2 (zD hM)
  have at_:∀ w:Int,0<=w->w < rooms.length->atI (os.map oV) w=some (oV (oAt os w)):=λw w0 w1=>by
   obtain ⟨n,rfl⟩:=zM w0
   refine xj ?_
   rw [zC]
   unfold oAt
   rw [zH,zE (by omega)];rfl
  have a1:=at_ p0.2.lo (by omega) (by omega)
  have a2:=at_ p0.2.hi (by omega) (by omega)
  refine (zr rfl (ixt hb.book rfl (zr rfl (ixt hb.meets atm (un4 hrowM ?_)))))
  have ql:∀ v,loneH p0.2 os=v->Q (oV v) H:=λv e=>by rw [<-e];exact q
  unfold loneH at ql
  cases e1:oAt os p0.2.lo with
  | none=>
   rw [e1] at a1 ql
   cases e2:oAt os p0.2.hi with
   | none=>
    rw [e2] at a2 ql
    exact (zr rfl (zr rfl (ixl hrow a1 (zr rfl (zr rfl (ixl hrow a2 ⟨rfl,zr rfl (iteB1 rfl (ql none rfl))⟩))))))
   | some y=>
    rw [e2] at a2 ql
    exact (zr rfl (zr rfl (ixl hrow a1 (zr rfl (zr rfl (ixl hrow a2 ⟨rfl,zr rfl (iteB0 rfl (zr rfl (zr rfl (ixl hrow a1 (zr rfl (iteB1 rfl (zr rfl (ql (some p0.2.hi) rfl))))))))⟩))))))
  | some x=>
   rw [e1] at a1 ql
   cases e2:oAt os p0.2.hi with
   | none=>
    rw [e2] at a2 ql
    exact (zr rfl (zr rfl (ixl hrow a1 (zr rfl (zr rfl (ixl hrow a2 ⟨rfl,zr rfl (iteB0 rfl (zr rfl (zr rfl (ixl hrow a1 (zr rfl (iteB0 rfl (zr rfl (ql (some p0.2.lo) rfl))))))))⟩))))))
   | some y=>
    rw [e2] at a2 ql
    exact (zr rfl (zr rfl (ixl hrow a1 (zr rfl (zr rfl (ixl hrow a2 ⟨rfl,zr rfl (iteB1 rfl (ql none rfl))⟩))))))
theorem JQ:FnScope ["trip", "deed"] ["trip", "deed"] (defScope Iv):=⟨rfl,rfl,rfl,by decide +kernel,rfl,by decide +kernel,by decide +kernel⟩
theorem ME (T:Tx K mg a t_MOST_TOKENS):FnOk P w K mg base CX0 6 a.Dr a.D7 ["trip", "deed"] (spIsDone a.Aa):=by
 have NL:=@MG P w _ _ base _ _ T
 refine T.DQ.ok JQ (λvs H Q E h=>?_) (λcdv A outer s H vs Q E hr h=>?_)
 ·obtain ⟨_,_,_,_,_,_,_,_,rfl,_⟩:=h;rfl
 ·have nd:=JQ.nd
  have hu:=hr.units
  obtain ⟨t,y,d,rooms,tr,tm,ps,n0,rfl,k,n9,hd,cs,q1,q2⟩:=h
  refine ⟨_,(xL (xZ (ps_try3 rfl (psx_meth (pv 0) T.Ai T.NI NL (hr.mono (by decide)) T.ND .nil (xG (xH (pv 1) xN rfl))) rfl rfl rfl T.Fj rfl T.J6 rfl T.J5 (λ_=>(xL (xg (xY wD))))) (xg (xY wD)))),?_⟩
  have line:=line9
  refine (zr rfl ⟨t.x,t.dx,zr rfl ⟨k.at_.ins,rfl,zr rfl (ex7 t y rooms tr tm ps n0 ⟨rfl,k,n9,.inl ⟨d,hd,λc H1 kp k1=>q1 c H1 kp k1,λc H1 s1=>?_⟩⟩)⟩⟩)
  rcases cs with e | e | e | e
  ·rw [e];exact ⟨T.f_d4,zr rfl (q2 c H1 s1)⟩
  ·rw [e];exact ⟨T.f_d6,zr rfl (q2 c H1 s1)⟩
  ·rw [e];exact ⟨T.f_d7,zr rfl (q2 c H1 s1)⟩
  ·exact absurd e c
theorem Jd:FnScope ["book", "having", "since"] ["book", "having"] (defScope Fa):=⟨rfl,rfl,rfl,by decide +kernel,rfl,by decide +kernel,by decide +kernel⟩
theorem LW (T:Tx K mg a t_MOST_TOKENS):FnOk P w K mg base CX0 1 a.Co a.DH ["book", "having"] (spTimesOf):=by
 refine T.C7.ok Jd (λvs H Q E h=>?_) (λcdv A outer s H vs Q E hr h=>?_)
 ·obtain ⟨_,_,_,_,_,_,_,_,rfl,_⟩:=h;rfl
 ·have nd:=Jd.nd
  have hu:=hr.units
  obtain ⟨b,l,qs,kv,rooms,tr,tm,ps,rfl,hb,rm,hl,hq,pm,knd,q⟩:=h
  refine ⟨_,(xL (xZ (xf (i:=2) nd rfl (by first | exact Or.inl rfl | exact Or.inr rfl) (wJ (call_dictP rfl rfl) (by rfl) T.b_dict PyProof.Rows.boot_dict (xG (xH (pv 1) xN rfl)))) (xg (xY (wf (own:=["walker"]) (caps:=[2]) rfl (show CompScope ["walker"] [2] ["book", "having", "since"] (defScope Fa) _ from ⟨rfl,by decide +kernel,by decide +kernel,by decide +kernel,by decide +kernel⟩) (wN rfl T.b_range (xG (xH (xS (xQ rfl) (by rfl) T.b_len PySem.boot_len (xG (xH (xU (xW rfl) (pv 0) xI (λ_ _=>rfl)) xN rfl))) xN rfl))) (λ_ _ _ _=>(xR (i:=0) (show List.Nodup (["walker", "since"]:List Str) from by decide +kernel) rfl (by first | exact Or.inl rfl | exact Or.inr rfl))) (λ_ _ _ _=>we) (λ_ _ _ _=>(pe_bmK rfl PySem.F.plainAttrs_dict PySem.F.slot_dict_get PySem.F.type_dict_get (mt_dget (by exact hu)) (pv 1) (xG (xH (pv 0) xN rfl))))))))),?_⟩
  have line:=line9
  have h2:∀ x∈qs,∃ i j,x.2=[i,j]:=λx hx=>by
   obtain ⟨pr,_,e⟩:=zO.mp (pm.mem_iff.mp (zO.mpr ⟨x,hx,rfl⟩))
   exact ⟨_,_,e.symm⟩
  obtain ⟨sv,esv⟩:∃ sv:List (Int×Int),qs.map (·.2)=sv.map λp=>[p.1,p.2]:=by
   refine ⟨qs.map λx=>(x.2[0]?.getD 0,x.2[1]?.getD 0),?_⟩
   rw [zX]
   refine yL λx hx=>?_
   obtain ⟨i,j,e⟩:=h2 x hx
   show x.2=[x.2[0]?.getD 0,x.2[1]?.getD 0]
   rw [e];rfl
  have psv:sv.Perm kv:=by
   rw [esv] at pm
   have:=pm.map (λx:List Int=>(x[0]?.getD 0,x[1]?.getD 0))
   rw [zX,zX] at this
   have e1:∀ xs:List (Int×Int),xs.map ((λx:List Int=>(x[0]?.getD 0,x[1]?.getD 0)) ∘ λp=>[p.1,p.2])=xs:=λxs=>List.map_id' xs
   rw [e1,e1] at this
   exact this
  have ndv:(sv.map (·.1)).Nodup:=((psv.map (·.1)).nodup_iff).mpr knd
  refine (zr rfl ⟨l,qs.map λx=>(x.1,x.2[0]?.getD 0,V.int (x.2[1]?.getD 0)),rfl,by rw [zX];exact SqL.of hl,λz hz=>?_,λp hp=>?_⟩)
  ·obtain ⟨x,hx,rfl⟩:=zO.mp hz
   have:=hq x hx
   obtain ⟨i,j,e⟩:=h2 x hx
   rw [e] at this ⊢
   exact SqT.of this
  have em:((qs.map λx=>(x.1,x.2[0]?.getD 0,V.int (x.2[1]?.getD 0))).map λk=>((Sum.inl k.2.1:Key),k.2.2))=sv.map λp=>(Sum.inl p.1,V.int p.2):=by
   have e3:=congrArg (List.map λx:List Int=>((Sum.inl (x[0]?.getD 0):Key),V.int (x[1]?.getD 0))) esv
   rw [zX,zX] at e3
   rw [zX]
   exact e3
  rw [em,show ([]:List (Key×V))=kvV [] from rfl,merge_kv]
  have s1:=xM (o:=HO.dK (kvV (kvAll [] sv))) hp
  have k1:upd H p (HO.dK (kvV (kvAll [] sv))) p=some (.dK (kvV (kvAll [] sv))):=xJ
  generalize upd H p (HO.dK (kvV (kvAll [] sv)))=H1 at s1 k1 ⊢
  have hb1:=hb.same s1
  have gv:∀ w:Int,kvget (kvAll [] sv) w=kvget kv w:=λw=>by
   rw [kvget_all ndv,kvget_perm psv knd]
   cases kvget kv w <;> rfl
  refine (zr rfl (ixt hb1.book rfl ⟨tr,zr rfl ⟨.inr (SqT.of hb1.rooms),zr rfl ⟨by omega,by rw [zA];omega,?_⟩⟩⟩))
  refine comp_range (lo:=0) (m:=(rooms.map V.int).length) (λi τ acc H6=>(∃ t0,τ=[t0,some (.ref p)])/\acc=(tmsOf i kv).map oV/\H1=H6) ⟨⟨_,rfl⟩,rfl,rfl⟩ (by rw [zA];omega) ?_ ?_ ?_
  ·rintro i τ acc H6 ⟨_,rfl,_⟩
   unfold tmsOf
   rw [zA,zA,zv];exact zK _
  ·rintro i τ acc H6 C hi ⟨⟨t0,rfl⟩,rfl,rfl⟩ hC
   rw [Int.zero_add]
   refine (zr rfl ⟨.inr (.inr (.inl ⟨rfl,.inl ⟨_,k1⟩⟩)),zr rfl ⟨p,zr2 rfl rfl ⟨DGet.k (k:=Sum.inl (i:Int)) k1,hC _ _ _ ⟨⟨_,rfl⟩,?_,rfl⟩⟩⟩⟩)
   rw [valV_kv,gv]
   unfold tmsOf
   rw [List.range_succ,zQ,zQ]
   congr 1
   show [_]=[oV (kvget kv (i:Int))]
   cases kvget kv (i:Int) <;> rfl
  rintro τ acc H6 ⟨_,rfl,rfl⟩ lr hlr
  rw [zA]
  exact q lr _ (s1.trans (xM hlr)) (s1.free hlr) xJ
theorem JR:FnScope ["_law_found", "_law_due"] ["_law_found", "_law_due"] (defScope Iw):=⟨rfl,rfl,rfl,by decide +kernel,rfl,by decide +kernel,by decide +kernel⟩
theorem MF (T:Tx K mg a t_MOST_TOKENS):FnOk P w K mg base CX0 2 a.Ds a.D8 ["_law_found", "_law_due"] (spIs):=by
 have Fw:=@GB P w _ _ base _ _ T
 refine T.DR.ok JR (λvs H Q E h=>?_) (λcdv A outer s H vs Q E hr h=>?_)
 ·obtain ⟨_,rfl,_⟩:=h;rfl
 ·have nd:=JR.nd
  have hu:=hr.units
  obtain ⟨x,rfl,hx,q⟩:=h
  refine ⟨_,(xL (xZ (xi (PW.pt (pw_or (pt_cmp (pc_isN (pv 1))) (pw_or1 (pt_cmp (pc_isN (pv 0)))))) (xL (xg (xY (pe_and (pe_cmp (pc_isN (pv 1))) (pe_one (pe_cmp (pc_isN (pv 0)))))))) xX) (xg (xY (pe_and (xP Fw (hr.mono (by decide)) rfl T.Hi T.Hm T.Hr .nil pass0 (xG (xH (pv 0) xN rfl))) (pe_one (pe_cmpR wM (pv 0) (pv 1) (nomark _)))))))),?_⟩
  rcases hx with rfl | ⟨i,rfl⟩
  ·exact (zr rfl (zr rfl (iteB1 rfl (iteB1 rfl (zr rfl (zr rfl (iteB1 rfl (zr rfl q))))))))
  ·refine (zr rfl (zr rfl (iteB0 rfl (zr rfl (zr rfl (iteB0 rfl ?_))))))
   refine (zr rfl ⟨_, "int", rfl,rfl,zr rfl (iteB1 rfl (zr rfl (zr rfl ⟨rfl,?_⟩)))⟩)
   rw [decide_eq_true rfl]
   exact q
theorem NR:FnScope ["book", "letters", "rule", "trip", "tokens", "meeting", "number", "letter", "giver", "other", "share", "times"] ["book", "letters", "rule"] (defScope LV):=⟨rfl,rfl,rfl,by decide +kernel,rfl,by decide +kernel,by decide +kernel⟩
theorem NU (T:Tx K mg a t_MOST_TOKENS):FnOk P w K mg base (CXE P w) 7 a.Jw a.Lh ["book", "letters", "rule"] (spRunE a.Aa a.At a.Ao a.Ah a.As):=by
 have EF:=@FY P w _ _ base _ _ T
 have Nb:=@LX P w _ _ base _ _ T
 have Ih:=@GN P w _ _ base _ _ T
 have KN:=@JH P w _ _ base _ _ T
 have Ie:=@GL P w _ _ base _ _ T
 have KM:=@JG P w _ _ base _ _ T
 have Id:=@GJ P w _ _ base _ _ T
 have KL:=@JF P w _ _ base _ _ T
 have JL:=@IH P w _ _ base _ _ T
 have Ld:=@JW P w _ _ base _ _ T
 have Mz:=@Lv P w _ _ base _ _ T
 have La:=@JT P w _ _ base _ _ T
 have NK:=@ME P w _ _ base _ _ T
 have Na:=@LW P w _ _ base _ _ T
 refine T.KO.okE NR (λvs H Q E h=>?_) (λcdv A outer s H vs Q E hr h=>?_)
 ·rcases h with h | h
  ·obtain ⟨_,_,_,_,_,_,_,_,_,rfl,_⟩:=h;rfl
  ·obtain ⟨_,_,_,_,_,_,_,_,_,_,_,_,rfl,_⟩:=h;rfl
 ·have nd:=NR.nd
  have hu:=hr.units
  skip
  refine ⟨_,(xL (xZ (xi (PW.pt (pw_and (xo (xS (call_isO rfl) (by rfl) T.b_isinstance zR (xG (xH (pv 2) (xH (xt (v:=V.ref a.Ah) (by rfl) T.J8 rfl) xN rfl) rfl)))) (wa (xb op_ne (xS (xQ rfl) (by rfl) T.b_len PySem.boot_len (xG (xH (xU (xW rfl) (xk (pv 2) rfl) xI (λ_ _=>rfl)) xN rfl))) (xS (xQ rfl) (by rfl) T.b_len PySem.boot_len (xG (xH (xU (xW rfl) (pv 0) xI (λ_ _=>rfl)) xN rfl))) (nomark _))))) (xL (xg (wI rfl rfl rfl rfl rfl T.J2 T.E5))) xX) (xZ (PS.nox (xf (i:=3) nd rfl (by first | exact Or.inl rfl | exact Or.inr rfl) (pe_make T.Op JL (hr.mono (by decide)) rfl T.On T.JI .nil pass0 (xG (xH (pv 0) (xH (pv 1) xN rfl) rfl))))) (xZ (PS.nox (ps_setComp (ix:=4) nd rfl (by first | exact Or.inl rfl | exact Or.inr rfl) (own:=["letter"]) (caps:=[0,2]) rfl (show CompScope ["letter"] [0,2] ["book", "letters", "rule", "trip", "tokens", "meeting", "number", "letter", "giver", "other", "share", "times"] (defScope LV) _ from ⟨rfl,by decide +kernel,by decide +kernel,by decide +kernel,by decide +kernel⟩) (pi_list' rfl (pv 1)) (λ_ _ _ _=>(xR (i:=0) (show List.Nodup (["letter", "book", "rule"]:List Str) from by decide +kernel) rfl (by first | exact Or.inl rfl | exact Or.inr rfl))) (λ_ _ _ _=>we) (λ_ _ _ _=>(xP Nb (hr.mono (by decide)) rfl T.MI T.MM T.MR .nil pass0 (xG (xH (pv 1) (xH (xU (xW rfl) (pv 0) xI (λ_ _=>rfl)) (xH (pe_two (pe_meth0 (pv 2) T.Mv T.HZ Ih (hr.mono (by decide)) T.Hy .nil pass0) (pe_two (pe_meth0 (pv 2) T.Ia T.HY Ie (hr.mono (by decide)) T.Hv .nil pass0) (pe_meth0 (pv 2) T.EE T.HX Id (hr.mono (by decide)) T.Hu .nil pass0))) xN rfl) rfl) rfl)))))) (xZ (PS.nox (wd PassesOwn.never rfl (wN rfl T.b_range (xG (xH (xS (xQ rfl) (by rfl) T.b_len PySem.boot_len (xG (xH (xU (xW rfl) (pv 0) xI (λ_ _=>rfl)) xN rfl))) xN rfl))) (xR (i:=5) nd rfl (by first | exact Or.inl rfl | exact Or.inr rfl)) (xL (xg (wd PassesOwn.never rfl (pi_enumL rfl rfl T.b_enumerate (xG (xH (pv 1) xN rfl))) (xz (n:=2) rfl rfl (xT (xR (i:=6) nd rfl (by first | exact Or.inl rfl | exact Or.inr rfl)) (xT (xR (i:=7) nd rfl (by first | exact Or.inl rfl | exact Or.inr rfl)) xy))) (xL (xZ (xf (i:=8) nd rfl (by first | exact Or.inl rfl | exact Or.inr rfl) (xP La (hr.mono (by decide)) rfl T.KS T.KY T.K1 .nil pass0 (xG (xH (pv 0) (xH (pv 5) (xH (xU (xV rfl) (pv 4) (pv 6) (λ_ _=>rfl)) xN rfl) rfl) rfl)))) (xZ (xi (pt_cmp (pc_isN (pv 8))) (xL (xg ps_continue)) xX) (xZ (xf (i:=9) nd rfl (by first | exact Or.inl rfl | exact Or.inr rfl) (xP EF (hr.mono (by decide)) rfl T.GP T.GR T.GT .nil pass0 (xG (xH (pv 0) (xH (pv 5) (xH (pv 8) xN rfl) rfl) rfl)))) (xZ (xf (i:=10) nd rfl (by first | exact Or.inl rfl | exact Or.inr rfl) (pe_two (wK (pv 2) T.Mv T.KG KN (hr.mono (by decide)) T.Kk .nil pass0 (xG (xH (pv 7) (xH (pv 8) (xH (pv 9) (xH (xU (xV rfl) (xU (xV rfl) (pv 4) (pv 6) (λ_ _=>rfl)) (pv 8) (λ_ _=>rfl)) xN rfl) rfl) rfl) rfl))) (pe_two (wK (pv 2) T.Ia T.KF KM (hr.mono (by decide)) T.Kj .nil pass0 (xG (xH (pv 7) (xH (pv 8) (xH (pv 9) (xH (xU (xV rfl) (xU (xV rfl) (pv 4) (pv 6) (λ_ _=>rfl)) (pv 8) (λ_ _=>rfl)) xN rfl) rfl) rfl) rfl))) (wK (pv 2) T.EE T.KD KL (hr.mono (by decide)) T.Ki .nil pass0 (xG (xH (pv 7) (xH (pv 8) (xH (pv 9) (xH (xU (xV rfl) (xU (xV rfl) (pv 4) (pv 6) (λ_ _=>rfl)) (pv 8) (λ_ _=>rfl)) xN rfl) rfl) rfl) rfl)))))) (xg (xi (PW.pt (pw_and (pt_cmp (pc_notN (pv 10))) (wa (xo (xP NK (hr.mono (by decide)) rfl T.Nv T.Nz T.NC .nil pass0 (xG (xH (pv 3) (xH (wF (xG (xH pe_str (xH (pv 5) (xH (pv 6) (xH (pv 8) xN rfl) rfl) rfl) rfl))) xN rfl) rfl))))))) (xL (xZ (wW (pv 10) (pg_sub (xU (xV rfl) (pv 4) (pv 6) (λ_ _=>rfl)) (pv 9) wT)) (xg (ps_augS (xU (xV rfl) (pv 4) (pv 6) (λ_ _=>rfl)) (pv 8) (get_list rfl) (pv 10) ip_sub wT)))) xX)))))))))))) (xZ (PS.nox (ps_setComp (ix:=11) nd rfl (by first | exact Or.inl rfl | exact Or.inr rfl) (own:=["number"]) (caps:=[0,3]) rfl (show CompScope ["number"] [0,3] ["book", "letters", "rule", "trip", "tokens", "meeting", "number", "letter", "giver", "other", "share", "times"] (defScope LV) _ from ⟨rfl,by decide +kernel,by decide +kernel,by decide +kernel,by decide +kernel⟩) (wN rfl T.b_range (xG (xH (xS (xQ rfl) (by rfl) T.b_len PySem.boot_len (xG (xH (pv 1) xN rfl))) xN rfl))) (λ_ _ _ _=>(xR (i:=0) (show List.Nodup (["number", "book", "trip"]:List Str) from by decide +kernel) rfl (by first | exact Or.inl rfl | exact Or.inr rfl))) (λ_ _ _ _=>we) (λ_ _ _ _=>(xP Na (hr.mono (by decide)) rfl T.MH T.ML T.MQ .nil pass0 (xG (xH (pv 1) (xH (wK (pv 2) T.Ai T.K9 Ld (hr.mono (by decide)) T.K4 .nil pass0 (xG (xH (pv 0) xN rfl))) xN rfl) rfl)))))) (xg (PS.nox (xY (wF (xG (xH (pe_meth0 (pv 3) T.Ai T.Mu Mz (hr.mono (by decide)) T.Mi .nil pass0) (xH (pv 11) (xH (pv 4) xN rfl) rfl) rfl)))))))))))),?_⟩
  rcases h with h | h
  ·obtain ⟨b,ll,r,ls,rooms,tr,tm,ps,d0,rfl,hb,rm1,rm12,rm0,gd,hll0,n41,lbd,hr0,q⟩:=h
   have line:100002<=sizeLine:=by rw [sizeLine_eq];decide
   obtain ⟨hll,hrw⟩:=hll0
   obtain ⟨CC,dC,fC,bb,hins,hoc,hkit,hpast⟩:∃ CC dC fC bb,H r=some (.ins CC dC fC)/\OCls K CC/\zc K (.ref CC) (.ref a.Ah)=some bb/\(bb=true->CC=a.Ah/\∃ pb rooms' tr' tm' ps',fC=[(Str.ofString "past", V.ref pb)]/\BookAt H pb rooms' tr' tm' ps'/\rooms'.length=rooms.length):=by
    rcases hr0.at with ⟨dx,e⟩ | ⟨k,⟨dx,e⟩,k1,k2⟩ | ⟨pb,rooms',tr',tm',ps',⟨dx,e⟩,hb',l,n⟩
    ·exact ⟨_,_,_,false,e,T.NW,T.f_na,λz=>by cases z⟩
    ·exact ⟨_,_,_,false,e,T.NV,T.f_nh,λz=>by cases z⟩
    ·exact ⟨_,_,_,true,e,T.L6,T.f_nn,λ_=>⟨rfl,pb,rooms',tr',tm',ps',rfl,hb',l⟩⟩
   refine (zr rfl ⟨r,CC,dC,fC,_,bb,rfl,hins,hoc,rfl,hkit,zr rfl (iteA (fun σ H1=>σ=[some (.ref b),some (.ref ll),some (.ref r),none,none,none,none,none,none,none,none,none]/\H=H1) ?_ ?_ ?_)⟩)
   rotate_left
   ·intro c kk
    obtain ⟨rfl,pb,rooms',tr',tm',ps',rfl,hb',lr⟩:=hpast c
    refine (zr rfl ⟨r,_,dC,zr1 rfl ⟨hins,T.EE,T.n_Nearer_past,rfl,ixt hb'.book rfl ⟨tr',zr rfl ⟨.inr (SqT.of hb'.rooms),zr rfl (ixt hb.book rfl ⟨tr,zr rfl ⟨.inr (SqT.of hb.rooms),rfl,zr rfl (iteB0 (by rw [zA,zA,lr];simp) (kk _ _ ⟨rfl,rfl⟩))⟩⟩)⟩⟩⟩⟩)
   ·intro _
    exact ⟨rfl,rfl⟩
   rintro σ H1 ⟨rfl,rfl⟩
   refine (zr rfl (zr rfl (λx dx nx ndx nex=>?_)))
   have sm2:Same H (upd (upd H dx (.own x)) x (.ins a.Aa dx [])):=same_two nx ndx nex
   refine (ex9 x dx b ll ls rooms tr tm ps ⟨rfl,xJ,hb.same sm2,gd,by omega,sm2 _ _ hll,λl hl=>sm2 _ _ (hrw l hl),n41,λt H7 bt1 kt nt=>⟨rfl,?_⟩⟩)
   have s7:Same H H7:=But.same nx (xM ndx) (But.trans But.set bt1)
   have ft:∀ c,t.own c\/c=t.lL\/c=t.lH->H c=none:=λc hc=>by
    rcases nt.fr c hc with z | z
    ·rw [z];exact nx
    ·exact sm2.free z
   obtain rfl:=nt.ex
   clear bt1 sm2 nx ndx nex
   have hll7:=s7 _ _ hll
   refine (zr rfl ⟨ll,rfl,⟨_,SqL.of hll7⟩,?_⟩)
   refine comp_list (K:=K) (a:=ll) (xs:=ls.map λx=>V.ref x.1) (λi τ acc H6=>∃ ts:List (Addr×List (Option Int)),(∃ t0,τ=[t0,some (.ref b),some (.ref r)])/\acc=(ts.map λx=>V.ref x.1)/\ts.length=i/\Same H7 H6/\(∀ x∈ts,H7 x.1=none/\H6 x.1=some (.lst (x.2.map oV)))/\(ts.map (·.1)).Nodup/\∀ (j:Nat) x L,ts[j]?=some x->ls[j]?=some L->x.2=rep rooms.length (lone L.2.s d0.first)) ⟨[],⟨_,rfl⟩,rfl,rfl,Same.refl _,(λ_ z=>nomatch z),List.nodup_nil,λ_ _ _ z=>nomatch z⟩ (by rw [zA];omega) ?_ ?_ ?_
   ·rintro i τ acc H6 ⟨ts,_,rfl,l,s6,_⟩
    exact ⟨by rw [zA,l];exact zK _,SqL.of (s6 _ _ hll7)⟩
   ·rintro i v τ acc H6 C hv ⟨ts,⟨t0,rfl⟩,rfl,l,s6,kts,ndt,ats⟩ hC
    obtain ⟨L,hL,rfl⟩:=wB hv
    have hrow:H6 L.1=some (.tup (letRow L.2)):=s6 _ _ (s7 _ _ (hrw L (zD hL)))
    have s06:=s7.trans s6
    refine (zr rfl (zr rfl (ixt hrow rfl ?_)))
    dsimp only [tCons]
    refine rule_firstX (hr0.same s06) rfl ?_
    refine (ex7 b L.2.s d0.first rooms tr tm ps ⟨rfl,hb.same s06,by omega,λl9 H9 f9 s9 k9=>hC _ _ _ ⟨ts++[(l9,rep rooms.length (lone L.2.s d0.first))],⟨_,rfl⟩,by rw [zQ];rfl,by rw [zW,l];rfl,s6.trans s9,λx hx=>?_,?_,λj x L' hx hL'=>?_⟩⟩)
    ·rcases ze.mp hx with h | h
     ·exact ⟨(kts x h).1,s9 _ _ (kts x h).2⟩
     ·rw [zN.mp h];exact ⟨s6.free f9,k9⟩
    ·rw [zQ]
     refine List.nodup_append.mpr ⟨ndt,by simp,λc hc d hd=>?_⟩
     obtain ⟨g,hg,rfl⟩:=zO.mp hc
     cases zN.mp hd
     exact xK (kts g hg).2 f9
    ·by_cases hj:j < ts.length
     ·rw [List.getElem?_append_left hj] at hx
      exact ats j x L' hx hL'
     ·rw [zy (by omega)] at hx
      obtain rfl:j=ts.length:=by
       have:=(zB.mp hx).1
       simp at this;omega
      rw [Nat.sub_self] at hx
      cases hx
      rw [l,hL] at hL';cases hL'
      rfl
   rintro τ acc HA ⟨ts,⟨t0,rfl⟩,rfl,lts,sA,kts,ndt,ats⟩ tl htl
   rw [zA] at lts
   have sB:=xM (o:=HO.lst (ts.map λx=>V.ref x.1)) htl
   have ktl:upd HA tl (HO.lst (ts.map λx=>V.ref x.1)) tl=some (.lst (ts.map λx=>V.ref x.1)):=xJ
   have sAB:=sA.trans sB
   have own:∀ c,H7 c=none->¬ (t.own c\/c=t.lL\/c=t.lH):=λc z h=>(by obtain ⟨o,ho,_⟩:=kt.there h;rw [z] at ho;cases ho)
   have f:RunF H t tl (ts.map (·.1)):=by
    refine ⟨λc z=>ft c (.inl z),own _ (sA.free htl),λc hc=>?_,λc hc=>?_,λhc=>?_,ndt⟩
    ·obtain ⟨x,hx,rfl⟩:=zO.mp hc;exact own _ (kts x hx).1
    ·obtain ⟨x,hx,rfl⟩:=zO.mp hc;exact s7.free (kts x hx).1
    ·obtain ⟨x,hx,e⟩:=zO.mp hc
     have:=(kts x hx).2
     rw [e,htl] at this;cases this
   have w0:RunI a.Aa H (upd HA tl (HO.lst (ts.map λx=>V.ref x.1))) t tl (ts.map (·.1)) t ts [] rooms tr tm ps ls 0:=
    ⟨s7.trans sAB,kt.same sAB,⟨rfl,rfl,rfl,rfl,rfl,rfl,rfl,rfl,rfl⟩,by rw [nt.er];decide,HistT.new nt gd (λl hl=>(lbd l hl).1) λw r hr=>rm0 r (zD hr),OsOk.new nt,TokOk.new nt.el nt.eh lts (λj x L h1 h2=>⟨d0.first,(RuleD.first_b hr0).1,(RuleD.first_b hr0).2,ats j x L h1 h2⟩),nt.twin,trivial,nt.ed,(λy hy=>by cases hy),ktl,λx hx=>sB _ _ (kts x hx).2,rfl⟩
   have ftl:H tl=none:=(s7.trans sA).free htl
   generalize upd HA tl (HO.lst (ts.map λx=>V.ref x.1))=HB at w0 ⊢
   have x0:RunX t ts [] (runTo rooms (ps.map (·.2)) d0 ls 0):=by
    refine ⟨by show Twin t (newTr ls (ps.map (·.2)).length);rw [zA];exact nt.twin,?_,rfl⟩
    show ts.map (·.2)=ls.map λl=>rep rooms.length (lone l.2.s d0.first)
    refine yP λi=>?_
    rw [zC,zC]
    cases e1:ts[i]? with
    | none=>
     have:ls.length<=i:=by rw [<-lts];exact List.getElem?_eq_none_iff.mp e1
     rw [za this];rfl
    | some x=>
     obtain ⟨L,hL⟩:∃ L,ls[i]?=some L:=⟨_,zE (by rw [<-lts];exact (zB.mp e1).1)⟩
     rw [hL]
     show some x.2=some _
     rw [ats i x L e1 hL]
   have etb:=nt.eb
   have ets:=nt.el
   clear kt nt ft s7 hll7 sA kts ats sB ktl sAB own htl lts ndt
   have n60:=gd.len
   have lm:(ps.map (·.2)).length=ps.length:=zA _
   have lpm:(ps.map λa=>V.ref a.1).length=ps.length:=zA _
   have lll:(ls.map λx=>V.ref x.1).length=ls.length:=zA _
   refine (zr rfl (ixt ((hb.same w0.sm).book) rfl ⟨tm,zr rfl ⟨.inr (SqT.of (hb.same w0.sm).meets),zr rfl ⟨by omega,by rw [lpm];omega,?_⟩⟩⟩))
   refine for_range (lo:=0) (λm σ H5=>∃ t' ts' ys,ys.length<=m * 41/\(∃ v5 v6 v7 v8 v9 v10 v11,σ=[some (.ref b),some (.ref ll),some (.ref r),some (.ref t.x),some (.ref tl),v5,v6,v7,v8,v9,v10,v11])/\RunI a.Aa H H5 t tl (ts.map (·.1)) t' ts' ys rooms tr tm ps ls m/\RunX t' ts' ys (runTo rooms (ps.map (·.2)) d0 ls m)) ⟨t,ts,[],zZ _,⟨_,_,_,_,_,_,_,rfl⟩,w0,x0⟩ ?_ ?_
   ·rintro m σ H5 hm ⟨t',ts',ys,ly,⟨v5,v6,v7,v8,v9,v10,v11,rfl⟩,w,xx⟩
    have hm':m < ps.length:=by rw [lpm] at hm;simpa using hm
    obtain ⟨M,hM⟩:∃ M,(ps.map (·.2))[m]?=some M:=⟨_,zE (by omega)⟩
    rw [Int.zero_add]
    refine (zr rfl ⟨ll,rfl,⟨_,SqL.of (w.sm _ _ hll)⟩,?_⟩)
    refine for_enumL (K:=K) (a:=ll) (xs:=ls.map λx=>V.ref x.1) (λj σ H6=>∃ t' ts' ys,ys.length<=m * 41 + j/\(∃ v6 v7 v8 v9 v10 v11,σ=[some (.ref b),some (.ref ll),some (.ref r),some (.ref t.x),some (.ref tl),some (.int (m:Int)),v6,v7,v8,v9,v10,v11])/\RunI a.Aa H H6 t tl (ts.map (·.1)) t' ts' ys rooms tr tm ps ls m/\RunX t' ts' ys (meetTo rooms (List.map (λy:Addr×M4=>y.2) ps) d0 ls m M (runTo rooms (List.map (λy:Addr×M4=>y.2) ps) d0 ls m) j)) ⟨t',ts',ys,by omega,⟨_,_,_,_,_,_,rfl⟩,w,xx⟩ ?_ ?_ ?_
    ·rintro j σ H6 _ ⟨_,_,_,_,_,w,_⟩
     exact SqL.of (w.sm _ _ hll)
    ·clear w ly xx
     rintro j v q0 σ H6 hv hq ⟨t',ts',ys,ly,⟨v6,v7,v8,v9,v10,v11,rfl⟩,w,xx⟩
     obtain ⟨L,hL,rfl⟩:=wB hv
     have mS:meetTo rooms (ps.map (·.2)) d0 ls m M (runTo rooms (ps.map (·.2)) d0 ls m) (j + 1)=(meetTo rooms (ps.map (·.2)) d0 ls m M (runTo rooms (ps.map (·.2)) d0 ls m) j).step rooms (ps.map (·.2)) d0 m M j L.2:=by
      show (match ls[j]? with | some L=>_ | none=>_)=_
      rw [hL]
     rw [mS]
     clear mS
     have s1:=xM (o:=HO.tup [V.int (j:Int),V.ref L.1]) hq
     have kq:upd H6 q0 (HO.tup [V.int (j:Int),V.ref L.1]) q0=some (.tup [V.int (j:Int),V.ref L.1]):=xJ
     replace w:=w.same s1
     generalize upd H6 q0 (HO.tup [V.int (j:Int),V.ref L.1])=H8 at w kq s1 ⊢
     refine (un2 kq ?_)
     have hj:j < ls.length:=(zB.mp hL).1
     obtain ⟨x,hx⟩:∃ x,ts'[j]?=some x:=⟨_,zE (by rw [w.tok.1,w.ad.ls,ets];exact hj)⟩
     obtain ⟨h,hh⟩:∃ h,t'.hs[j]?=some h:=⟨_,zE (by rw [w.kt.lh,w.ad.ls,ets];exact hj)⟩
     obtain ⟨lx,kx,vx⟩:=w.tok.2 j x h hx hh
     have hbH:=hb.same w.sm
     have atx:atI (ts'.map λx=>V.ref x.1) (j:Int)=some (V.ref x.1):=xj (by rw [zC,hx];rfl)
     have kxr:=w.kts x (zD hx)
     refine (zr rfl (zr rfl (zr rfl (zr rfl (ixl w.ktl atx (ex9 b m x.1 x.2 M rooms tr tm ps ⟨rfl,hbH,gd,hM,kxr,lx,?_⟩))))))
     cases eg:loneH M x.2 with
     | none=>exact (zr rfl (zr rfl (iteB1 rfl ⟨t',ts',ys,by omega,⟨_,_,_,_,_,_,rfl⟩,w,xx.none1 hx eg⟩)))
     | some g=>
      have hL':t'.ls[j]?=some L:=by rw [w.ad.ls,ets];exact hL
      obtain ⟨hg,eg1,eo1,cs⟩:=lone_code gd w.kt.lh hM w.rr hL' hh kx eg
      obtain ⟨gvv,egv⟩:∃ gvv,oAt x.2 g=some gvv:=zp.mp eg1
      have gb:=vx g gvv egv
      have ge:=gd.each M (zD hM)
      have gr:0<=g/\g < rooms.length:=by omega
      have ob:0<=othI M g/\othI M g < rooms.length/\othI M g≠g:=by unfold othI;split <;> omega
      have gN:x.2[g.toNat]?=some (some gvv):=by
       have:=egv
       unfold oAt at this
       cases e:x.2[g.toNat]? with
       | none=>rw [e] at this;cases this
       | some o=>rw [e] at this;rw [show o=some gvv from this]
      have atg:atI (x.2.map oV) g=some (V.int gvv):=by
       obtain ⟨gn,rfl⟩:=zM gr.1
       rw [zH] at gN
       exact xj (by rw [zC,gN];rfl)
      refine (zr rfl (zr rfl (iteB0 rfl (zr rfl (zr rfl (zr rfl (ex8 b m g rooms tr tm ps M ⟨rfl,hbH,hM,?_⟩)))))))
      refine rule_shareX (L:=L.2) (tok:=gvv) (g:=g) (o:=othI M g) (lt:=L.1) (hr0.same w.sm) rfl (λZ z=>⟨(zr rfl (zr rfl (zr rfl (zr rfl (zr rfl (ixl w.ktl atx (zr rfl (ixl kxr atg z)))))))),(zr rfl (zr rfl (zr rfl (zr rfl (zr rfl (ixl w.ktl atx (zr rfl (ixl kxr atg z)))))))),(zr rfl (zr rfl (zr rfl (zr rfl (zr rfl (ixl w.ktl atx (zr rfl (ixl kxr atg z))))))))⟩) (w.sm _ _ (hrw L (zD hL))) gb.1 gb.2 λH9 s9=>?_
      replace w:=w.same s9
      clear kxr hbH kq s1
      have kxr:=w.kts x (zD hx)
      cases esv:d0.share L.2 g (othI M g) gvv with
      | none=>exact (zr rfl (zr rfl (iteB0 rfl (iteB0 rfl ⟨t',ts',ys,by omega,⟨_,_,_,_,_,_,rfl⟩,w,xx.none2 hx eg egv esv⟩))))
      | some sv=>
       have svb:=RuleD.share_b gb.1 esv
       refine (zr rfl (zr rfl (iteB1 rfl (zr rfl (zr rfl (zr rfl (zr rfl ⟨by show 4<=sizeLine;omega,λya hya=>?_⟩)))))))
       have s10:=xM (o:=HO.tup [V.str (Str.ofString "copy"),V.int (m:Int),V.int (j:Int),oV (some g)]) hya
       have kya:upd H9 ya (HO.tup [V.str (Str.ofString "copy"),V.int (m:Int),V.int (j:Int),oV (some g)]) ya=some (.tup (Dd.pass false (m:Int) (j:Int) g).vs):=xJ
       replace w:=w.same s10
       generalize upd H9 ya (HO.tup [V.str (Str.ofString "copy"),V.int (m:Int),V.int (j:Int),oV (some g)])=H10 at w kya ⊢
       clear kxr s10 s9
       have m60:m * 41<=60 * 41:=Nat.mul_le_mul_right _ (by omega)
       refine ⟨t',.ref ya,.pass false (m:Int) (j:Int) g,rooms,tr,tm,ps,ys.length + 1,(by rw [w.ad.x];rfl),w.kt,by omega,⟨ya,rfl,kya⟩,cs,λc HB kp kB=>(zr rfl (iteB1 rfl ?_)),λc HB sB=>(zr rfl (iteB0 rfl ⟨t',ts',ys,by omega,⟨_,_,_,_,_,_,rfl⟩,w.same sB,xx.none3 hx eg c⟩))⟩
       have xa:x.1∈ts.map (·.1):=by rw [<-w.ea];exact zO.mpr ⟨x,zD hx,rfl⟩
       have nxo:¬ t'.own x.1:=λz=>f.na x.1 xa (.inl ((w.ad.own _).mp z))
       have kxB:=kp _ _ nxo (w.kts x (zD hx))
       have ktlB:=kp _ _ (λz=>f.nt (.inl ((w.ad.own _).mp z))) w.ktl
       have ntx:tl≠x.1:=λz=>f.ntl (by rw [z];exact xa)
       have ixo:ixN (x.2.map oV).length (othI M g)=some (othI M g).toNat:=by unfold ixN;rw [if_pos ob.1,if_pos (by rw [zA,lx];exact ob.2.1)]
       refine (zr rfl (zr rfl (zr rfl (ixl ktlB atx (zr rfl ⟨x.1,_,_,(othI M g).toNat,rfl,rfl,kxB,ixo,?_⟩)))))
       have b1:But x.1 HB (upd HB x.1 (HO.lst ((x.2.map oV).set (othI M g).toNat (oV (some sv))))):=But.set
       have kxC:upd HB x.1 (HO.lst ((x.2.map oV).set (othI M g).toNat (oV (some sv)))) x.1=some (.lst ((x.2.map oV).set (othI M g).toNat (oV (some sv)))):=xJ
       generalize upd HB x.1 (HO.lst ((x.2.map oV).set (othI M g).toNat (oV (some sv))))=HC at b1 kxC ⊢
       have ktlC:=b1 _ _ ntx ktlB
       have lrow:((x.2.map oV).set (othI M g).toNat (oV (some sv))).length=rooms.length:=by rw [zm,zA];exact lx
       have ixg:ixN ((x.2.map oV).set (othI M g).toNat (oV (some sv))).length g=some g.toNat:=by unfold ixN;rw [if_pos gr.1,if_pos (by rw [lrow];exact gr.2)]
       have gtg:((x.2.map oV).set (othI M g).toNat (oV (some sv)))[g.toNat]?=some (V.int gvv):=by rw [zY,if_neg (by omega),zC,gN];rfl
       obtain ⟨gn,egn⟩:=zM gr.1
       have gtn:((x.2.map oV).set (othI M g).toNat (oV (some sv)))[gn]?=some (V.int gvv):=by rw [show gn=g.toNat by omega];exact gtg
       refine (zr rfl (zr rfl (ixl ktlC atx (zr rfl ⟨x.1,_,V.int gvv,gn,rfl,(by rw [egn];rfl),SqL.of kxC,gtn,zr rfl (zr2 rfl rfl ⟨x.1,_,_,g.toNat,rfl,rfl,kxC,ixg,?_⟩)⟩))))
       exact ⟨_,_,ys++[(ya,_)],by rw [zW];show _ + 1<=_;omega,⟨_,_,_,_,_,_,rfl⟩,RunI.step f w hM hx hg egv svb gb.2 c kp kB kya (b1.trans But.set) (by rw [xJ,zq,zq];rfl),xx.done hx eg egv esv c ya _⟩
    rintro σ H6 ⟨t',ts',ys,ly,⟨v6,v7,v8,v9,v10,v11,rfl⟩,w,xx⟩
    rw [lll] at xx
    refine ⟨t',ts',ys,by rw [lll] at ly;omega,⟨_,_,_,_,_,_,_,rfl⟩,w.mono (yT _),?_⟩
    show RunX t' ts' ys (match (ps.map (·.2))[m]? with | some M=>_ | none=>_)
    rw [hM];exact xx
   clear w0 x0
   rintro σ H5 ⟨t',ts',ys,ly,⟨v5,v6,v7,v8,v9,v10,v11,rfl⟩,w,xx⟩
   rw [lpm,zH] at xx
   have ly2:ys.length<=2460:=by
    have:((((ps.map λa=>V.ref a.1).length:Nat):Int)).toNat * 41<=60 * 41:=Nat.mul_le_mul_right _ (by rw [lpm];omega)
    omega
   have ex:=w.ad.x
   rw [<-ex]
   have k:=w.kt
   have his:=w.hist
   have etl:t'.ls=ls:=w.ad.ls.trans ets
   refine (zr rfl ⟨ll,zr rfl ⟨.inl (SqL.of (w.sm _ _ hll)),zr rfl ⟨by omega,by rw [lll];omega,?_⟩⟩⟩)
   refine comp_range (lo:=0) (m:=(ls.map λx=>V.ref x.1).length) (λi τ acc H6=>∃ rws:List (Addr×List (Option Int)),(∃ t0,τ=[t0,some (.ref b),some (.ref t'.x)])/\acc=(rws.map λx=>V.ref x.1)/\rws.map (·.2)=((t'.hs.take i).map λh=>tmsOf rooms.length h.2)/\Same H5 H6/\∀ x∈rws,H5 x.1=none/\H6 x.1=some (.lst (x.2.map oV))) ⟨[],⟨_,rfl⟩,rfl,rfl,Same.refl _,λ_ z=>nomatch z⟩ (by rw [lll];omega) ?_ ?_ ?_
   ·rintro i τ acc H6 ⟨rws,_,rfl,e,_⟩
    have:=congrArg List.length e
    rw [zA,zA,yV] at this
    rw [zA];omega
   ·rintro i τ acc H6 C hi ⟨rws,⟨t0,rfl⟩,rfl,e,s6,kr⟩ hC
    rw [Int.zero_add]
    obtain ⟨h,hh⟩:∃ h,t'.hs[i]?=some h:=⟨_,zE (by rw [k.lh,etl];rw [lll] at hi;exact hi)⟩
    have k6:=k.same s6
    have few:=his.few k.lh k.lo hh
    refine (zr rfl (zr rfl ⟨t'.x,t'.dx,zr rfl ⟨k6.at_.ins,rfl,zr rfl ⟨t'.x,t'.b,t'.dx,t'.lL,t'.lH,t'.lA,t'.lP,t'.lD,t'.ls,t'.hs,t'.os,t'.ns,t'.r,t'.ds,i,h,rfl,k6.at_,hh,by omega,λl1 qs1 H8 s8 f1 fq1 k1 kr1 pm1 pw1=>?_⟩⟩⟩))
    refine ⟨b,l1,qs1,h.2,ex4 rooms tr tm ps ⟨rfl,hb.same (w.sm.trans (s6.trans s8)),rm12,k1,kr1,pm1,his.nd i h hh,λp9 H9 s9 f9 k9=>hC _ _ _ ⟨rws++[(p9,tmsOf rooms.length h.2)],⟨_,rfl⟩,by rw [zQ];rfl,by rw [zQ,e,wZ hh,zQ];rfl,(s6.trans s8).trans s9,λx hx=>?_⟩⟩⟩
    rcases ze.mp hx with h1 | h1
    ·exact ⟨(kr x h1).1,s9 _ _ (s8 _ _ (kr x h1).2)⟩
    ·rw [zN.mp h1];exact ⟨(s6.trans s8).free f9,k9⟩
   rintro τ acc H6 ⟨rws,⟨t0,rfl⟩,rfl,er,s6,kr⟩ rl hrl
   rw [lll,<- etl,<- k.lh,yX] at er
   have s7:=xM (o:=HO.lst (rws.map λx=>V.ref x.1)) hrl
   have krl:upd H6 rl (HO.lst (rws.map λx=>V.ref x.1)) rl=some (.lst (rws.map λx=>V.ref x.1)):=xJ
   generalize upd H6 rl (HO.lst (rws.map λx=>V.ref x.1))=H7 at s7 krl ⊢
   have s57:=s6.trans s7
   have k7:=k.same s57
   refine (zr rfl ⟨t'.x,t'.dx,zr rfl ⟨k7.at_.ins,rfl,t'.x,t'.b,t'.dx,t'.lL,t'.lH,t'.lA,t'.lP,t'.lD,t'.ls,t'.hs,t'.os,t'.ns,t'.r,t'.ds,rfl,k7.at_,λl2 hl2=>(zr rfl (zr rfl ⟨by show 3<=sizeLine;omega,λp9 hp9=>?_⟩))⟩⟩)
   have s8:=xM (o:=HO.lst t'.ds) hl2
   have k8:upd H7 l2 (HO.lst t'.ds) l2=some (.lst t'.ds):=xJ
   generalize upd H7 l2 (HO.lst t'.ds)=H8 at s8 k8 hp9 ⊢
   have s9:=xM (o:=HO.tup [V.ref l2,V.ref rl,V.ref tl]) hp9
   have s58:=(s57.trans s8).trans s9
   have fw:∀ {c:Addr},H5 c=none->H c=none:=λ{c} h=>w.sm.free h
   exact q p9 l2 rl tl ys rws ts' t' _ (w.sm.trans s58) xJ (by rw [<-w.eds];exact s9 _ _ k8) (w.dsa.same s58) ly2 w.rok w.tw his w.oso (s9 _ _ (s8 _ _ krl)) (λx hx=>s9 _ _ (s8 _ _ (s7 _ _ (kr x hx).2))) er (s58 _ _ w.ktl) (λx hx=>s58 _ _ (w.kts x hx)) xx w.tok ⟨w.sm.free (s57.free hl2),fw (s6.free hrl),ftl,λx hx=>fw (kr x hx).1,λx hx=>f.fa x.1 (by rw [<-w.ea];exact zO.mpr ⟨x,hx,rfl⟩)⟩
  ·obtain ⟨b,ll,r,pb,rooms,tr,tm,ps,rooms',tr',tm',ps',rfl,hb,⟨dx,hins⟩,hb',ne,q⟩:=h
   exact (zr rfl ⟨r,_,dx,_,_,true,rfl,hins,T.L6,rfl,T.f_nn,zr rfl (iteB1 rfl (zr rfl ⟨r,_,dx,zr1 rfl ⟨hins,T.EE,T.n_Nearer_past,rfl,ixt hb'.book rfl ⟨tr',zr rfl ⟨.inr (SqT.of hb'.rooms),zr rfl (ixt hb.book rfl ⟨tr,zr rfl ⟨.inr (SqT.of hb.rooms),rfl,zr rfl (iteB1 (by rw [zA,zA];simp;omega) q)⟩⟩)⟩⟩⟩⟩))⟩)
theorem Hd:FnScope ["_law_purse_here", "_law_walkers", "_law_most"] ["_law_purse_here", "_law_walkers"] (defScope FV):=⟨rfl,rfl,rfl,by decide +kernel,rfl,by decide +kernel,by decide +kernel⟩
theorem Ls (T:Tx K mg a t_MOST_TOKENS):FnOk P w K mg base CX0 4 a.BZ a.Dl ["_law_purse_here", "_law_walkers"] (spPast57):=by
 have Ab:=@xp P w _ _ base _ _ T
 have Fx:=@GC P w _ _ base _ _ T
 have DY:=@E8 P w _ _ base _ _ T
 refine T.CI.ok Hd (λvs H Q E h=>?_) (λcdv A outer s H vs Q E hr h=>?_)
 ·obtain ⟨_,_,rfl,_⟩:=h;rfl
 ·have nd:=Hd.nd
  have hu:=hr.units
  obtain ⟨p,n,rfl,n1,n12,pu,q⟩:=h
  refine ⟨_,(xL (xZ (xf (i:=2) nd rfl (by first | exact Or.inl rfl | exact Or.inr rfl) (xP Ab (hr.mono (by decide)) rfl T.Ac T.Ae T.Af .nil pass0 (xG (xH (pv 0) (xH xI xN rfl) rfl)))) (xZ (xi (xb wM (pv 1) xI (nomark _)) (xL (xg (xf (i:=2) nd rfl (by first | exact Or.inl rfl | exact Or.inr rfl) xI))) xX) (xg (xY (wF (xG (xH (xP Fx (hr.mono (by decide)) rfl T.Hj T.Hn T.Hs .nil pass0 (xG (xH (pv 0) (xH (pv 1) xN rfl) rfl))) (xH (xP DY (hr.mono (by decide)) rfl T.FG T.FH T.FI .nil pass0 (xG (xH (pv 0) (xH (pv 1) (xH (pv 2) xN rfl) rfl) rfl))) xN rfl) rfl)))))))),?_⟩
  have line:=line9
  refine (zr rfl ⟨p,61,rfl,by decide,by decide,pu,λd H1 d0 d1 g1=>?_⟩)
  obtain ⟨k,rfl⟩:=zM d0
  refine ⟨_,rfl,rfl,_,rfl,iteN (fun σ H3=>∃ m:Nat,σ=[some (.ref p),some (.int (n:Int)),some (.int (m:Int))]/\m<=60/\(m=0\/2<=n)/\Go p H H3) ?_ (λc k0=>k0 _ _ ⟨0,rfl,by decide,.inl rfl,g1⟩) (λc=>⟨k,rfl,by omega,.inr (by
    by_cases hk:n=1
    ·subst hk;exact absurd c (by simp)
    ·omega),g1⟩)⟩
  rintro σ H2 ⟨m,rfl,hm,hk,g2⟩
  refine (zr rfl (zr rfl ⟨p,n,rfl,by omega,g2.2,λtr rooms H3 g3 h3 l3 r3=>(zr rfl (zr rfl (zr rfl ⟨p,_,m,rfl,by omega,by omega,by omega,g3.2,λtm ps H4 g4 h4 r4 gd l4=>⟨by show 2<=sizeLine;omega,λb hb=>?_⟩⟩)))⟩))
  have h3':=g4.tups g3.2 _ _ h3
  have tn:=Tups.new (o:=HO.tup [V.ref tr,V.ref tm]) hb
  exact q b rooms tr tm ps _ ((g2.trans (g3.trans g4)).new hb) ⟨xJ,tn _ _ h3',tn _ _ h4,r4.tups tn⟩ l3 gd (by omega) r3
theorem Gx:FnScope ["_law_book_here", "_law_sender", "_law_since", "_law_found", "_law_one", "_law_other", "_law_when", "_law_passed", "_law_giver", "_law_taker"] ["_law_book_here", "_law_sender", "_law_since"] (defScope Fe):=⟨rfl,rfl,rfl,by decide +kernel,rfl,by decide +kernel,by decide +kernel⟩
theorem KQ (T:Tx K mg a t_MOST_TOKENS):FnOk P w K mg base CX0 1 a.BB a.CQ ["_law_book_here", "_law_sender", "_law_since"] (spTimes):=by
 refine T.B7.ok Gx (λvs H Q E h=>?_) (λcdv A outer s H vs Q E hr h=>?_)
 ·obtain ⟨b,k,x,_,_,_,_,rfl,_⟩:=h;rfl
 ·have nd:=Gx.nd
  have hu:=hr.units
  obtain ⟨b,k,x,rooms,tr,tm,ps,rfl,hk,hb,hn,gd,q⟩:=h
  refine ⟨_,(xL (xZ (xf (i:=3) nd rfl (by first | exact Or.inl rfl | exact Or.inr rfl) (xh op_rep (xw (xG (xH pe_non xN rfl))) (xS (xQ rfl) (by rfl) T.b_len PySem.boot_len (xG (xH (xU (xW rfl) (pv 0) xI (λ_ _=>rfl)) xN rfl))))) (xZ (wW (pv 2) (pg_sub (pv 3) (pv 1) wT)) (xZ (wd PassesOwn.never rfl (pi_tup'' rfl (xU (xW rfl) (pv 0) xI (λ_ _=>rfl))) (xz (n:=4) rfl rfl (xT (xR (i:=4) nd rfl (by first | exact Or.inl rfl | exact Or.inr rfl)) (xT (xR (i:=5) nd rfl (by first | exact Or.inl rfl | exact Or.inr rfl)) (xT (xR (i:=6) nd rfl (by first | exact Or.inl rfl | exact Or.inr rfl)) (xT (xR (i:=7) nd rfl (by first | exact Or.inl rfl | exact Or.inr rfl)) xy))))) (xL (xg (wd PassesOwn.never rfl (pi_list' rfl (xw (xG (xH (wF (xG (xH (pv 4) (xH (pv 5) xN rfl) rfl))) (xH (wF (xG (xH (pv 5) (xH (pv 4) xN rfl) rfl))) xN rfl) rfl)))) (xz (n:=2) rfl rfl (xT (xR (i:=8) nd rfl (by first | exact Or.inl rfl | exact Or.inr rfl)) (xT (xR (i:=9) nd rfl (by first | exact Or.inl rfl | exact Or.inr rfl)) xy))) (xL (xg (xi (PW.pt (pw_and (pt_cmp (pc_notN (xU (xV rfl) (pv 3) (pv 8) (λ_ _=>rfl)))) (pw_and (xb op_lt (xU (xV rfl) (pv 3) (pv 8) (λ_ _=>rfl)) (pv 6) (nomark _)) (wa (pt_cmp (pc_isN (xU (xV rfl) (pv 3) (pv 9) (λ_ _=>rfl)))))))) (xL (xg (wW (pv 6) (pg_sub (pv 3) (pv 9) wT)))) xX))))))) (xg (xY (pv 3))))))),?_⟩
  have line:=line9
  refine ⟨by show 1<=sizeLine;omega,λl0 hl0=>?_⟩
  have hb0:=hb.same (xM (o:=HO.lst [V.non]) hl0)
  refine (zr rfl (ixt hb0.book rfl ⟨tr,zr rfl ⟨.inr (SqT.of hb0.rooms),l0,zr2 rfl rfl ⟨xJ,by omega,by rw [zA];omega,by rw [zA];show 1 * rooms.length<=sizeLine;omega,λl hl=>?_⟩⟩⟩))
  have sm1:=(xM (o:=HO.lst [V.non]) hl0).trans (xM (o:=HO.lst (List.replicate (((rooms.map V.int).length:Int)).toNat [V.non]).flatten) hl)
  have er:(List.replicate (((rooms.map V.int).length:Int)).toNat [V.non]).flatten=(rep rooms.length (λ_=>none)).map oV:=by
   rw [zH,zA]
   unfold rep
   rw [zX]
   generalize rooms.length=n
   induction n with
   | zero=>rfl
   | succ n ih=>rw [yK,yx,ih,List.range_succ_eq_map,zf,zX];rfl
  have hfl:H l=none:=(xM (o:=HO.lst [V.non]) hl0).free hl
  refine (zr rfl (zr rfl (zr rfl ⟨l,_,_,k,rfl,rfl,xJ,ixN_nat (by rw [er,zA,rep_len];exact hk),?_⟩)))
  have e1:((List.replicate (((rooms.map V.int).length:Int)).toNat [V.non]).flatten).set k (.int x)=(rep rooms.length (lone k x)).map oV:=by
   rw [er]
   show _=(rep rooms.length (put (λ_=>none) k (some x))).map oV
   rw [<-rep_set hk,zq];rfl
  rw [e1]
  have sm2:Same H (upd (upd (upd H l0 (HO.lst [V.non])) l (HO.lst (List.replicate (((rooms.map V.int).length:Int)).toNat [V.non]).flatten)) l (HO.lst ((rep rooms.length (lone k x)).map oV))):=Same.put hfl sm1
  have hb2:=hb.same sm2
  refine (zr rfl (ixt hb2.book rfl ⟨tm,rfl,⟨_,SqT.of hb2.meets⟩,?_⟩))
  refine for_tup (K:=K) (a:=tm) (xs:=ps.map λa=>V.ref a.1) (λi σ H4=>(∃ v4 v5 v6 v7 v8 v9,σ=[some (.ref b),some (.int k),some (.int x),some (.ref l),v4,v5,v6,v7,v8,v9])/\Same H H4/\H4 l=some (.lst ((rep rooms.length (fwd ((ps.map (·.2)).take i) (lone k x))).map oV)))
   ?_ (λi σ H4 _ h4=>SqT.of ((hb.same h4.2.1).meets)) ?_ ?_
  ·exact ⟨⟨_,_,_,_,_,_,rfl⟩,sm2,xJ⟩
  ·rintro i y σ H4 hy ⟨⟨v4,v5,v6,v7,v8,v9,rfl⟩,sm4,h4⟩
   obtain ⟨r,hr1,rfl⟩:=wB hy
   have hm:(ps.map (·.2))[i]?=some r.2:=by rw [zC,hr1];rfl
   have rm:=zD hr1
   obtain ⟨a1,a2,a3,a4,a5,_⟩:=gd.at rm
   have hrow:=(hb.same sm4).rows r rm
   have z1:(r.2.lo.toNat:Int)=r.2.lo:=Int.toNat_of_nonneg a1
   have z2:(r.2.hi.toNat:Int)=r.2.hi:=Int.toNat_of_nonneg (by omega)
   have gl:r.2.lo.toNat < rooms.length:=by omega
   have ol:r.2.hi.toNat < rooms.length:=by omega
   refine (un4 hrow ?_)
   refine (zr rfl (zr rfl ⟨by show 2<=sizeLine;omega,λt1 ht1=>(zr rfl (zr rfl ⟨by show 2<=sizeLine;omega,λt2 ht2=>⟨by show 2<=sizeLine;omega,λll hll=>⟨ll,rfl,⟨_,SqL.of xJ⟩,?_⟩⟩⟩))⟩))
   have sm5:=((xM (o:=HO.tup [.int r.2.lo,.int r.2.hi]) ht1).trans (xM (o:=HO.tup [.int r.2.hi,.int r.2.lo]) ht2)).trans (xM (o:=HO.lst [.ref t1,.ref t2]) hll)
   have h5:=sm5 _ _ h4
   have q1:=(xM (o:=HO.lst [.ref t1,.ref t2]) hll) t1 _ ((xM (o:=HO.tup [.int r.2.hi,.int r.2.lo]) ht2) t1 _ (xJ (H:=H4) (a:=t1) (o:=HO.tup [.int r.2.lo,.int r.2.hi])))
   have q2:=(xM (o:=HO.lst [.ref t1,.ref t2]) hll) t2 _ (xJ (a:=t2) (o:=HO.tup [.int r.2.hi,.int r.2.lo]))
   have nll:ll≠l:=(xK ((xM (o:=HO.tup [.int r.2.hi,.int r.2.lo]) ht2) _ _ ((xM (o:=HO.tup [.int r.2.lo,.int r.2.hi]) ht1) _ _ h4)) hll).symm
   have n1l:t1≠l:=(xK h4 ht1).symm
   have n2l:t2≠l:=(xK ((xM (o:=HO.tup [.int r.2.lo,.int r.2.hi]) ht1) _ _ h4) ht2).symm
   refine for_list (K:=K) (a:=ll) (xs:=[V.ref t1,V.ref t2]) (λj σ H6=>(∃ v8 v9,σ=[some (.ref b),some (.int k),some (.int x),some (.ref l),some (.int r.2.lo),some (.int r.2.hi),some (.int r.2.t),some (.int r.2.m),v8,v9])/\Same H H6 /\
     H6 l=some (.lst ((rep rooms.length (((two r.2).take j).foldl fstep (fwd ((ps.map (·.2)).take i) (lone k x)))).map oV))/\H6 ll=some (.lst [.ref t1,.ref t2])/\H6 t1=some (.tup [.int r.2.lo,.int r.2.hi])/\H6 t2=some (.tup [.int r.2.hi,.int r.2.lo]))
    ⟨⟨_,_,rfl⟩,sm4.trans sm5,h5,xJ,q1,q2⟩ (λj σ H6 _ h6=>SqL.of h6.2.2.2.1) ?_ ?_
   ·rintro j y σ H6 hy ⟨⟨v8,v9,rfl⟩,sm6,h6,h6l,h61,h62⟩
    obtain rfl | rfl:j=0\/j=1:=by
     have:j < 2:=(zB.mp hy).1
     omega
    ·cases hy
     generalize ef:((two r.2).take 0).foldl fstep (fwd ((ps.map (·.2)).take i) (lone k x))=f at h6
     have fo:((two r.2).take (0 + 1)).foldl fstep (fwd ((ps.map (·.2)).take i) (lone k x))=fstep f ⟨r.2.lo.toNat,r.2.hi.toNat,r.2.t⟩:=by
      rw [wZ (r:=⟨r.2.lo.toNat,r.2.hi.toNat,r.2.t⟩) rfl,List.foldl_append,ef];rfl
     have hg:atI ((rep rooms.length f).map oV) r.2.lo=some (oV (f r.2.lo.toNat)):=by rw [<-z1];exact xj (rep_at gl)
     have ho:atI ((rep rooms.length f).map oV) r.2.hi=some (oV (f r.2.hi.toNat)):=by rw [<-z2];exact xj (rep_at ol)
     refine (un2 h61 ?_)
     have no:∀ (c:¬ (f r.2.hi.toNat=none/\below (f r.2.lo.toNat) r.2.t=true)),H6 l=some (.lst ((rep rooms.length (((two r.2).take (0 + 1)).foldl fstep (fwd ((ps.map (·.2)).take i) (lone k x)))).map oV)):=λc=>by
      rw [fo];unfold fstep;rw [if_neg c];exact h6
     refine (zr rfl (zr rfl (ixl h6 hg (zr rfl ?_))))
     cases hfg:f r.2.lo.toNat with
     | none=>
      exact iteB0 rfl (iteB0 rfl ⟨⟨_,_,rfl⟩,sm6,no (λz=>by rw [hfg] at z;cases z.2),h6l,h61,h62⟩)
     | some a=>
      rw [hfg] at hg
      refine iteB1 rfl (zr rfl (zr rfl (ixl h6 hg (zr rfl (zr2 rfl rfl (zr rfl (iteD (λc=>?_) (λc=>?_))))))))
      ·refine (zr rfl (zr rfl (ixl h6 ho (zr rfl (iteD (λc2=>?_) (λc2=>?_))))))
       ·refine (zr rfl (zr rfl (zr rfl ⟨l,_,_,r.2.hi.toNat,rfl,rfl,h6,by rw [<-z2];exact ixN_nat (by rw [zA,rep_len];exact ol),⟨_,_,rfl⟩,Same.put hfl sm6,?_,by rw [xO nll];exact h6l,by rw [xO n1l];exact h61,by rw [xO n2l];exact h62⟩)))
        rw [xJ,fo]
        unfold fstep
        rw [if_pos ⟨oV_non.mp c2,below_iff.mpr ⟨a,hfg,c⟩⟩,<- rep_set ol,zq];rfl
       ·exact ⟨⟨_,_,rfl⟩,sm6,no (λz=>c2 (oV_non.mpr z.1)),h6l,h61,h62⟩
      ·exact iteB0 rfl ⟨⟨_,_,rfl⟩,sm6,no (λz=>by obtain ⟨w1,w2,w3⟩:=below_iff.mp z.2;rw [hfg] at w2;cases w2;exact c w3),h6l,h61,h62⟩
    ·cases hy
     generalize ef:((two r.2).take 1).foldl fstep (fwd ((ps.map (·.2)).take i) (lone k x))=f at h6
     have fo:((two r.2).take (1 + 1)).foldl fstep (fwd ((ps.map (·.2)).take i) (lone k x))=fstep f ⟨r.2.hi.toNat,r.2.lo.toNat,r.2.t⟩:=by
      rw [wZ (r:=⟨r.2.hi.toNat,r.2.lo.toNat,r.2.t⟩) rfl,List.foldl_append,ef];rfl
     have hg:atI ((rep rooms.length f).map oV) r.2.hi=some (oV (f r.2.hi.toNat)):=by rw [<-z2];exact xj (rep_at ol)
     have ho:atI ((rep rooms.length f).map oV) r.2.lo=some (oV (f r.2.lo.toNat)):=by rw [<-z1];exact xj (rep_at gl)
     refine (un2 h62 ?_)
     have no:∀ (c:¬ (f r.2.lo.toNat=none/\below (f r.2.hi.toNat) r.2.t=true)),H6 l=some (.lst ((rep rooms.length (((two r.2).take (1 + 1)).foldl fstep (fwd ((ps.map (·.2)).take i) (lone k x)))).map oV)):=λc=>by
      rw [fo];unfold fstep;rw [if_neg c];exact h6
     refine (zr rfl (zr rfl (ixl h6 hg (zr rfl ?_))))
     cases hfg:f r.2.hi.toNat with
     | none=>
      exact iteB0 rfl (iteB0 rfl ⟨⟨_,_,rfl⟩,sm6,no (λz=>by rw [hfg] at z;cases z.2),h6l,h61,h62⟩)
     | some a=>
      rw [hfg] at hg
      refine iteB1 rfl (zr rfl (zr rfl (ixl h6 hg (zr rfl (zr2 rfl rfl (zr rfl (iteD (λc=>?_) (λc=>?_))))))))
      ·refine (zr rfl (zr rfl (ixl h6 ho (zr rfl (iteD (λc2=>?_) (λc2=>?_))))))
       ·refine (zr rfl (zr rfl (zr rfl ⟨l,_,_,r.2.lo.toNat,rfl,rfl,h6,by rw [<-z1];exact ixN_nat (by rw [zA,rep_len];exact gl),⟨_,_,rfl⟩,Same.put hfl sm6,?_,by rw [xO nll];exact h6l,by rw [xO n1l];exact h61,by rw [xO n2l];exact h62⟩)))
        rw [xJ,fo]
        unfold fstep
        rw [if_pos ⟨oV_non.mp c2,below_iff.mpr ⟨a,hfg,c⟩⟩,<- rep_set gl,zq];rfl
       ·exact ⟨⟨_,_,rfl⟩,sm6,no (λz=>c2 (oV_non.mpr z.1)),h6l,h61,h62⟩
      ·exact iteB0 rfl ⟨⟨_,_,rfl⟩,sm6,no (λz=>by obtain ⟨w1,w2,w3⟩:=below_iff.mp z.2;rw [hfg] at w2;cases w2;exact c w3),h6l,h61,h62⟩
   ·rintro σ H6 ⟨⟨v8,v9,rfl⟩,sm6,h6,h6l,h61,h62⟩
    refine ⟨⟨_,_,_,_,_,_,rfl⟩,sm6,?_⟩
    rw [h6,wZ hm]
    unfold fwd ways2
    rw [List.flatMap_append,List.foldl_append]
    rfl
  ·rintro σ H4 ⟨⟨v4,v5,v6,v7,v8,v9,rfl⟩,sm4,h4⟩
   refine (zr rfl (q l _ hfl sm4 ?_))
   have e:(ps.map λa=>V.ref a.1).length=(ps.map (·.2)).length:=by simp
   rw [e,yX] at h4
   exact h4
theorem Ji:FnScope ["_law_past_here", "_law_walker", "_law_wish", "_law_two"] ["_law_past_here", "_law_walker", "_law_wish"] (defScope Fh):=⟨rfl,rfl,rfl,by decide +kernel,rfl,by decide +kernel,by decide +kernel⟩
theorem LZ (T:Tx K mg a t_MOST_TOKENS):FnOk P w K mg base CX0 1 a.Ct a.DM ["_law_past_here", "_law_walker", "_law_wish"] (spLMet):=by
 refine T.Dc.ok Ji (λvs H Q E h=>?_) (λcdv A outer s H vs Q E hr h=>?_)
 ·obtain ⟨_,_,_,_,_,_,_,rfl,_⟩:=h;rfl
 ·have nd:=Ji.nd
  have hu:=hr.units
  obtain ⟨b,i0,j0,rooms,tr,tm,ps,rfl,hb,gd,q⟩:=h
  refine ⟨_,(xL (xZ (xf (i:=3) nd rfl (by first | exact Or.inl rfl | exact Or.inr rfl) (xS (call_sortI rfl) (by rfl) T.b_sorted PyProof.Rows.boot_sorted (xG (xH (xw (xG (xH (pv 1) (xH (pv 2) xN rfl) rfl))) xN rfl)))) (xg (xY (xS (xQ rfl) (by rfl) T.b_len PySem.boot_len (xG (xH (wf (own:=["_law_one"]) (caps:=[3]) rfl (show CompScope ["_law_one"] [3] ["_law_past_here", "_law_walker", "_law_wish", "_law_two"] (defScope Fh) _ from ⟨rfl,by decide +kernel,by decide +kernel,by decide +kernel,by decide +kernel⟩) (pi_tup'' rfl (xU (xW rfl) (pv 0) xI (λ_ _=>rfl))) (λ_ _ _ _=>(xR (i:=0) (show List.Nodup (["_law_one", "_law_two"]:List Str) from by decide +kernel) rfl (by first | exact Or.inl rfl | exact Or.inr rfl))) (λ_ _ _ _=>pts_one (xb (op_eqE' rfl hu) (xS (call_sortI rfl) (by rfl) T.b_sorted PyProof.Rows.boot_sorted (xG (xH (pe_slice (sl_tup' rfl) (pv 0) po_none (po_some xI)) xN rfl))) (pv 1) (nomark _))) (λ_ _ _ _=>(pv 0))) xN rfl))))))),?_⟩
  have line:=line9
  have n60:=gd.len
  refine (zr rfl (zr rfl ⟨by show 2<=_;omega,λl0 hl0=>?_⟩))
  have s1:=xM (o:=HO.lst [V.int i0,V.int j0]) hl0
  refine ⟨l0,[i0,j0],rfl,.inl (SqL.of xJ),by show 2 < 64;decide,λl2 ms hl2 pm so=>?_⟩
  have em:=sort2 pm so
  subst em
  have s2:=xM (o:=HO.lst ([min i0 j0,max i0 j0].map V.int)) hl2
  have sA:=s1.trans s2
  have k2:upd (upd H l0 (HO.lst [V.int i0,V.int j0])) l2 (HO.lst ([min i0 j0,max i0 j0].map V.int)) l2=some (.lst ([min i0 j0,max i0 j0].map V.int)):=xJ
  generalize upd (upd H l0 (HO.lst [V.int i0,V.int j0])) l2 (HO.lst ([min i0 j0,max i0 j0].map V.int))=HA at *
  have hbA:=hb.same sA
  refine (zr rfl (ixt hbA.book rfl ⟨tm,rfl,⟨_,SqT.of hbA.meets⟩,?_⟩))
  refine comp_tup (K:=K) (a:=tm) (xs:=ps.map λa=>V.ref a.1) (λi τ acc H5=>(∃ t0,τ=[t0,some (.ref l2)])/\acc=(((ps.take i).filter λa=>metB i0 j0 a.2).map λa=>V.ref a.1)/\Same HA H5) ⟨⟨_,rfl⟩,rfl,Same.refl _⟩ (by rw [zA];omega) ?_ ?_ ?_
  ·rintro i τ acc H5 ⟨_,rfl,s5⟩
   exact ⟨by rw [zA];exact zk (List.length_filter_le _ _) (by rw [yV];omega),SqT.of (s5 _ _ hbA.meets)⟩
  ·rintro i x τ acc H5 C hx ⟨⟨t0,rfl⟩,rfl,s5⟩ hC
   obtain ⟨r,hr,rfl⟩:=wB hx
   have hrow:H5 r.1=some (.tup [.int r.2.lo,.int r.2.hi,.int r.2.t,.int r.2.m]):=s5 _ _ (hbA.rows r (zD hr))
   refine (zr rfl ⟨2,rfl,r.1,zr rfl ⟨SqT.of hrow,(by show ¬ (HT.sIx 4 0 none=0/\HT.sIx 4 4 (some 2)=4);decide),λt1 ht1=>?_⟩⟩)
   have s6:=xM (o:=HO.tup [V.int r.2.lo,V.int r.2.hi]) ht1
   refine ⟨t1,[r.2.lo,r.2.hi],rfl,.inr (SqT.of xJ),by show 2 < 64;decide,λl3 ms hl3 pm so=>?_⟩
   have em:=sort2 pm so
   subst em
   have s7:=xM (o:=HO.lst ([min r.2.lo r.2.hi,max r.2.lo r.2.hi].map V.int)) hl3
   have s57:=(s5.trans s6).trans s7
   refine (zr rfl (eq_ints xJ (s57 _ _ k2) (zr rfl ?_)))
   rw [metB_sort gd (zO.mpr ⟨r,zD hr,rfl⟩)]
   have sn:=filt_sn (p:=λa=>metB i0 j0 a.2) hr
   cases c:metB i0 j0 r.2 with
   | true=>exact iteB1 rfl (zr rfl (hC _ _ _ ⟨⟨_,rfl⟩,by rw [sn,if_pos c,zQ];rfl,s57⟩))
   | false=>exact iteB0 rfl (hC _ _ _ ⟨⟨_,rfl⟩,by rw [sn,if_neg (by rw [c];exact zG),zj],s57⟩)
  ·rintro τ acc H5 ⟨⟨t0,rfl⟩,rfl,s5⟩ lc hlc
   rw [zA,yX]
   refine ⟨lc,zr rfl ⟨.inl (SqL.of xJ),?_⟩⟩
   rw [zA,<- filt_len]
   exact q _ ((sA.trans s5).trans (xM hlc))
theorem Ea:FnScope ["_law_found", "_law_book_here", "_law_letters_here", "_law_deed"] ["_law_found", "_law_book_here", "_law_letters_here"] (defScope wL):=⟨rfl,rfl,rfl,by decide +kernel,rfl,by decide +kernel,by decide +kernel⟩
theorem GI (T:Tx K mg a t_MOST_TOKENS):FnOk P w K mg base CX0 2 a.AD a.Bc ["_law_found", "_law_book_here", "_law_letters_here"] (spCopies):=by
 have Fw:=@GB P w _ _ base _ _ T
 refine T.AT.ok Ea (λvs H Q E h=>?_) (λcdv A outer s H vs Q E hr h=>?_)
 ·obtain ⟨_,_,_,_,_,_,_,_,_,rfl,_⟩:=h;rfl
 ·have nd:=Ea.nd
  have hu:=hr.units
  obtain ⟨l,b,ll,ys,ls,rooms,tr,tm,ps,rfl,hl,dsa,ly,hb,hll,cop,q⟩:=h
  refine ⟨_,(xL (xZ (xi (wE (xo (xS (xq) (by rfl) T.b_isinstance zR (xG (xH (pv 0) (xH (wU (v:=V.ty "list") rfl T.b_list z8 rfl) xN rfl) rfl))))) (xL (xg (xY wD))) xX) (xZ (wd PassesOwn.never rfl (pi_list' rfl (pv 0)) (xR (i:=3) nd rfl (by first | exact Or.inl rfl | exact Or.inr rfl)) (xL (xZ (xi (PW.pt (pw_or (wE (xo (xS (xq) (by rfl) T.b_isinstance zR (xG (xH (pv 3) (xH (wU (v:=V.ty "tuple") rfl T.b_tuple yH rfl) xN rfl) rfl))))) (pw_or (xb op_ne (xS (xQ rfl) (by rfl) T.b_len PySem.boot_len (xG (xH (pv 3) xN rfl))) xI (nomark _)) (pw_or1 (xb op_ne (xU (xW rfl) (pv 3) xI (λ_ _=>rfl)) pe_str (nomark _)))))) (xL (xg (xY wD))) xX) (xZ (xi (wE (xo (xS (call_all rfl rfl) (by rfl) T.b_all PyProof.Rows.boot_all (xG (xH (wf (own:=["_law_part"]) (caps:=[]) rfl (show CompScope ["_law_part"] [] ["_law_found", "_law_book_here", "_law_letters_here", "_law_deed"] (defScope wL) _ from ⟨rfl,by decide +kernel,by decide +kernel,by decide +kernel,by decide +kernel⟩) (pi_tup'' rfl (pe_slice (sl_tup' rfl) (pv 3) (po_some xI) po_none)) (λ_ _ _ _=>(xR (i:=0) (show List.Nodup (["_law_part"]:List Str) from by decide +kernel) rfl (by first | exact Or.inl rfl | exact Or.inr rfl))) (λ_ _ _ _=>we) (λ_ _ _ _=>(xP Fw (hr.mono (by decide)) rfl T.Hi T.Hm T.Hr .nil pass0 (xG (xH (pv 0) xN rfl))))) xN rfl))))) (xL (xg (xY wD))) xX) (xZ (xi (PW.pt (pw_or (wE (pt_chain op_le op_lt xI (xU (xW rfl) (pv 3) xI (λ_ _=>rfl)) (xS (xQ rfl) (by rfl) T.b_len PySem.boot_len (xG (xH (xU (xW rfl) (pv 1) xI (λ_ _=>rfl)) xN rfl))))) (pw_or1 (wE (pt_chain op_le op_lt xI (xU (xW rfl) (pv 3) xI (λ_ _=>rfl)) (xS (xQ rfl) (by rfl) T.b_len PySem.boot_len (xG (xH (pv 2) xN rfl)))))))) (xL (xg (xY wD))) xX) (xg (xi (xb op_notIn_seq (xU (xW rfl) (pv 3) xI (λ_ _=>rfl)) (pe_slice (sl_tup' rfl) (xU (xW rfl) (xU (xW rfl) (pv 1) xI (λ_ _=>rfl)) (xU (xW rfl) (pv 3) xI (λ_ _=>rfl)) (λ_ _=>rfl)) po_none (po_some xI)) rfl) (xL (xg (xY wD))) xX))))))) (xg (xY wD))))),?_⟩
  have line:100002<=sizeLine:=by rw [sizeLine_eq];decide
  refine (zr rfl ⟨_, "list", "list", rfl,tyS_lst hl,by simp,zr rfl (iteB0 rfl ?_)⟩)
  refine (zr rfl ⟨l,rfl,⟨_,SqL.of hl⟩,?_⟩)
  refine for_list (K:=K) (a:=l) (xs:=ys.map λy=>V.ref y.1) (λj σ H5=>(∃ v3,σ=[some (.ref l),some (.ref b),some (.ref ll),v3])/\Same H H5) ⟨⟨_,rfl⟩,Same.refl _⟩ ?_ ?_ ?_
  ·rintro j σ H5 _ ⟨_,s5⟩
   exact SqL.of (s5 _ _ hl)
  ·rintro j x σ H5 hx ⟨⟨v3,rfl⟩,s5⟩
   obtain ⟨y,hy,rfl⟩:=wB hx
   have ym:=zD hy
   obtain ⟨m,l0,g,M,e0,hM,hj,hg⟩:=cop y ym
   have ky:=s5 _ _ (dsa y ym)
   rw [e0] at ky
   have ky':H5 y.1=some (.tup [V.str (Str.ofString "copy"),V.int (m:Int),V.int (l0:Int),V.int g]):=ky
   refine (zr rfl ⟨_, "tuple", "tuple", rfl,tyS_tup ky',by simp,zr rfl (iteB0 rfl ?_)⟩)
   refine (zr rfl ⟨y.1,zr rfl ⟨.inr (SqT.of ky'),rfl,zr rfl (iteB0 rfl ?_)⟩⟩)
   refine (zr rfl (ixt ky' rfl ⟨rfl,zr rfl (iteB0 (by simp) ?_)⟩))
   refine (zr rfl (zr rfl ⟨y.1,zr rfl ⟨SqT.of ky',(λz=>by have:=z.1;revert this;show HT.sIx 4 0 (some 1)=0->False;decide),λt1 ht1=>?_⟩⟩))
   rw [show cutV [V.str (Str.ofString "copy"),V.int (m:Int),V.int (l0:Int),V.int g] (some 1) none=[V.int (m:Int),V.int (l0:Int),V.int g] from rfl]
   have s6:=xM (o:=HO.tup [V.int (m:Int),V.int (l0:Int),V.int g]) ht1
   have k1:upd H5 t1 (HO.tup [V.int (m:Int),V.int (l0:Int),V.int g]) t1=some (.tup ([(m:Int),(l0:Int),g].map V.int)):=xJ
   generalize upd H5 t1 (HO.tup [V.int (m:Int),V.int (l0:Int),V.int g])=H6 at s6 k1 ⊢
   refine ⟨t1,rfl,⟨_,SqT.of k1⟩,?_⟩
   refine comp_tup (K:=K) (a:=t1) (xs:=[(m:Int),(l0:Int),g].map V.int) (λj τ acc H7=>(∃ t0,τ=[t0])/\acc=(List.replicate j true).map V.bl/\Same H6 H7) ⟨⟨_,rfl⟩,rfl,Same.refl _⟩ (by show 3<=1000;decide) ?_ ?_ ?_
   ·rintro j τ acc H7 ⟨_,rfl,s7⟩
    exact ⟨by rw [zA,yF];exact zK _,SqT.of (s7 _ _ k1)⟩
   ·rintro j v τ acc H7 C hv ⟨⟨t0,rfl⟩,rfl,s7⟩ hC
    obtain ⟨o,ho,rfl⟩:=wB hv
    exact (zr rfl ⟨_, "int", rfl,rfl,hC _ _ _ ⟨⟨_,rfl⟩,by rw [List.replicate_succ',zQ];rfl,s7⟩⟩)
   rintro τ acc H7 ⟨_,rfl,s7⟩ lr hlr
   refine ⟨lr,zr rfl ⟨SqL.of xJ,?_⟩⟩
   rw [show (List.replicate ([(m:Int),(l0:Int),g].map V.int).length true).all id=true from rfl]
   refine (zr rfl (iteB0 rfl ?_))
   have s57:=(s6.trans s7).trans (xM (o:=HO.lst ((List.replicate ([(m:Int),(l0:Int),g].map V.int).length true).map V.bl)) hlr)
   generalize upd H7 lr (HO.lst ((List.replicate ([(m:Int),(l0:Int),g].map V.int).length true).map V.bl))=H8 at s57 ⊢
   have ky8:=s57 _ _ ky'
   have s8:=s5.trans s57
   have hb8:=hb.same s8
   have hl8:=hll.same s8
   obtain ⟨p0,hp0,rfl⟩:∃ p0,ps[m]?=some p0/\p0.2=M:=by rw [zC] at hM;exact Option.map_eq_some_iff.mp hM
   have hmp:=(zB.mp hp0).1
   have hrow:H8 p0.1=some (.tup [V.int p0.2.lo,V.int p0.2.hi,V.int p0.2.t,V.int p0.2.m]):=hb8.rows p0 (zD hp0)
   have atm:atI (ps.map λa=>V.ref a.1) (m:Int)=some (V.ref p0.1):=xj (by rw [zC,hp0];rfl)
   refine (zr rfl (ixt ky8 rfl (zr2 rfl rfl (zr rfl (iteB1 (decide_eq_true (by omega)) (zr rfl (ixt hb8.book rfl ⟨tm,zr rfl ⟨.inr (SqT.of hb8.meets),zr2 rfl rfl (zr rfl (iteB0 (by rw [decide_eq_true (by rw [zA];omega)];rfl) ?_))⟩⟩)))))))
   refine (zr rfl (ixt ky8 rfl (zr2 rfl rfl (zr rfl (iteB1 (decide_eq_true (by omega)) (zr rfl ⟨ll,zr rfl ⟨.inl (SqL.of hl8.1),zr2 rfl rfl (zr rfl (iteB0 (by rw [decide_eq_true (by rw [zA];omega)];rfl) ?_))⟩⟩))))))
   refine (zr rfl (ixt ky8 rfl (zr rfl (ixt hb8.book rfl (zr rfl (ixt ky8 rfl (ixt hb8.meets atm (zr rfl ⟨p0.1,zr rfl ⟨SqT.of hrow,(by show ¬ (HT.sIx 4 0 none=0/\HT.sIx 4 4 (some 2)=4);decide),λp2 hp2=>⟨p2,[.int p0.2.lo,.int p0.2.hi],rfl,.inr (SqT.of xJ),rfl,rfl,zr rfl (iteB0 ?_ ⟨⟨_,rfl⟩,s8.trans (xM hp2)⟩)⟩⟩⟩))))))))
   show (!inV (.int g) [.int p0.2.lo,.int p0.2.hi])=false
   rw [inV_two]
   rcases hg with h | h
   ·rw [decide_eq_true h.symm];rfl
   ·rw [decide_eq_true h.symm,Bool.or_true];rfl
  rintro σ H5 ⟨⟨v3,rfl⟩,s5⟩
  exact q _ s5
theorem Fz:FnScope ["_law_book_here", "_law_letters_here", "_law_rule_here", "_law_caught", "e"] ["_law_book_here", "_law_letters_here", "_law_rule_here"] (defScope Ej):=⟨rfl,rfl,rfl,by decide +kernel,rfl,by decide +kernel,by decide +kernel⟩
theorem JB (T:Tx K mg a t_MOST_TOKENS):FnOk P w K mg base CX0 8 a.A1 a.BJ ["_law_book_here", "_law_letters_here", "_law_rule_here"] (spRefused57 a.At a.Ao a.Ah):=by
 have Nt:=@NU P w _ _ base _ _ T
 refine T.Bt.ok Fz (λvs H Q E h=>?_) (λcdv A outer s H vs Q E hr h=>?_)
 ·obtain ⟨_,_,_,_,_,_,_,rfl,_⟩:=h;rfl
 ·have nd:=Fz.nd
  have hu:=hr.units
  obtain ⟨b,ll,r,rooms,tr,tm,ps,rfl,hb,r1,r12,r0,gd,hh⟩:=h
  refine ⟨_,(xL (xZ (xf (i:=3) nd rfl (by first | exact Or.inl rfl | exact Or.inr rfl) pe_non) (xZ (ps_tryAs (i:=4) rfl (psx_call Nt (hr.mono (by decide)) rfl T.NX T.N4 T.N9 .nil (xG (xH (pv 0) (xH (pv 1) (xH (pv 2) xN rfl) rfl) rfl))) rfl rfl rfl T.Mb nd rfl rfl (λ_=>(xL (xg (xf (i:=3) nd rfl (by first | exact Or.inl rfl | exact Or.inr rfl) (pv 4)))))) (xZ (xi (xo (xS (call_isXTN rfl) (by rfl) T.b_isinstance zR (xG (xH (pv 3) (xH (wF (xG (xH (xt (v:=V.ref a.BS) (by rfl) T.N0 rfl) (xH (xt (v:=V.ref a.Aj) (by rfl) T.Jp rfl) (xH (xt (v:=V.ref a.AQ) (by rfl) T.Ma rfl) (xH (xt (v:=V.ref a.An) (by rfl) T.J7 rfl) (xH (xt (v:=V.ref a.Am) (by rfl) T.GQ rfl) (xH (xt (v:=V.ref a.Ag) (by rfl) T.Fj rfl) (xH (xt (v:=V.ref a.A0) (by rfl) T.Nh rfl) (xH (xt (v:=V.ref a.Al) (by rfl) T.J6 rfl) (xH (xt (v:=V.ref a.Ak) (by rfl) T.J5 rfl) xN rfl) rfl) rfl) rfl) rfl) rfl) rfl) rfl) rfl))) xN rfl) rfl)))) (xL (xg (xY wD))) xX) (xZ (xi (xo (xS (call_isXTN rfl) (by rfl) T.b_isinstance zR (xG (xH (pv 3) (xH (wF (xG (xH (xt (v:=V.ref a.Br) (by rfl) T.Nw rfl) (xH (xt (v:=V.ref a.CW) (by rfl) T.Oh rfl) (xH (xt (v:=V.ref a.Bs) (by rfl) T.Nx rfl) (xH (xt (v:=V.ref a.BQ) (by rfl) T.NY rfl) (xH (xt (v:=V.ref a.CV) (by rfl) T.Og rfl) (xH (xt (v:=V.ref a.BR) (by rfl) T.NZ rfl) (xH (xt (v:=V.ref a.CU) (by rfl) T.Of rfl) xN rfl) rfl) rfl) rfl) rfl) rfl) rfl))) xN rfl) rfl)))) (xL (xg (xY wD))) xX) (xg (xY (pe_and (xS (call_isXN rfl) (by rfl) T.b_isinstance zR (xG (xH (pv 3) (xH (xt (v:=V.ref a.As) (by rfl) T.J2 rfl) xN rfl) rfl))) (pe_one (xS (call_isXN rfl) (by rfl) T.b_isinstance zR (xG (xH (pv 3) (xH (wU (v:=V.ty "ValueError") rfl T.b_ValueError PyProof.Rows.Boot.«ValueError» rfl) xN rfl) rfl)))))))))))),?_⟩
  have line:=line9
  rcases hh with ⟨pb,rooms',tr',tm',ps',hnr,hbp,ne,q⟩ | ⟨d,hll,hru,q⟩
  ·refine (zr rfl (zr rfl (zr rfl (.inr (ex12 b ll r pb rooms tr tm ps rooms' tr' tm' ps' ⟨rfl,hb,hnr,hbp,ne,T.f_em,zr rfl (λx hx=>?_)⟩)))))
   have s2:=xM (o:=excO x a.As) hx
   have hx2:upd H x (excO x a.As) x=some (excO x a.As):=xJ
   generalize upd H x (excO x a.As)=H2 at s2 hx2 ⊢
   refine (zr rfl ?_)
   refine (zr rfl ⟨by show 9<=sizeLine;omega,λtp htp=>.inr ⟨x,a.As,tp,[V.ref a.BS,V.ref a.Aj,V.ref a.AQ,V.ref a.An,V.ref a.Am,V.ref a.Ag,V.ref a.A0,V.ref a.Al,V.ref a.Ak],false,rfl,xM htp _ _ hx2,T.E5,SqT.of xJ,rfl,T.f_a1,zr rfl (iteB0 rfl ?_)⟩⟩)
   have s3:=xM (o:=HO.tup [V.ref a.BS,V.ref a.Aj,V.ref a.AQ,V.ref a.An,V.ref a.Am,V.ref a.Ag,V.ref a.A0,V.ref a.Al,V.ref a.Ak]) htp
   have hx3:=s3 _ _ hx2
   refine (zr rfl ⟨by show 7<=sizeLine;omega,λtp2 htp2=>.inr ⟨x,a.As,tp2,[V.ref a.Br,V.ref a.CW,V.ref a.Bs,V.ref a.BQ,V.ref a.CV,V.ref a.BR,V.ref a.CU],false,rfl,xM htp2 _ _ hx3,T.E5,SqT.of xJ,rfl,T.f_a2,zr rfl (iteB0 rfl ?_)⟩⟩)
   have s4:=xM (o:=HO.tup [V.ref a.Br,V.ref a.CW,V.ref a.Bs,V.ref a.BQ,V.ref a.CV,V.ref a.BR,V.ref a.CU]) htp2
   have hx4:=s4 _ _ hx3
   exact (zr rfl (.inr ⟨x,_,_,true,rfl,hx4,T.E5,rfl,inv_self,zr rfl (iteB1 rfl (zr rfl (.inr ⟨x,_,_,true,rfl,hx4,T.E5,rfl,T.f_rv,q _ (s2.trans (s3.trans s4))⟩)))⟩))
  ·refine (zr rfl (zr rfl (zr rfl (.inl (ex9 b ll r ([]) rooms tr tm ps d ⟨rfl,hb,r1,r12,r0,gd,⟨hll,λ_ z=>nomatch z⟩,zZ _,(λ_ z=>nomatch z),hru,λp4 dl tl kl ys rws tks t H2 s2 kp kdl dsa ly rok tw his oso ktl krws er kkl ktks wx tko fr=>?_⟩)))))
   refine (zr rfl ⟨by show 9<=sizeLine;omega,λtp htp=>.inl ⟨tp,[V.ref a.BS,V.ref a.Aj,V.ref a.AQ,V.ref a.An,V.ref a.Am,V.ref a.Ag,V.ref a.A0,V.ref a.Al,V.ref a.Ak],false,rfl,SqT.of xJ,rfl,T.f_b1,zr rfl (iteB0 rfl ?_)⟩⟩)
   have s3:=xM (o:=HO.tup [V.ref a.BS,V.ref a.Aj,V.ref a.AQ,V.ref a.An,V.ref a.Am,V.ref a.Ag,V.ref a.A0,V.ref a.Al,V.ref a.Ak]) htp
   refine (zr rfl ⟨by show 7<=sizeLine;omega,λtp2 htp2=>.inl ⟨tp2,[V.ref a.Br,V.ref a.CW,V.ref a.Bs,V.ref a.BQ,V.ref a.CV,V.ref a.BR,V.ref a.CU],false,rfl,SqT.of xJ,rfl,T.f_b2,zr rfl (iteB0 rfl ?_)⟩⟩)
   have s4:=xM (o:=HO.tup [V.ref a.Br,V.ref a.CW,V.ref a.Bs,V.ref a.BQ,V.ref a.CV,V.ref a.BR,V.ref a.CU]) htp2
   exact (zr rfl (.inl ⟨_,false,rfl,rfl,T.f_nr,zr rfl (iteB0 rfl (q _ (s2.trans (s3.trans s4))))⟩))
theorem FO:FnScope ["_law_book_here", "_law_letters_here", "_law_past_here", "_law_deeds", "_law_word", "_law_at", "_law_number", "_law_giver", "_law_taker", "_law_wish", "_law_here"] ["_law_book_here", "_law_letters_here", "_law_past_here", "_law_deeds"] (defScope EV):=⟨rfl,rfl,rfl,by decide +kernel,rfl,by decide +kernel,by decide +kernel⟩
theorem JV (T:Tx K mg a t_MOST_TOKENS):FnOk P w K mg base CX0 2 a.Bn a.Cc ["_law_book_here", "_law_letters_here", "_law_past_here", "_law_deeds"] (spClimbs57):=by
 have KI:=@LZ P w _ _ base _ _ T
 refine T.BG.ok FO (λvs H Q E h=>?_) (λcdv A outer s H vs Q E hr h=>?_)
 ·obtain ⟨_,_,_,_,_,_,_,_,_,_,_,_,_,_,rfl,_⟩:=h;rfl
 ·have nd:=FO.nd
  have hu:=hr.units
  obtain ⟨b,ll,pb,dl,ys,ls,rooms,tr,tm,ps,rooms',tr',tm',ps',rfl,hb,gd,hll,hbp,gdp,hdl,dsa,cl,q⟩:=h
  refine ⟨_,(xL (xZ (wd PassesOwn.never rfl (pi_list' rfl (pv 3)) (xz (n:=4) rfl rfl (xT (xR (i:=4) nd rfl (by first | exact Or.inl rfl | exact Or.inr rfl)) (xT (xR (i:=5) nd rfl (by first | exact Or.inl rfl | exact Or.inr rfl)) (xT (xR (i:=6) nd rfl (by first | exact Or.inl rfl | exact Or.inr rfl)) (xT (xR (i:=7) nd rfl (by first | exact Or.inl rfl | exact Or.inr rfl)) xy))))) (xL (xZ (xf (i:=8) nd rfl (by first | exact Or.inl rfl | exact Or.inr rfl) (xh op_sub (xh xr (xU (xW rfl) (xU (xW rfl) (xU (xW rfl) (pv 0) xI (λ_ _=>rfl)) (pv 5) (λ_ _=>rfl)) xI (λ_ _=>rfl)) (xU (xW rfl) (xU (xW rfl) (xU (xW rfl) (pv 0) xI (λ_ _=>rfl)) (pv 5) (λ_ _=>rfl)) xI (λ_ _=>rfl))) (pv 7))) (xZ (xf (i:=9) nd rfl (by first | exact Or.inl rfl | exact Or.inr rfl) (xU (xW rfl) (xU (xV rfl) (pv 1) (pv 6) (λ_ _=>rfl)) xI (λ_ _=>rfl))) (xZ (xf (i:=10) nd rfl (by first | exact Or.inl rfl | exact Or.inr rfl) (xh op_mul (xP KI (hr.mono (by decide)) rfl T.JZ T.Kb T.Kf .nil pass0 (xG (xH (pv 2) (xH (pv 7) (xH (pv 9) xN rfl) rfl) rfl))) (wJ (call_int1) (by rfl) T.b_int yZ (xG (xH (pe_cmpR op_ne (pv 7) (pv 9) (nomark _)) xN rfl))))) (xg (xi (PW.pt (pw_and (xb op_ne (pv 8) (pv 9) (nomark _)) (wa (xb op_le (xP KI (hr.mono (by decide)) rfl T.JZ T.Kb T.Kf .nil pass0 (xG (xH (pv 2) (xH (pv 8) (xH (pv 9) xN rfl) rfl) rfl))) (pv 10) (nomark _))))) (xL (xg (xY wD))) xX))))))) (xg (xY wD)))),?_⟩
  have line:100002<=sizeLine:=by rw [sizeLine_eq];decide
  refine (zr rfl ⟨dl,rfl,⟨_,SqL.of hdl⟩,?_⟩)
  refine for_list (K:=K) (a:=dl) (xs:=ys.map λy=>V.ref y.1) (λi σ H5=>(∃ v4 v5 v6 v7 v8 v9 v10,σ=[some (.ref b),some (.ref ll),some (.ref pb),some (.ref dl),v4,v5,v6,v7,v8,v9,v10])/\Same H H5) ⟨⟨_,_,_,_,_,_,_,rfl⟩,Same.refl _⟩ ?_ ?_ ?_
  ·rintro i σ H5 _ ⟨_,s5⟩
   exact SqL.of (s5 _ _ hdl)
  ·rintro i v σ H5 hv ⟨⟨v4,v5,v6,v7,v8,v9,v10,rfl⟩,s5⟩
   obtain ⟨y,hy,rfl⟩:=wB hv
   obtain ⟨m,j,g,M,L,e0,hM,hL,hg,hc⟩:=cl y (zD hy)
   have kde:H5 y.1=some (.tup [V.str (Str.ofString "copy"),V.int (m:Int),V.int (j:Int),V.int g]):=by
    have:=dsa y (zD hy);rw [e0] at this;exact s5 _ _ this
   obtain ⟨p0,hp0,rfl⟩:∃ p0,ps[m]?=some p0/\p0.2=M:=by rw [zC] at hM;exact Option.map_eq_some_iff.mp hM
   have ge:=gd.each p0.2 (zD hM)
   have eo:p0.2.lo + p0.2.hi - g=othI p0.2 g:=by unfold othI;split <;> omega
   have hb5:=hb.same s5
   have hrM:H5 p0.1=some (.tup [V.int p0.2.lo,V.int p0.2.hi,V.int p0.2.t,V.int p0.2.m]):=hb5.rows p0 (zD hp0)
   have atm:atI (ps.map λa=>V.ref a.1) (m:Int)=some (V.ref p0.1):=xj (by rw [zC,hp0];rfl)
   have hl5:=hll.same s5
   have hrow:H5 L.1=some (.tup [V.int (L.2.s:Int),V.int L.2.a,V.int (L.2.w:Int),V.int L.2.z]):=hl5.2 L (zD hL)
   have low:atI (ls.map λl=>V.ref l.1) (j:Int)=some (V.ref L.1):=xj (by rw [zC,hL];rfl)
   refine (un4 kde ?_)
   refine (zr rfl (ixt hb5.book rfl (zr rfl (ixt hb5.meets atm (ixt hrM rfl (zr rfl (ixt hb5.book rfl (zr rfl (ixt hb5.meets atm (ixt hrM rfl (zr2 rfl rfl (zr rfl (zr2 rfl rfl ?_)))))))))))))
   show gName 8 (V.int (p0.2.lo + p0.2.hi - g)) _ _ _
   rw [eo]
   refine (zr rfl (zr rfl (ixl hl5.1 low (ixt hrow rfl ?_))))
   refine (zr rfl (zr rfl (zr rfl ⟨pb,g,(L.2.w:Int),rooms',tr',tm',ps',rfl,hbp.same s5,gdp,λH6 s6=>?_⟩)))
   refine (zr rfl (zr rfl ⟨rfl,.inr (zr rfl (zr2 rfl rfl ⟨.inr ?_,?_⟩))⟩))
   ·cases (!decide (V.int g=V.int (L.2.w:Int))) <;> decide
   have le1:((metN (ps'.map (·.2)) g (L.2.w:Int):Nat):Int) * (if (!decide (V.int g=V.int (L.2.w:Int)))=true then 1 else 0)<=((metN (ps'.map (·.2)) g (L.2.w:Int):Nat):Int):=by
    cases (!decide (V.int g=V.int (L.2.w:Int))) <;> simp
   by_cases cw:othI p0.2 g=(L.2.w:Int)
   ·exact (zr rfl (zr rfl ⟨rfl,zr rfl (iteB0 (by rw [cw];simp) (iteB0 rfl ⟨⟨_,_,_,_,_,_,_,rfl⟩,s5.trans s6⟩))⟩))
   ·refine (zr rfl (zr rfl ⟨rfl,zr rfl (iteB1 (by simp [cw]) (zr rfl (zr rfl (zr rfl ⟨pb,othI p0.2 g,(L.2.w:Int),rooms',tr',tm',ps',rfl,hbp.same (s5.trans s6),gdp,λH7 s7=>(zr rfl (zr2 rfl rfl (zr rfl (iteB0 (decide_eq_false (λz=>absurd (Int.le_trans z le1) (by have:=hc.resolve_left cw;omega))) ⟨⟨_,_,_,_,_,_,_,rfl⟩,s5.trans (s6.trans s7)⟩))))⟩))))⟩))
  rintro σ H5 ⟨⟨v4,v5,v6,v7,v8,v9,v10,rfl⟩,s5⟩
  exact q _ s5
theorem FA:FnScope ["_law_book_here", "_law_letters_here", "_law_deeds", "_law_times_told", "_law_tokens", "_law_number", "_law_sender", "_law_since", "_law_wish", "_law_last", "_law_row", "_law_word", "_law_at", "_law_other", "_law_giver", "_law_meeting", "_law_least", "_law_k"] ["_law_book_here", "_law_letters_here", "_law_deeds", "_law_times_told", "_law_tokens"] (defScope Ek):=⟨rfl,rfl,rfl,by decide +kernel,rfl,by decide +kernel,by decide +kernel⟩
theorem JC (T:Tx K mg a t_MOST_TOKENS):FnOk P w K mg base CX0 3 a.A2 a.BK ["_law_book_here", "_law_letters_here", "_law_deeds", "_law_times_told", "_law_tokens"] (spReached57):=by
 have Lj:=@MF P w _ _ base _ _ T
 have LS:=@KQ P w _ _ base _ _ T
 refine T.Bu.ok FA (λvs H Q E h=>?_) (λcdv A outer s H vs Q E hr h=>?_)
 ·obtain ⟨_,_,_,_,_,_,_,_,_,_,_,_,_,_,_,rfl,_⟩:=h;rfl
 ·have nd:=FA.nd
  have hu:=hr.units
  obtain ⟨b,ll,dl,tl,kl,ys,ls,rooms,tr,tm,ps,rws,tks,d,s1,rfl,hb,r12,gd,hll,l41,lb,hdl,dsa,rT,rK,rc,q⟩:=h
  refine ⟨_,(xL (xZ (xi (PW.pt (pw_or (xb op_ne (xS (xQ rfl) (by rfl) T.b_len PySem.boot_len (xG (xH (pv 3) xN rfl))) (xS (xQ rfl) (by rfl) T.b_len PySem.boot_len (xG (xH (pv 1) xN rfl))) (nomark _)) (pw_or1 (xb op_ne (xS (xQ rfl) (by rfl) T.b_len PySem.boot_len (xG (xH (pv 4) xN rfl))) (xS (xQ rfl) (by rfl) T.b_len PySem.boot_len (xG (xH (pv 1) xN rfl))) (nomark _))))) (xL (xg (xY wD))) xX) (xZ (wd PassesOwn.never rfl (wN rfl T.b_range (xG (xH (xS (xQ rfl) (by rfl) T.b_len PySem.boot_len (xG (xH (pv 1) xN rfl))) xN rfl))) (xR (i:=5) nd rfl (by first | exact Or.inl rfl | exact Or.inr rfl)) (xL (xZ (wW (xU (xV rfl) (pv 1) (pv 5) (λ_ _=>rfl)) (xz (n:=4) rfl rfl (xT (xR (i:=6) nd rfl (by first | exact Or.inl rfl | exact Or.inr rfl)) (xT (xR (i:=7) nd rfl (by first | exact Or.inl rfl | exact Or.inr rfl)) (xT (xR (i:=8) nd rfl (by first | exact Or.inl rfl | exact Or.inr rfl)) (xT (xR (i:=9) nd rfl (by first | exact Or.inl rfl | exact Or.inr rfl)) xy)))))) (xZ (xf (i:=10) nd rfl (by first | exact Or.inl rfl | exact Or.inr rfl) (xh op_rep (xw (xG (xH pe_non xN rfl))) (xS (xQ rfl) (by rfl) T.b_len PySem.boot_len (xG (xH (xU (xW rfl) (pv 0) xI (λ_ _=>rfl)) xN rfl))))) (xZ (wW (pv 7) (pg_sub (pv 10) (pv 6) wT)) (xZ (wd PassesOwn.never rfl (pi_list' rfl (pv 2)) (xz (n:=4) rfl rfl (xT (xR (i:=11) nd rfl (by first | exact Or.inl rfl | exact Or.inr rfl)) (xT (xR (i:=12) nd rfl (by first | exact Or.inl rfl | exact Or.inr rfl)) (xT (xR (i:=13) nd rfl (by first | exact Or.inl rfl | exact Or.inr rfl)) (xT (xR (i:=14) nd rfl (by first | exact Or.inl rfl | exact Or.inr rfl)) xy))))) (xL (xg (xi (xb wM (pv 13) (pv 5) (nomark _)) (xL (xZ (xf (i:=15) nd rfl (by first | exact Or.inl rfl | exact Or.inr rfl) (xU (xW rfl) (xU (xW rfl) (pv 0) xI (λ_ _=>rfl)) (pv 12) (λ_ _=>rfl))) (xg (wW (xU (xW rfl) (pv 15) xI (λ_ _=>rfl)) (pg_sub (pv 10) (xh op_sub (xh xr (xU (xW rfl) (pv 15) xI (λ_ _=>rfl)) (xU (xW rfl) (pv 15) xI (λ_ _=>rfl))) (pv 14)) wT))))) xX)))) (xZ (xf (i:=16) nd rfl (by first | exact Or.inl rfl | exact Or.inr rfl) (xP LS (hr.mono (by decide)) rfl T.Ly T.LB T.LD .nil pass0 (xG (xH (pv 0) (xH (pv 6) (xH (pv 7) xN rfl) rfl) rfl)))) (xZ (xi (PW.pt (pw_or (xb op_ne (xS (xQ rfl) (by rfl) T.b_len PySem.boot_len (xG (xH (xU (xV rfl) (pv 3) (pv 5) (λ_ _=>rfl)) xN rfl))) (xS (xQ rfl) (by rfl) T.b_len PySem.boot_len (xG (xH (pv 10) xN rfl))) (nomark _)) (pw_or1 (xb op_ne (xS (xQ rfl) (by rfl) T.b_len PySem.boot_len (xG (xH (xU (xV rfl) (pv 4) (pv 5) (λ_ _=>rfl)) xN rfl))) (xS (xQ rfl) (by rfl) T.b_len PySem.boot_len (xG (xH (pv 10) xN rfl))) (nomark _))))) (xL (xg (xY wD))) xX) (xg (wd PassesOwn.never rfl (wN rfl T.b_range (xG (xH (xS (xQ rfl) (by rfl) T.b_len PySem.boot_len (xG (xH (pv 10) xN rfl))) xN rfl))) (xR (i:=17) nd rfl (by first | exact Or.inl rfl | exact Or.inr rfl)) (xL (xZ (xi (wE (xo (xP Lj (hr.mono (by decide)) rfl T.Le T.Lf T.Lg .nil pass0 (xG (xH (xU (xV rfl) (xU (xV rfl) (pv 3) (pv 5) (λ_ _=>rfl)) (pv 17) (λ_ _=>rfl)) (xH (xU (xV rfl) (pv 10) (pv 17) (λ_ _=>rfl)) xN rfl) rfl))))) (xL (xg (xY wD))) xX) (xZ (xi (wE (xo (xP Lj (hr.mono (by decide)) rfl T.Le T.Lf T.Lg .nil pass0 (xG (xH (xU (xV rfl) (xU (xV rfl) (pv 4) (pv 5) (λ_ _=>rfl)) (pv 17) (λ_ _=>rfl)) (xH (xU (xV rfl) (xw (xG (xH xI (xH pe_non xN rfl) rfl))) (wJ (call_int1) (by rfl) T.b_int yZ (xG (xH (pe_cmp (pc_isN (xU (xV rfl) (pv 10) (pv 17) (λ_ _=>rfl)))) xN rfl))) (λ_ _=>rfl)) xN rfl) rfl))))) (xL (xg (xY wD))) xX) (xg (xi (PW.pt (pw_and (pt_cmp (pc_notN (xU (xV rfl) (pv 10) (pv 17) (λ_ _=>rfl)))) (wa (PW.pt (pw_or (pt_cmp (pc_isN (xU (xV rfl) (pv 16) (pv 17) (λ_ _=>rfl)))) (pw_or1 (xb op_gt (xU (xV rfl) (pv 16) (pv 17) (λ_ _=>rfl)) (xU (xV rfl) (pv 10) (pv 17) (λ_ _=>rfl)) (nomark _)))))))) (xL (xg (xY wD))) xX))))))))))))))) (xg (xY wD))))),?_⟩
  have line:100002<=sizeLine:=by rw [sizeLine_eq];decide
  have lll:(ls.map λx=>V.ref x.1).length=ls.length:=zA _
  have n60:=gd.len
  have snd:=row_sender gd lb rc.pth
  have lst:=row_least gd lb rc.pth
  obtain ⟨S,eS0,eS1,st⟩:=id rc.pth
  refine (zr rfl ⟨tl,zr rfl ⟨.inl (SqL.of rT.1),zr rfl ⟨ll,zr rfl ⟨.inl (SqL.of hll.1),rfl,zr rfl (iteB0 (by rw [zA,zA,rc.lr];simp) (zr rfl ⟨kl,zr rfl ⟨.inl (SqL.of rK.1),zr rfl ⟨ll,zr rfl ⟨.inl (SqL.of hll.1),rfl,zr rfl (iteB0 (by rw [zA,zA,rc.lk];simp) ?_)⟩⟩⟩⟩))⟩⟩⟩⟩)
  refine (zr rfl ⟨ll,zr rfl ⟨.inl (SqL.of hll.1),zr rfl ⟨by omega,by rw [lll];omega,?_⟩⟩⟩)
  refine for_range (lo:=0) (λi σ H5=>(∃ v5 v6 v7 v8 v9 v10 v11 v12 v13 v14 v15 v16 v17,σ=[some (.ref b),some (.ref ll),some (.ref dl),some (.ref tl),some (.ref kl),v5,v6,v7,v8,v9,v10,v11,v12,v13,v14,v15,v16,v17])/\Same H H5) ⟨⟨_,_,_,_,_,_,_,_,_,_,_,_,_,rfl⟩,Same.refl _⟩ ?_ ?_
  ·rintro i σ H5 hi ⟨⟨v5,v6,v7,v8,v9,v10,v11,v12,v13,v14,v15,v16,v17,rfl⟩,s5⟩
   rw [Int.zero_add]
   have hi':i < ls.length:=by rw [lll] at hi;simpa using hi
   obtain ⟨L,hL⟩:∃ L,ls[i]?=some L:=⟨_,zE hi'⟩
   obtain ⟨x,hx⟩:∃ x,rws[i]?=some x:=⟨_,zE (by rw [rc.lr];exact hi')⟩
   obtain ⟨y,hy⟩:∃ y,tks[i]?=some y:=⟨_,zE (by rw [rc.lk];exact hi')⟩
   have Lm:=zD hL
   have lbL:=lb L Lm
   have hl5:=hll.same s5
   have hrow:H5 L.1=some (.tup [V.int (L.2.s:Int),V.int L.2.a,V.int (L.2.w:Int),V.int L.2.z]):=hl5.2 L Lm
   have low:atI (ls.map λl=>V.ref l.1) (i:Int)=some (V.ref L.1):=xj (by rw [zC,hL];rfl)
   refine (zr rfl (zr rfl (ixl hl5.1 low (un4 hrow ?_))))
   refine ⟨by show 1<=sizeLine;omega,λl1 hl1=>?_⟩
   have s6:=xM (o:=HO.lst [V.non]) hl1
   have k6:upd H5 l1 (HO.lst [V.non]) l1=some (.lst [V.non]):=xJ
   generalize upd H5 l1 (HO.lst [V.non])=H6 at s6 k6 ⊢
   have hb6:=hb.same (s5.trans s6)
   refine (zr rfl (ixt hb6.book rfl ⟨tr,zr rfl ⟨.inr (SqT.of hb6.rooms),l1,zr2 rfl rfl ⟨k6,by omega,by rw [zA];omega,by rw [zA];show 1 * rooms.length<=sizeLine;omega,λrl hrl=>?_⟩⟩⟩))
   have s7:=xM (o:=HO.lst (List.replicate ((rooms.map V.int).length:Int).toNat [V.non]).flatten) hrl
   have k7:upd H6 rl (HO.lst (List.replicate ((rooms.map V.int).length:Int).toNat [V.non]).flatten) rl=some (.lst ((List.replicate rooms.length (none:Option Int)).map oV)):=by
    rw [xJ,zH,zA,List.flatten_replicate_singleton,List.map_replicate];rfl
   generalize upd H6 rl (HO.lst (List.replicate ((rooms.map V.int).length:Int).toNat [V.non]).flatten)=H7 at s7 k7 ⊢
   have frl:H rl=none:=(s5.trans s6).free hrl
   have s07:=s5.trans (s6.trans s7)
   have ixs:ixN ((List.replicate rooms.length (none:Option Int)).map oV).length (L.2.s:Int)=some L.2.s:=by unfold ixN;rw [if_pos (by omega),if_pos (by rw [zA,yF];omega),zH]
   refine (zr rfl (zr rfl (zr rfl ⟨rl,_,_,L.2.s,rfl,rfl,k7,ixs,?_⟩)))
   have b8:But rl H7 (upd H7 rl (HO.lst (((List.replicate rooms.length (none:Option Int)).map oV).set L.2.s (V.int L.2.a)))):=But.set
   have k8:upd H7 rl (HO.lst (((List.replicate rooms.length (none:Option Int)).map oV).set L.2.s (V.int L.2.a))) rl=some (.lst ((rep rooms.length (lone L.2.s L.2.a)).map oV)):=by
    rw [xJ,<- set_lone7 lbL.1,zq];rfl
   generalize upd H7 rl (HO.lst (((List.replicate rooms.length (none:Option Int)).map oV).set L.2.s (V.int L.2.a)))=H8 at b8 k8 ⊢
   have s08:Same H H8:=But.same frl s07 b8
   clear s5 s6 k6 s7 k7 hrl hl1 hb6 s07 b8 hl5 hrow low
   have T0:(S 0).T[i]?=some (rep rooms.length (lone L.2.s L.2.a)):=by
    rw [eS0]
    have:i < (tkOf rooms.length (runTo rooms (List.map (λy:Addr×M4=>y.2) ps) d ls 0)).T.length:=by show i < ((ls.map _).map _).length;rw [zA,zA];exact hi'
    rw [zE this,start_row hL (zE this)]
   refine (zr rfl ⟨dl,rfl,⟨_,SqL.of (s08 _ _ hdl)⟩,?_⟩)
   refine for_list (K:=K) (a:=dl) (xs:=ys.map λy=>V.ref y.1) (λj σ H9=>∃ row,(∃ v11 v12 v13 v14 v15 v16 v17,σ=[some (.ref b),some (.ref ll),some (.ref dl),some (.ref tl),some (.ref kl),some (.int (i:Int)),some (.int (L.2.s:Int)),some (.int L.2.a),some (.int (L.2.w:Int)),some (.int L.2.z),some (.ref rl),v11,v12,v13,v14,v15,v16,v17])/\Same H H9/\(S j).T[i]?=some row/\row.length=rooms.length/\H9 rl=some (.lst (row.map oV))) ⟨_,⟨_,_,_,_,_,_,_,rfl⟩,s08,T0,by unfold rep;rw [zA,zv],k8⟩ ?_ ?_ ?_
   ·rintro j σ H9 _ ⟨_,_,s9,_⟩
    exact SqL.of (s9 _ _ hdl)
   ·clear s08 k8 T0
    rintro j v σ H9 hv ⟨row,⟨v11,v12,v13,v14,v15,v16,v17,rfl⟩,s9,eTj,lrow,k9⟩
    obtain ⟨yy,hyy,rfl⟩:=wB hv
    obtain ⟨m,j',g,M,L',rT',rK',e,tok,sv,z⟩:=st j yy.2 (by rw [zC,hyy];rfl)
    have kde:H9 yy.1=some (.tup [V.str (Str.ofString "copy"),V.int (m:Int),V.int (j':Int),V.int g]):=by
     have:=dsa yy (zD hyy);rw [z.ex] at this;exact s9 _ _ this
    refine (un4 kde ?_)
    by_cases c:j'=i
    ·subst c
     have er:=z.hT
     rw [eTj] at er;cases er
     obtain ⟨p0,hp0,rfl⟩:∃ p0,ps[m]?=some p0/\p0.2=M:=by have:=z.hM;rw [zC] at this;exact Option.map_eq_some_iff.mp this
     have ge:=gd.each p0.2 (zD z.hM)
     have hg:=z.hg
     have ob:0<=othI p0.2 g/\othI p0.2 g < rooms.length:=by unfold othI;split <;> omega
     have eo:p0.2.lo + p0.2.hi - g=othI p0.2 g:=by unfold othI;split <;> omega
     obtain ⟨on,eon⟩:=zM ob.1
     have hb9:=hb.same s9
     have hrM:H9 p0.1=some (.tup [V.int p0.2.lo,V.int p0.2.hi,V.int p0.2.t,V.int p0.2.m]):=hb9.rows p0 (zD hp0)
     have atm:atI (ps.map λa=>V.ref a.1) (m:Int)=some (V.ref p0.1):=xj (by rw [zC,hp0];rfl)
     have ixo:ixN (row.map oV).length (on:Int)=some on:=by unfold ixN;rw [if_pos (by omega),if_pos (by rw [zA,lrow];omega),zH]
     refine (zr rfl (zr rfl ⟨rfl,zr rfl (iteB1 (by simp) ?_)⟩))
     refine (zr rfl (ixt hb9.book rfl (zr rfl (ixt hb9.meets atm ?_))))
     refine (zr rfl (ixt hrM rfl (zr rfl (zr rfl (ixt hrM rfl (zr rfl (ixt hrM rfl (zr2 rfl rfl (zr rfl (zr2 rfl rfl ⟨rl,_,_,on,rfl,(by show V.int (p0.2.lo + p0.2.hi - g)=_;rw [eo,eon]),k9,ixo,?_⟩))))))))))
     have zes:=z.es
     rw [eon,zH] at zes
     refine ⟨row.set on (some p0.2.t),⟨_,_,_,_,_,_,_,rfl⟩,But.same frl s9 But.set,?_,by rw [zm];exact lrow,by rw [xJ,zq];rfl⟩
     rw [zes]
     show ((S j).T.set j' _)[j']?=_
     rw [zY,if_pos rfl,if_pos (zB.mp eTj).1]
    ·refine (zr rfl (zr rfl ⟨rfl,zr rfl (iteB0 (by simp;omega) ⟨row,⟨_,_,_,_,_,_,_,rfl⟩,s9,?_,lrow,k9⟩)⟩))
     rw [z.es]
     show ((S j).T.set j' _)[i]?=_
     rw [zY,if_neg c];exact eTj
   clear s08 k8 T0
   rintro σ H9 ⟨row,⟨v11,v12,v13,v14,v15,v16,v17,rfl⟩,s9,eTj,lrow,k9⟩
   have lyy:(ys.map λy=>V.ref y.1).length=(ys.map (·.2)).length:=by rw [zA,zA]
   rw [lyy,eS1] at eTj
   have exr:x.2=row:=by
    have:(rws.map (·.2))[i]?=some x.2:=by rw [zC,hx];rfl
    rw [rc.eT,eTj] at this;exact (Option.some.inj this).symm
   have hlst:=lst i L row hL eTj
   have hks:=rc.ks i x y hx hy
   rw [exr] at hks
   have hkz:=rc.kz y (zD hy)
   have ly:=rc.nk y (zD hy)
   refine (zr rfl (zr rfl (zr rfl (ex7 b L.2.s L.2.a rooms tr tm ps ⟨rfl,lbL.1,hb.same s9,by omega,gd,λlsl H10 flsl s10 klsl=>?_⟩))))
   have s010:=s9.trans s10
   have rT10:=rT.same s010
   have rK10:=rK.same s010
   have krl:=s10 _ _ k9
   have kx:=rT10.2 x (zD hx)
   have ky:=rK10.2 y (zD hy)
   rw [exr] at kx
   have atx:atI (rws.map λl=>V.ref l.1) (i:Int)=some (V.ref x.1):=xj (by rw [zC,hx];rfl)
   have aty:atI (tks.map λl=>V.ref l.1) (i:Int)=some (V.ref y.1):=xj (by rw [zC,hy];rfl)
   refine (zr rfl (zr rfl (ixl rT10.1 atx ⟨x.1,zr rfl ⟨.inl (SqL.of kx),zr rfl ⟨rl,zr rfl ⟨.inl (SqL.of krl),rfl,zr rfl (iteB0 (by simp) (zr rfl (zr rfl (ixl rK10.1 aty ⟨y.1,zr rfl ⟨.inl (SqL.of ky),zr rfl ⟨rl,zr rfl ⟨.inl (SqL.of krl),rfl,zr rfl (iteB0 (by rw [zA,zA,ly,lrow];simp) ?_)⟩⟩⟩⟩))))⟩⟩⟩⟩)))
   refine (zr rfl ⟨rl,zr rfl ⟨.inl (SqL.of krl),zr rfl ⟨by omega,by rw [zA];omega,?_⟩⟩⟩)
   refine for_range (lo:=0) (λk σ H11=>(∃ v11 v12 v13 v14 v15 v17,σ=[some (.ref b),some (.ref ll),some (.ref dl),some (.ref tl),some (.ref kl),some (.int (i:Int)),some (.int (L.2.s:Int)),some (.int L.2.a),some (.int (L.2.w:Int)),some (.int L.2.z),some (.ref rl),v11,v12,v13,v14,v15,some (.ref lsl),v17])/\Same H10 H11) ⟨⟨_,_,_,_,_,_,rfl⟩,Same.refl _⟩ ?_ ?_
   ·rintro k σ H11 hk ⟨⟨v11,v12,v13,v14,v15,v17,rfl⟩,s11⟩
    rw [Int.zero_add]
    have hk':k < row.length:=by rw [zA] at hk;simpa using hk
    have hkn:k < rooms.length:=by omega
    obtain ⟨o,ho⟩:∃ o,row[k]?=some o:=⟨_,zE hk'⟩
    obtain ⟨o2,ho2⟩:∃ o2,y.2[k]?=some o2:=⟨_,zE (by omega)⟩
    have oo:oAt row (k:Int)=o:=by unfold oAt;rw [zH,ho];rfl
    have oo2:oAt y.2 (k:Int)=o2:=by unfold oAt;rw [zH,ho2];rfl
    have e2:o2=o.map λ_=>(0:Int):=by
     have:=hks k hkn
     rw [oo,oo2] at this
     cases o with
     | none=>cases o2 with
      | none=>rfl
      | some v=>cases this
     | some e=>cases o2 with
      | none=>cases this
      | some v=>rw [hkz k v oo2];rfl
    have hl3:=hlst k
    rw [oo] at hl3
    have atr:atI (row.map oV) (k:Int)=some (oV o):=xj (by rw [zC,ho];rfl)
    have atk:atI (y.2.map oV) (k:Int)=some (oV o2):=xj (by rw [zC,ho2];rfl)
    have atl:atI ((rep rooms.length (fwd (List.map (λy:Addr×M4=>y.2) ps) (lone L.2.s L.2.a))).map oV) (k:Int)=some (oV (fwd (List.map (λy:Addr×M4=>y.2) ps) (lone L.2.s L.2.a) k)):=xj (by rw [zC];unfold rep;rw [zC,yS hkn];rfl)
    have isV:∀ o:Option Int,oV o=V.non\/∃ i,oV o=V.int i:=λo=>by cases o with
     | none=>exact .inl rfl
     | some z=>exact .inr ⟨z,rfl⟩
    have rT11:=rT10.same s11
    have rK11:=rK10.same s11
    have krl11:=s11 _ _ krl
    refine (zr rfl (zr rfl (ixl rT11.1 atx (zr rfl (ixl (s11 _ _ kx) atr (zr rfl (zr rfl (ixl krl11 atr ⟨oV o,rfl,isV o,zr rfl (iteB0 rfl ?_)⟩))))))))
    refine (zr rfl (zr rfl (ixl rK11.1 aty (zr rfl (ixl (s11 _ _ ky) atk ⟨by show 2<=sizeLine;omega,λl9 hl9=>?_⟩)))))
    have s12:=xM (o:=HO.lst [V.int 0,V.non]) hl9
    have k12:upd H11 l9 (HO.lst [V.int 0,V.non]) l9=some (.lst [V.int 0,V.non]):=xJ
    generalize upd H11 l9 (HO.lst [V.int 0,V.non])=H12 at s12 k12 ⊢
    have krl12:=s12 _ _ krl11
    refine (zr rfl (zr rfl (ixl krl12 atr (.inr (zr rfl ⟨l9,_,_,oV o2,rfl,rfl,SqL.of k12,?_,oV o2,rfl,isV o2,zr rfl (iteB0 rfl ?_)⟩)))))
    ·rw [e2];cases o <;> rfl
    have s112:=s11.trans s12
    cases o with
    | none=>exact (zr rfl (zr rfl (ixl krl12 atr (zr rfl (iteB0 rfl (iteB0 rfl ⟨⟨_,_,_,_,_,_,rfl⟩,s112⟩))))))
    | some e=>
     obtain ⟨yv,hyv,lyv⟩:=hl3 e rfl
     rw [hyv] at atl
     exact (zr rfl (zr rfl (ixl krl12 atr (zr rfl (iteB1 rfl (zr rfl (zr rfl (ixl (s112 _ _ klsl) atl (zr rfl (iteB0 rfl (zr rfl (zr rfl (ixl (s112 _ _ klsl) atl (zr rfl (zr rfl (ixl krl12 atr (zr2 rfl rfl (zr rfl (iteB0 (decide_eq_false (by omega)) ⟨⟨_,_,_,_,_,_,rfl⟩,s112⟩)))))))))))))))))))
   rintro σ H11 ⟨⟨v11,v12,v13,v14,v15,v17,rfl⟩,s11⟩
   exact ⟨⟨_,_,_,_,_,_,_,_,_,_,_,_,_,rfl⟩,s010.trans s11⟩
  rintro σ H5 ⟨⟨v5,v6,v7,v8,v9,v10,v11,v12,v13,v14,v15,v16,v17,rfl⟩,s5⟩
  exact q _ s5
theorem NS:FnScope ["_law_script_here", "_law_at", "_law_book_here", "_law_walkers", "_law_letters_here", "_law_purse_here", "_law_more", "_law_past_here", "_law_rule_here", "_law_found"] ["_law_script_here"] (defScope NT):=⟨rfl,rfl,rfl,by decide +kernel,rfl,by decide +kernel,by decide +kernel⟩
theorem Om (T:Tx K mg a t_MOST_TOKENS):FnOk P w K mg base CX0 9 a.HW a.Li ["_law_script_here"] (spLaw K):=by
 have Fy:=@KR P w _ _ base _ _ T
 have Ab:=@xp P w _ _ base _ _ T
 have My:=@Lu P w _ _ base _ _ T
 have KJ:=@JD P w _ _ base _ _ T
 have Ii:=@GO P w _ _ base _ _ T
 have Ig:=@GM P w _ _ base _ _ T
 have ES:=@GK P w _ _ base _ _ T
 have Nt:=@NU P w _ _ base _ _ T
 have Jz:=@Ls P w _ _ base _ _ T
 have Ic:=@GI P w _ _ base _ _ T
 have EG:=@JB P w _ _ base _ _ T
 have Lc:=@JV P w _ _ base _ _ T
 have KH:=@JC P w _ _ base _ _ T
 refine T.JA.ok NS (λvs H Q E h=>?_) (λcdv A outer s H vs Q E hr h=>?_)
 ·obtain ⟨_,_,rfl,_⟩:=h;rfl
 ·have nd:=NS.nd
  have hu:=hr.units
  obtain ⟨sa,ns,rfl,hS,hn,q⟩:=h
  refine ⟨_,(xL (xZ (wd PassesOwn.never rfl (pi_range3 rfl T.b_range (xG (xH xI (xH (xS (call_max2 rfl) (by rfl) T.b_max PyProof.Rows.boot_max (xG (xH xI (xH (xS (call_min2 rfl) (by rfl) T.b_min PyProof.Rows.boot_min (xG (xH (xS (xQ rfl) (by rfl) T.b_len PySem.boot_len (xG (xH (pv 0) xN rfl))) (xH xI xN rfl) rfl))) xN rfl) rfl))) (xH xI xN rfl) rfl) rfl))) (xR (i:=1) nd rfl (by first | exact Or.inl rfl | exact Or.inr rfl)) (xL (xZ (xf (i:=2) nd rfl (by first | exact Or.inl rfl | exact Or.inr rfl) (xP My (hr.mono (by decide)) rfl T.L9 T.Me T.Mh .nil pass0 (xG (xH (xP Fy (hr.mono (by decide)) rfl T.Fi T.Fk T.Fl .nil pass0 (xG (xH (pv 0) (xH (pv 1) xN rfl) rfl))) (xH xI (xH xI xN rfl) rfl) rfl)))) (xZ (xf (i:=3) nd rfl (by first | exact Or.inl rfl | exact Or.inr rfl) (xS (xQ rfl) (by rfl) T.b_len PySem.boot_len (xG (xH (xU (xW rfl) (pv 2) xI (λ_ _=>rfl)) xN rfl)))) (xZ (xf (i:=4) nd rfl (by first | exact Or.inl rfl | exact Or.inr rfl) (xP KJ (hr.mono (by decide)) rfl T.J0 T.Kc T.Kg .nil pass0 (xG (xH (xP Fy (hr.mono (by decide)) rfl T.Fi T.Fk T.Fl .nil pass0 (xG (xH (pv 0) (xH (xh xr (pv 1) xI) xN rfl) rfl))) (xH (pv 2) xN rfl) rfl)))) (xZ (xf (i:=5) nd rfl (by first | exact Or.inl rfl | exact Or.inr rfl) (xP Fy (hr.mono (by decide)) rfl T.Fi T.Fk T.Fl .nil pass0 (xG (xH (pv 0) (xH (xh xr (pv 1) xI) xN rfl) rfl)))) (xZ (xi (PW.pt (pw_and (xb wM (xP Ab (hr.mono (by decide)) rfl T.Ac T.Ae T.Af .nil pass0 (xG (xH (pv 5) (xH xI xN rfl) rfl))) xI (nomark _)) (wa (xb op_gt (pv 3) xI (nomark _))))) (xL (xZ (xf (i:=6) nd rfl (by first | exact Or.inl rfl | exact Or.inr rfl) (xU (xV rfl) (xw (xG (xH (pe_un un_neg xI) (xH xI xN rfl) rfl))) (xh op_mul (xP Ab (hr.mono (by decide)) rfl T.Ac T.Ae T.Af .nil pass0 (xG (xH (pv 5) (xH xI xN rfl) rfl))) (wJ (call_int1) (by rfl) T.b_int yZ (xG (xH (pe_cmpR op_lt (pv 3) xI (nomark _)) xN rfl)))) (λ_ _=>rfl))) (xZ (xf (i:=7) nd rfl (by first | exact Or.inl rfl | exact Or.inr rfl) (xP Jz (hr.mono (by decide)) rfl T.Jo T.Js T.Jv .nil pass0 (xG (xH (pv 5) (xH (xh xr (pv 3) (pv 6)) xN rfl) rfl)))) (xZ (xf (i:=8) nd rfl (by first | exact Or.inl rfl | exact Or.inr rfl) (pe_make T.Mt ES (hr.mono (by decide)) rfl T.J8 T.EN .nil pass0 (xG (xH (pv 7) xN rfl)))) (xZ (xi (wE (xo (xP EG (hr.mono (by decide)) rfl T.Er T.Es T.Ey .nil pass0 (xG (xH (pv 2) (xH (wJ (call_list_of' rfl) (by rfl) T.b_list z8 (xG (xH (pv 4) xN rfl))) (xH (pv 8) xN rfl) rfl) rfl))))) (xL (xg (xY wD))) xX) (xg (xi (xb (op_neE hu) (pe_slice sl_list (xU (xV rfl) (xU (xW rfl) (xP (E:=E0) Nt (hr.mono (by decide)) rfl T.NX T.N4 T.N9 .nil passN (xG (xH (pv 7) (xH (xw (xG (xH (wF (xG (xH xI (xH xI (xH xI (xH xI xN rfl) rfl) rfl) rfl))) xN rfl))) (xH (pv 8) xN rfl) rfl) rfl))) xI (λ_ _=>rfl)) xI (λ_ _=>rfl)) po_none (po_some xI)) (xw (xG (xH xI xN rfl))) (nomark _)) (xL (xg (xY wD))) xX))))))) xX) (xZ (xf (i:=7) nd rfl (by first | exact Or.inl rfl | exact Or.inr rfl) (xP Jz (hr.mono (by decide)) rfl T.Jo T.Js T.Jv .nil pass0 (xG (xH (pv 5) (xH (pv 3) xN rfl) rfl)))) (xZ (xf (i:=9) nd rfl (by first | exact Or.inl rfl | exact Or.inr rfl) (xP (E:=E0) Nt (hr.mono (by decide)) rfl T.NX T.N4 T.N9 .nil passN (xG (xH (pv 2) (xH (wJ (call_list_of' rfl) (by rfl) T.b_list z8 (xG (xH (pv 4) xN rfl))) (xH (pe_make T.Mt ES (hr.mono (by decide)) rfl T.J8 T.EN .nil pass0 (xG (xH (pv 7) xN rfl))) xN rfl) rfl) rfl)))) (xZ (xi (PW.pt (pw_or (wE (xo (xS (xq) (by rfl) T.b_isinstance zR (xG (xH (pv 9) (xH (wU (v:=V.ty "tuple") rfl T.b_tuple yH rfl) xN rfl) rfl))))) (pw_or (xb op_ne (xS (xQ rfl) (by rfl) T.b_len PySem.boot_len (xG (xH (pv 9) xN rfl))) xI (nomark _)) (pw_or1 (wE (xo (xS (xq) (by rfl) T.b_isinstance zR (xG (xH (xU (xW rfl) (pv 9) xI (λ_ _=>rfl)) (xH (wU (v:=V.ty "list") rfl T.b_list z8 rfl) xN rfl) rfl))))))))) (xL (xg (xY wD))) xX) (xZ (xi (PW.pt (pw_or (wE (xo (xS (xq) (by rfl) T.b_isinstance zR (xG (xH (xU (xW rfl) (pv 9) xI (λ_ _=>rfl)) (xH (wU (v:=V.ty "list") rfl T.b_list z8 rfl) xN rfl) rfl))))) (pw_or1 (wE (xo (xP Ic (hr.mono (by decide)) rfl T.Hk T.Ho T.Ht .nil pass0 (xG (xH (xU (xW rfl) (pv 9) xI (λ_ _=>rfl)) (xH (pv 2) (xH (pv 4) xN rfl) rfl) rfl)))))))) (xL (xg (xY wD))) xX) (xZ (xi (wE (xo (xP Lc (hr.mono (by decide)) rfl T.KW T.K0 T.K3 .nil pass0 (xG (xH (pv 2) (xH (pv 4) (xH (pv 7) (xH (xU (xW rfl) (pv 9) xI (λ_ _=>rfl)) xN rfl) rfl) rfl) rfl))))) (xL (xg (xY wD))) xX) (xZ (xi (wE (xo (xP KH (hr.mono (by decide)) rfl T.JY T.Ka T.Ke .nil pass0 (xG (xH (pv 2) (xH (pv 4) (xH (xU (xW rfl) (pv 9) xI (λ_ _=>rfl)) (xH (xU (xW rfl) (pv 9) xI (λ_ _=>rfl)) (xH (xU (xW rfl) (pv 9) xI (λ_ _=>rfl)) xN rfl) rfl) rfl) rfl) rfl))))) (xL (xg (xY wD))) xX) (xg (xi (PW.pt (pw_or (xo (xP EG (hr.mono (by decide)) rfl T.Er T.Es T.Ey .nil pass0 (xG (xH (pv 2) (xH (xw pa_nil) (xH (pe_make0 T.Oc Ii (hr.mono (by decide)) rfl T.N3 T.HJ .nil pass0) xN rfl) rfl) rfl)))) (pw_or1 (xo (xP EG (hr.mono (by decide)) rfl T.Er T.Es T.Ey .nil pass0 (xG (xH (pv 2) (xH (xw pa_nil) (xH (pe_make (E:=E0) T.Ob Ig (hr.mono (by decide)) rfl T.N1 T.Hw .nil passN (xG (xH xI xN rfl))) xN rfl) rfl) rfl))))))) (xL (xg (xY wD))) xX))))))))))))))) (xg (xY wD)))),?_⟩
  have line:=line9
  refine (zr rfl ⟨sa,zr rfl ⟨.inl hS,zr1 rfl (zr1 rfl ?_)⟩⟩)
  obtain ⟨j,j10,ej⟩:∃ j:Nat,j < 10/\(if (if 9 < (((ns.map V.int).length:Nat):Int) then 9 else (((ns.map V.int).length:Nat):Int)) > 1 then (if 9 < (((ns.map V.int).length:Nat):Int) then 9 else (((ns.map V.int).length:Nat):Int)) else 1)=(j:Int):=by
   refine ⟨(if (if 9 < (((ns.map V.int).length:Nat):Int) then 9 else (((ns.map V.int).length:Nat):Int)) > 1 then (if 9 < (((ns.map V.int).length:Nat):Int) then 9 else (((ns.map V.int).length:Nat):Int)) else 1).toNat,?_,?_⟩ <;> split <;> split <;> omega
  obtain ⟨u1,u2⟩:=up3 j j10
  refine ⟨_,_,_,(j + 2) / 3,rfl,by decide,PyProof.noPylong_small (by decide),by rw [ej];exact u1,by rw [ej];exact u2,?_⟩
  refine for_rangeS (n:=(j + 2) / 3) (λi σ H3=>(∃ v1 v2 v3 v4 v5 v6 v7 v8 v9,σ=[some (.ref sa),v1,v2,v3,v4,v5,v6,v7,v8,v9])/\Same H H3) ⟨⟨_,_,_,_,_,_,_,_,_,rfl⟩,Same.refl _⟩ ?_ (fun σ H3 _=>q H3)
  rintro i σ H3 hi ⟨⟨v1,v2,v3,v4,v5,v6,v7,v8,v9,rfl⟩,s3⟩
  refine (zr rfl (zr rfl ⟨sa,ns,3 * i,by simp;omega,s3.seq hS,by omega,λp H4 hp pu s4=>⟨p,12,60,rfl,by decide,by decide,by decide,pu,λb rooms tr tm ps H5 g5 hb r1 r12 rr gd lps=>?_⟩⟩))
  have s5:Same H3 H5:=But.same hp s4 g5.1
  have r12':rooms.length<=12:=by omega
  refine (zr rfl (ixt hb.book rfl ⟨tr,zr rfl ⟨.inr (SqT.of hb.rooms),?_⟩⟩))
  have lrm:(rooms.map V.int).length=rooms.length:=zA _
  show gName 3 (V.int (((rooms.map V.int).length:Nat):Int)) _ _ _
  rw [lrm]
  refine (zr rfl (zr rfl (zr2 rfl rfl ⟨sa,ns,3 * i + 1,by simp;omega,(s3.trans s5).seq hS,by omega,λp2 H6 hp2 pu2 s6=>?_⟩)))
  refine (zr rfl (ex6 p2 b rooms tr tm ps ⟨rfl,hb.same s6,r1,by omega,gd,pu2,λll ls H7 g7 hll hrw n41 nlp lbd=>?_⟩))
  have s57:Same H5 H7:=But.same hp2 s6 g7.1
  have s37:=s5.trans s57
  have hb7:=hb.same s57
  refine (zr rfl (zr rfl (zr2 rfl rfl ⟨sa,ns,3 * i + 2,by simp;omega,(s3.trans s37).seq hS,by omega,λp3 H8 hp3 pu3 s8=>?_⟩)))
  have hl7:LetsL H7 ll ls:=⟨hll,hrw⟩
  have r0:∀ z∈rooms,(0:Int)<=z:=λz hz=>(rr z hz).1
  have s037:=s3.trans s37
  clear hp hp2 pu pu2 s4 s6 g5 g7 s57 hb hll hrw nlp s5
  refine (zr rfl ⟨p3,4,rfl,by decide,by decide,pu3,λe H9 e0 e1 g9=>⟨rfl,zr rfl (iteA (fun σ HA=>(∃ v1 v6 v7 v8 v9,σ=[some (.ref sa),v1,some (.ref b),some (.int (rooms.length:Int)),some (.ref ll),some (.ref p3),v6,v7,v8,v9])/\Go p3 H8 HA) ?_ ?_ ?_)⟩⟩)
  rotate_left
  ·intro _ kk
   refine (zr rfl (zr2 rfl rfl (zr rfl (iteB (λc2=>?_) (λ_=>kk _ _ ⟨⟨_,_,_,_,_,rfl⟩,g9⟩)))))
   have w2:2<=rooms.length:=by have:=of_decide_eq_true c2;omega
   refine ⟨1,rfl,by show 2<=sizeLine;omega,λl1 hl1=>(zr rfl ⟨p3,2,rfl,by decide,by decide,g9.2.new hl1,λe2 H10 e20 e21 g10=>?_⟩)⟩
   have k1:H10 l1=some (.lst [V.int (-1),V.int 1]):=g10.1 _ _ (g9.2.ne hl1) xJ
   have g010:=(g9.new (o:=HO.lst [V.int (-1),V.int 1]) hl1).trans g10
   obtain ⟨mo,n',amo,emo,n1',n12',nne⟩:∃ (mo:Int) (n':Nat),atI [V.int (-1),V.int 1] (e2 * (if decide ((rooms.length:Int) < 12)=true then 1 else 0))=some (V.int mo)/\(rooms.length:Int) + mo=(n':Int)/\1<=n'/\n'<=12/\n'≠rooms.length:=by
    by_cases c:(rooms.length:Int) < 12
    ·rw [decide_eq_true c,if_pos rfl]
     rcases (by omega:e2=0\/e2=1) with rfl | rfl
     ·exact ⟨-1,rooms.length - 1,rfl,by omega,by omega,by omega,by omega⟩
     ·exact ⟨1,rooms.length + 1,rfl,by omega,by omega,by omega,by omega⟩
    ·rw [decide_eq_false c,if_neg zG]
     rcases (by omega:e2=0\/e2=1) with rfl | rfl
     ·exact ⟨-1,rooms.length - 1,rfl,by omega,by omega,by omega,by omega⟩
     ·exact ⟨-1,rooms.length - 1,rfl,by omega,by omega,by omega,by omega⟩
   refine (zr rfl (zr2 rfl rfl (.inr (zr rfl (zr2 rfl rfl ⟨.inl ⟨by omega,by omega⟩,l1,_,_,V.int mo,rfl,rfl,SqL.of k1,amo,?_⟩)))))
   refine (zr rfl (zr rfl (zr rfl (zr2 rfl rfl ⟨p3,n',(by show [V.ref p3,V.int ((rooms.length:Int) + mo)]=[V.ref p3,V.int (n':Int)];rw [emo]),n1',n12',g010.2,λpb rooms' tr' tm' ps' H11 g11 hbp lr' gdp p60' rb'=>?_⟩))))
   have g011:=g010.trans g11
   refine (zr rfl (λx dx nx ndx nex=>⟨x,dx,pb,rfl,xJ,λH12 b12 hnr=>⟨rfl,?_⟩⟩))
   have s12:=But.same nx (xM ndx) (But.trans But.set b12)
   have g012:=g011.same s12
   have s712:Same H7 H12:=But.same hp3 s8 g012.1
   have hl12:=hl7.same s712
   refine (zr rfl (zr rfl ⟨ll,zr rfl ⟨.inl (SqL.of hl12.1),λlc hlc=>?_⟩⟩))
   have s13:=xM (o:=HO.lst (ls.map λx=>V.ref x.1)) hlc
   generalize upd H12 lc (HO.lst (ls.map λx=>V.ref x.1))=H13 at s13 ⊢
   have hbp13:=(hbp.same s12).same s13
   refine (zr rfl (ex7 b lc x rooms tr tm ps ⟨rfl,(hb7.same s712).same s13,r1,r12',r0,gd,.inl ⟨pb,rooms',tr',tm',ps',hnr.same s13,hbp13,by omega,λH14 s14=>(zr rfl (iteB0 rfl ?_))⟩⟩))
   have s1214:=s13.trans s14
   have g014:=g012.same s1214
   refine (zr rfl ⟨by show 4<=sizeLine;omega,λt0 ht0=>?_⟩)
   have s15:=xM (o:=HO.tup [V.int 0,V.int 0,V.int 0,V.int 0]) ht0
   have k15:upd H14 t0 (HO.tup [V.int 0,V.int 0,V.int 0,V.int 0]) t0=some (.tup [V.int 0,V.int 0,V.int 0,V.int 0]):=xJ
   generalize upd H14 t0 (HO.tup [V.int 0,V.int 0,V.int 0,V.int 0])=H15 at s15 k15 ⊢
   refine ⟨by show 1<=sizeLine;omega,λl2 hl2=>?_⟩
   have s16:=xM (o:=HO.lst [V.ref t0]) hl2
   have k16:upd H15 l2 (HO.lst [V.ref t0]) l2=some (.lst [V.ref t0]):=xJ
   generalize upd H15 l2 (HO.lst [V.ref t0])=H16 at s16 k16 ⊢
   have s1216:=s1214.trans (s15.trans s16)
   have hbp16:=(hbp.same s12).same s1216
   have gdp':Good rooms'.length (ps'.map (·.2)):=by rw [lr'];exact gdp
   have fb:0<=(RuleD.near (ps'.map (·.2))).first/\(RuleD.near (ps'.map (·.2))).first<=64:=⟨zo _,by show (0:Int)<=64;decide⟩
   have lb0:∀ l∈[(t0,(⟨0,0,0,0⟩:L4))],l.2.s < rooms'.length/\l.2.w < rooms'.length:=λl hl=>by rw [zN.mp hl,lr'];exact ⟨by show 0 < n';omega,by show 0 < n';omega⟩
   refine (zr rfl (.inl ⟨pb,l2,x,[(t0,⟨0,0,0,0⟩)],rooms',tr',tm',ps',.near (ps'.map (·.2)),rfl,hbp16,by omega,by omega,(λz hz=>(rb' z hz).1),gdp',⟨k16,λl hl=>by rw [zN.mp hl];exact s16 _ _ k15⟩,(by show 1<=41;decide),lb0,⟨pb,rooms',tr',tm',ps',hnr.same s1216,hbp16,rfl,by omega,rfl⟩,λp4 dl tl kl ys rws tks t H17 s17 kp kdl dsa ly rok tw his oso ktl krws er kkl ktks wx tko fr=>?_⟩))
   obtain ⟨pth,e1',_,le1,_,nr,_⟩:=tok_of wx er tko tw gdp' fb
   obtain ⟨x0,hx0⟩:∃ x0,rws[0]?=some x0:=⟨_,zE (by rw [le1];show 0 < 1;decide)⟩
   have T0:(tkOf rooms'.length (runTo rooms' (ps'.map (·.2)) (.near (ps'.map (·.2))) [(t0,⟨0,0,0,0⟩)] ps'.length)).T[0]?=some x0.2:=by rw [<-e1',zC,hx0];rfl
   have h0:=oAt_get (w:=0) (row_sender gdp' lb0 pth 0 _ x0.2 rfl T0)
   obtain ⟨rest,erow⟩:∃ rest,x0.2.map oV=V.int 0::rest:=by
    cases hz:x0.2 with
    | nil=>rw [hz] at h0;cases h0
    | cons o os=>rw [hz] at h0;cases h0;exact ⟨os.map oV,rfl⟩
   have kx0:=krws x0 (zD hx0)
   rw [erow] at kx0
   have at0:atI (rws.map λl=>V.ref l.1) 0=some (V.ref x0.1):=(show atI (rws.map λl=>V.ref l.1) ((0:Nat):Int)=_ from xj (by rw [zC,hx0];rfl))
   refine (ixt kp rfl (ixl ktl at0 ⟨1,rfl,x0.1,zr rfl ⟨SqL.of kx0,λl3 hl3=>?_⟩⟩))
   rw [cut1]
   have s18:=xM (o:=HO.lst [V.int 0]) hl3
   have k18:upd H17 l3 (HO.lst [V.int 0]) l3=some (.lst (([0]:List Int).map V.int)):=xJ
   generalize upd H17 l3 (HO.lst [V.int 0])=H18 at s18 k18 ⊢
   refine ⟨by show 1<=sizeLine;omega,λl4 hl4=>?_⟩
   have s19:=xM (o:=HO.lst [V.int 0]) hl4
   exact ne_intsL (s19 _ _ k18) xJ (zr rfl (iteB0 rfl (kk _ _ ⟨⟨_,_,_,_,_,rfl⟩,(g012.same s1216).same (s17.trans (s18.trans s19))⟩)))
  ·intro _
   exact ⟨⟨_,_,_,_,_,rfl⟩,g9⟩
  rintro σ HA ⟨⟨v1',v6',v7',v8',v9',rfl⟩,gA⟩
  refine (zr rfl (zr rfl ⟨p3,rooms.length,rfl,r1,r12',gA.2,λpb rooms' tr' tm' ps' HB gB hbp lr' gdp p60' rb'=>?_⟩))
  have gAB:=gA.trans gB
  have s7B:Same H7 HB:=But.same hp3 s8 gAB.1
  have hlB:=hl7.same s7B
  refine (zr rfl (zr rfl ⟨ll,zr rfl ⟨.inl (SqL.of hlB.1),λlc hlc=>?_⟩⟩))
  have sC:=xM (o:=HO.lst (ls.map λx=>V.ref x.1)) hlc
  have klc:upd HB lc (HO.lst (ls.map λx=>V.ref x.1)) lc=some (.lst (ls.map λx=>V.ref x.1)):=xJ
  generalize upd HB lc (HO.lst (ls.map λx=>V.ref x.1))=HC at sC klc ⊢
  refine (zr rfl (λx dx nx ndx nex=>⟨x,dx,pb,rfl,xJ,λHD bD hnr=>⟨rfl,?_⟩⟩))
  have sD:=But.same nx (xM ndx) (But.trans But.set bD)
  have sBD:=sC.trans sD
  have s7D:=s7B.trans sBD
  have hbD:=hb7.same s7D
  have hlD:=hl7.same s7D
  have hbpD:=hbp.same sBD
  have gdp':Good rooms'.length (ps'.map (·.2)):=by rw [lr'];exact gdp
  have fb:0<=(RuleD.near (ps'.map (·.2))).first/\(RuleD.near (ps'.map (·.2))).first<=64:=⟨zo _,by show (0:Int)<=64;decide⟩
  refine .inl (ex9 b lc x ls rooms tr tm ps (.near (ps'.map (·.2))) ⟨rfl,hbD,r1,r12',r0,gd,⟨sD _ _ klc,hlD.2⟩,n41,lbd,⟨pb,rooms',tr',tm',ps',hnr,hbpD,lr',by omega,rfl⟩,λp4 dl tl kl ys rws tks t HE sE kp kdl dsa ly rok tw his oso ktl krws er kkl ktks wx tko fr=>?_⟩)
  obtain ⟨pth,e1',e2',le1,le2,nr,nk⟩:=tok_of wx er tko tw gd fb
  have lh:t.hs.length=ls.length:=by rw [tw.len,runT_lens.1];show (ls.map _).length=_;rw [zA]
  have cop:∀ y∈ys,IsCopy (ps.map (·.2)) ls.length y.2:=λy hy=>pth.copies y.2 (zO.mpr ⟨y,hy,rfl⟩)
  have cli:∀ y∈ys,Climbs (ps.map (·.2)) (ps'.map (·.2)) ls y.2:=λy hy=>pth.climbs y.2 (zO.mpr ⟨y,hy,rfl⟩)
  have rch:Reach rooms.length (ps.map (·.2)) ls (.near (ps'.map (·.2))) rooms (ys.map (·.2)) rws tks (tkOf rooms.length (runTo rooms (ps.map (·.2)) (.near (ps'.map (·.2))) ls ps.length)):=by
   refine ⟨pth,e1',le1,le2,nr,nk,λy hy w v h=>?_,λj x y hx hy w hw=>?_⟩
   ·obtain ⟨j,hj⟩:=yi hy
    exact row_zero gd pth j y.2 (by rw [<-e2',zC,hj];rfl) w v h
   ·have hj:=(zB.mp hx).1
    obtain ⟨h,hh⟩:∃ h,t.hs[j]?=some h:=⟨_,zE (by omega)⟩
    have:=(tko.2 j y h hy hh).2.1 w hw
    have ex:x.2=tmsOf rooms.length h.2:=by
     have h1:(rws.map (·.2))[j]?=some x.2:=by rw [zC,hx];rfl
     rw [er,zC,hh] at h1;exact (Option.some.inj h1).symm
    rw [ex,oAt_tms hw];exact this
  have hbE:=hbD.same sE
  have hlE:=hlD.same sE
  have s7E:=s7D.trans sE
  refine (zr rfl ⟨_, "tuple", "tuple", rfl,tyS_tup kp,by simp,zr rfl (iteB0 rfl (zr rfl ⟨p4,zr rfl ⟨.inr (SqT.of kp),rfl,zr rfl (iteB0 rfl (zr rfl (ixt kp rfl ⟨_, "list", "list", rfl,tyS_lst ktl,by simp,zr rfl (iteB0 rfl ?_)⟩)))⟩⟩))⟩)
  refine (zr rfl (ixt kp rfl ⟨_, "list", "list", rfl,tyS_lst kkl,by simp,zr rfl (iteB0 rfl (zr rfl (ixt kp rfl (zr rfl (zr rfl (ex9 dl b ll ys ls rooms tr tm ps ⟨rfl,kdl,dsa,ly,hbE,hlE,cop,λHF sF=>(zr rfl (iteB0 rfl ?_))⟩))))))⟩))
  refine (zr rfl (zr rfl (zr rfl (zr rfl (ixt (sF _ _ kp) rfl (ex14 b ll pb dl ys ls rooms tr tm ps rooms' tr' tm' ps' ⟨rfl,hbE.same sF,gd,hlE.same sF,(hbpD.same sE).same sF,gdp',sF _ _ kdl,dsa.same sF,cli,λHG sG=>(zr rfl (iteB0 rfl ?_))⟩))))))
  have sEG:=sF.trans sG
  refine (zr rfl (zr rfl (zr rfl (ixt (sEG _ _ kp) rfl (zr rfl (ixt (sEG _ _ kp) rfl (zr rfl (ixt (sEG _ _ kp) rfl (ex15 b ll dl tl kl ys ls rooms tr tm ps rws tks _ _ ⟨rfl,hbE.same sEG,r12',gd,hlE.same sEG,n41,lbd,sEG _ _ kdl,dsa.same sEG,RowsL.same ⟨ktl,krws⟩ sEG,RowsL.same ⟨kkl,ktks⟩ sEG,rch,λHH sH=>(zr rfl (iteB0 rfl ?_))⟩)))))))))
  have s7H:=s7E.trans (sEG.trans sH)
  refine (zr rfl ⟨by show 0<=sizeLine;omega,λl5 hl5=>?_⟩)
  have sI:=xM (o:=HO.lst []) hl5
  have k5:upd HH l5 (HO.lst []) l5=some (.lst ([]:List V)):=xJ
  generalize upd HH l5 (HO.lst [])=HI at sI k5 ⊢
  refine λy dy ny ndy ney=>(zr rfl ⟨rfl,?_⟩)
  have sJ:Same HI (upd (upd HI dy (.own y)) y (.ins a.At dy [])):=same_two ny ndy ney
  have s7J:=s7H.trans (sI.trans sJ)
  refine (ex7 b l5 y rooms tr tm ps ⟨rfl,hb7.same s7J,r1,r12',r0,gd,.inr ⟨.all,sJ _ _ k5,⟨dy,xJ⟩,λHK sK=>(zr rfl (iteB0 rfl ?_))⟩⟩)
  refine (zr rfl ⟨by show 0<=sizeLine;omega,λl6 hl6=>?_⟩)
  have sL:=xM (o:=HO.lst []) hl6
  have k6:upd HK l6 (HO.lst []) l6=some (.lst ([]:List V)):=xJ
  generalize upd HK l6 (HO.lst [])=HL at sL k6 ⊢
  refine λz dz nz ndz nez=>⟨z,dz,.int 1, "int", rfl,xJ,rfl,.inr ⟨1,rfl,by decide,by decide,λHM bM hh=>⟨rfl,?_⟩⟩⟩
  have sM:=But.same nz (xM ndz) (But.trans But.set bM)
  have s7M:=s7J.trans (sK.trans (sL.trans sM))
  exact (ex7 b l6 z rooms tr tm ps ⟨rfl,hb7.same s7M,r1,r12',r0,gd,.inr ⟨.half 1,sM _ _ k6,⟨hh,by decide,by decide⟩,λHN sN=>(zr rfl (iteB0 rfl ⟨⟨_,_,_,_,_,_,_,_,_,rfl⟩,s037.trans (s7M.trans sN)⟩))⟩⟩)
end
theorem all_mk {l:PySem.W.OpenLaw}{w:World}{K:PySem.W.Frag}{h:Heap}{mg:Str->Option Value}{fa LF Ft F8 G0 Fs F9 DX Gb F7 EZ Fp EC GX F5 GY C1 F6 GV GW Cn Cm DD Cl Ck DC F4 Cj Ci DB Fo Fm IU Ch BH C4 DS Fu EO B3 CL BI DA Ge EY IV GU IW Oa Ga Fq GZ Dz EA E4 EB Ol At Ao A0 Dp Ah BS Bs CW AQ An Aj BR Al Ak CV As BQ Am Ag Br Aa CU:Addr} (X:K.In h) (G:h.Ns mainGlobals mg) (hfa:mg "law" = some (.ref fa))
  {Gf CT Dj DN CS Dk Bw Dm Di Cb CP BL DK Dg DL AU Dh DI DJ Bj Bi BP Bh Bg BO Df Bf Be BN CO CM D6 Bd AV Bx Cd DO Do AZ Bq AW BM D9 Ca D7 DH D8 Lh Dl CQ DM Bc BJ Cc BK Li:FuncData}{t_MOST_TOKENS:Tok}
  (EQ:zI K mainGlobals "_wall" = some (some (.ref LF))) (Gg:Fun K "_wall" "_wall" Ng LF Gf)
  (BD:zI K mainGlobals "_law_purse" = some (some (.ref Ft))) (B9:Fun K "_law_purse" "_law_purse" Fg Ft CT)
  (BX:zI K mainGlobals "_law_take" = some (some (.ref F8))) (CF:Fun K "_law_take" "_law_take" FT F8 Dj)
  (Cu:zI K mainGlobals "_law_far" = some (some (.ref G0))) (De:Fun K "_law_far" "_law_far" GG G0 DN)
  (BC:zI K mainGlobals "_law_rooms" = some (some (.ref Fs))) (B8:Fun K "_law_rooms" "_law_rooms" Ff Fs CS)
  (BY:zI K mainGlobals "_law_step" = some (some (.ref F9))) (CG:Fun K "_law_step" "_law_step" FU F9 Dk)
  (AX:zI K mainGlobals "_law_meetings" = some (some (.ref DX))) (Bk:Fun K "_law_meetings" "_law_meetings" wV DX Bw)
  (B0:zI K mainGlobals "_law_book" = some (some (.ref Gb))) (CJ:Fun K "_law_book" "_law_book" FW Gb Dm)
  (BW:zI K mainGlobals "_law_time" = some (some (.ref F7))) (CD:Fun K "_law_time" "_law_time" FS F7 Di)
  (Bm:zI K mainGlobals "_law_letter" = some (some (.ref EZ))) (BF:Fun K "_law_letter" "_law_letter" EU EZ Cb)
  (BA:zI K mainGlobals "_law_whole" = some (some (.ref Fp))) (B6:Fun K "_law_whole" "_law_whole" Fd Fp CP)
  (A3:zI K mainGlobals "_law_letters" = some (some (.ref EC))) (Bv:Fun K "_law_letters" "_law_letters" wj EC BL)
  (Cr:zI K mainGlobals "is_whole" = some (some (.ref GX))) (Da:Fun K "is_whole" "is_whole" GE GX DK)
  (BU:zI K mainGlobals "is_within" = some (some (.ref F5))) (Cz:Fun K "is_within" "is_within" FQ F5 Dg)
  (Cs:zI K mainGlobals "is_below" = some (some (.ref GY))) (Db:Fun K "is_below" "is_below" GF GY DL)
  (Au:zI K mainGlobals "is_meeting_number" = some (some (.ref C1))) (AC:Fun K "is_meeting_number" "is_meeting_number" wQ C1 AU)
  (BV:zI K mainGlobals "is_walker" = some (some (.ref F6))) (CB:Fun K "is_walker" "is_walker" FR F6 Dh)
  (Cp:zI K mainGlobals "other_at" = some (some (.ref GV))) (C8:Fun K "other_at" "other_at" GD GV DI)
  (Cq:zI K mainGlobals "lone_row" = some (some (.ref GW))) (C9:Fun K "lone_row" "lone_row" Fb GW DJ)
  (Ar:zL K (.ref At) "__init__" = some (some (.ref Cn))) (Cg:zb K (.ref Cn)=true) (AO:Fun K "__init__" "AllMet.__init__" wl Cn Bj)
  (AH:zL K (.ref At) "at_first" = some (some (.ref Cm))) (Dy:zb K (.ref Cm)=true) (AN:Fun K "at_first" "AllMet.at_first" wm Cm Bi)
  (A7:zL K (.ref At) "share" = some (some (.ref DD))) (Ew:zb K (.ref DD)=true) (Bb:Fun K "share" "AllMet.share" Eo DD BP)
  (Aq:zL K (.ref Ao) "__init__" = some (some (.ref Cl))) (Cf:zb K (.ref Cl)=true) (AM:Fun K "__init__" "Halves.__init__" wn Cl Bh)
  (AG:zL K (.ref Ao) "at_first" = some (some (.ref Ck))) (Dx:zb K (.ref Ck)=true) (AL:Fun K "at_first" "Halves.at_first" wq Ck Bg)
  (A6:zL K (.ref Ao) "share" = some (some (.ref DC))) (Ev:zb K (.ref DC)=true) (Ba:Fun K "share" "Halves.share" En DC BO)
  (BT:zI K mainGlobals "times_met" = some (some (.ref F4))) (Cy:Fun K "times_met" "times_met" EI F4 Df)
  (Ap:zL K (.ref Ah) "__init__" = some (some (.ref Cj))) (Ce:zb K (.ref Cj)=true) (AK:Fun K "__init__" "Nearer.__init__" wr Cj Bf)
  (AF:zL K (.ref Ah) "at_first" = some (some (.ref Ci))) (Dw:zb K (.ref Ci)=true) (AJ:Fun K "at_first" "Nearer.at_first" wt Ci Be)
  (A5:zL K (.ref Ah) "share" = some (some (.ref DB))) (Eu:zb K (.ref DB)=true) (A9:Fun K "share" "Nearer.share" Em DB BN)
  (Bz:zI K mainGlobals "are_wholes" = some (some (.ref Fo))) (B5:Fun K "are_wholes" "are_wholes" D4 Fo CO)
  (By:zI K mainGlobals "is_passing" = some (some (.ref Fm))) (B4:Fun K "is_passing" "is_passing" Fc Fm CM)
  (Dq:zI K mainGlobals "is_drop" = some (some (.ref IU))) (DP:Fun K "is_drop" "is_drop" Ir IU D6)
  (AE:zL K (.ref Aa) "takes_room" = some (some (.ref Ch))) (Dv:zb K (.ref Ch)=true) (AI:Fun K "takes_room" "Trip.takes_room" wu Ch Bd)
  (Av:zL K (.ref Aa) "note_arrival" = some (some (.ref BH))) (CY:zb K (.ref BH)=true) (Ax:Fun K "note_arrival" "Trip.note_arrival" wR BH AV)
  (AB:zL K (.ref Aa) "__init__" = some (some (.ref C4))) (C3:zb K (.ref C4)=true) (AY:Fun K "__init__" "Trip.__init__" wA C4 Bx)
  (Bo:zL K (.ref Aa) "having" = some (some (.ref DS))) (EX:zb K (.ref DS)=true) (Bp:Fun K "having" "Trip.having" EW DS Cd)
  (Cv:zL K (.ref Aa) "bag" = some (some (.ref Fu))) (GS:zb K (.ref Fu)=true) (CK:Fun K "bag" "Trip.bag" GH Fu DO)
  (B1:zL K (.ref Aa) "done" = some (some (.ref EO))) (F3:zb K (.ref EO)=true) (B2:Fun K "done" "Trip.done" FX EO Do)
  (Az:zL K (.ref Aa) "need_letter" = some (some (.ref B3))) (C5:zb K (.ref B3)=true) (AA:Fun K "need_letter" "Trip.need_letter" wY B3 AZ)
  (AR:zL K (.ref Aa) "need_drop" = some (some (.ref CL))) (DG:zb K (.ref CL)=true) (AS:Fun K "need_drop" "Trip.need_drop" DF CL Bq)
  (Aw:zL K (.ref Aa) "need_passing" = some (some (.ref BI))) (CZ:zb K (.ref BI)=true) (Ay:Fun K "need_passing" "Trip.need_passing" wS BI AW)
  (A4:zL K (.ref Aa) "pass_on" = some (some (.ref DA))) (Et:zb K (.ref DA)=true) (A8:Fun K "pass_on" "Trip.pass_on" El DA BM)
  (Dt:zL K (.ref Aa) "do" = some (some (.ref Ge))) (IO:zb K (.ref Ge)=true) (Du:Fun K "do" "Trip.do" Ix Ge D9)
  (Bl:zI K mainGlobals "lone_holder" = some (some (.ref EY))) (BE:Fun K "lone_holder" "lone_holder" ET EY Ca)
  (Dr:zI K mainGlobals "is_done" = some (some (.ref IV))) (DQ:Fun K "is_done" "is_done" Iv IV D7)
  (Co:zI K mainGlobals "times_of" = some (some (.ref GU))) (C7:Fun K "times_of" "times_of" Fa GU DH)
  (Ds:zI K mainGlobals "_law_is" = some (some (.ref IW))) (DR:Fun K "_law_is" "_law_is" Iw IW D8)
  (Jw:zI K mainGlobals "run" = some (some (.ref Oa))) (KO:Fun K "run" "run" LV Oa Lh)
  (BZ:zI K mainGlobals "_law_past" = some (some (.ref Ga))) (CI:Fun K "_law_past" "_law_past" FV Ga Dl)
  (BB:zI K mainGlobals "_law_times" = some (some (.ref Fq))) (B7:Fun K "_law_times" "_law_times" Fe Fq CQ)
  (Ct:zI K mainGlobals "_law_met" = some (some (.ref GZ))) (Dc:Fun K "_law_met" "_law_met" Fh GZ DM)
  (AD:zI K mainGlobals "_law_are_copies" = some (some (.ref Dz))) (AT:Fun K "_law_are_copies" "_law_are_copies" wL Dz Bc)
  (A1:zI K mainGlobals "_law_refused" = some (some (.ref EA))) (Bt:Fun K "_law_refused" "_law_refused" Ej EA BJ)
  (Bn:zI K mainGlobals "_law_climbs" = some (some (.ref E4))) (BG:Fun K "_law_climbs" "_law_climbs" EV E4 Cc)
  (A2:zI K mainGlobals "_law_reached" = some (some (.ref EB))) (Bu:Fun K "_law_reached" "_law_reached" Ek EB BK)
  (HW:zI K mainGlobals "law" = some (some (.ref Ol))) (JA:Fun K "law" "law" NT Ol Li)
  (z_ValueError:zI K mainGlobals "ValueError" = some none)
  (z_all:zI K mainGlobals "all" = some none)
  (z_bool:zI K mainGlobals "bool" = some none)
  (z_dict:zI K mainGlobals "dict" = some none)
  (z_enumerate:zI K mainGlobals "enumerate" = some none)
  (z_int:zI K mainGlobals "int" = some none)
  (z_isinstance:zI K mainGlobals "isinstance" = some none)
  (z_len:zI K mainGlobals "len" = some none)
  (z_list:zI K mainGlobals "list" = some none)
  (z_max:zI K mainGlobals "max" = some none)
  (z_min:zI K mainGlobals "min" = some none)
  (z_range:zI K mainGlobals "range" = some none)
  (z_sorted:zI K mainGlobals "sorted" = some none)
  (z_tuple:zI K mainGlobals "tuple" = some none)
  (g_MOST_TOKENS:zI K mainGlobals "MOST_TOKENS" = some (some (.int 64 t_MOST_TOKENS)))
  (Ku:zI K mainGlobals "AllMet" = some (some (.ref At)))
  (Kt:zI K mainGlobals "Halves" = some (some (.ref Ao)))
  (LK:zI K mainGlobals "HasIt" = some (some (.ref A0)))
  (Gd:zI K mainGlobals "MeetError" = some (some (.ref Dp)))
  (Ks:zI K mainGlobals "Nearer" = some (some (.ref Ah)))
  (Kr:zI K mainGlobals "NoBook" = some (some (.ref BS)))
  (IZ:zI K mainGlobals "NoClaim" = some (some (.ref Bs)))
  (LJ:zI K mainGlobals "NoDay" = some (some (.ref CW)))
  (Kq:zI K mainGlobals "NoDeed" = some (some (.ref AQ)))
  (G3:zI K mainGlobals "NoLetter" = some (some (.ref An)))
  (Gc:zI K mainGlobals "NoMeeting" = some (some (.ref Aj)))
  (Kp:zI K mainGlobals "NoName" = some (some (.ref BR)))
  (Ko:zI K mainGlobals "NoPass" = some (some (.ref Al)))
  (Kn:zI K mainGlobals "NoRoom" = some (some (.ref Ak)))
  (LH:zI K mainGlobals "NoRow" = some (some (.ref CV)))
  (Km:zI K mainGlobals "NoRule" = some (some (.ref As)))
  (Kl:zI K mainGlobals "NoText" = some (some (.ref BQ)))
  (G2:zI K mainGlobals "NoWalker" = some (some (.ref Am)))
  (G1:zI K mainGlobals "NotThere" = some (some (.ref Ag)))
  (IY:zI K mainGlobals "TooMany" = some (some (.ref Br)))
  (MV:zI K mainGlobals "Trip" = some (some (.ref Aa)))
  (LG:zI K mainGlobals "Twice" = some (some (.ref CU)))
  (ID:z4 K At Str.empty=true) (IT:yC K At=true) (IA:yf K At=true) (Iq:zL K (.ref At) "__setattr__" = some (some (.builtin "object.__setattr__")))
  (IC:z4 K Ao Str.empty=true) (IS:yC K Ao=true) (Iz:yf K Ao=true) (Ip:zL K (.ref Ao) "__setattr__" = some (some (.builtin "object.__setattr__")))
  (IB:z4 K Ah Str.empty=true) (IR:yC K Ah=true) (Iy:yf K Ah=true) (Io:zL K (.ref Ah) "__setattr__" = some (some (.builtin "object.__setattr__")))
  (Ln:z4 K Aa Str.empty=true) (LE:yC K Aa=true) (Ll:yf K Aa=true) (Lk:zL K (.ref Aa) "__setattr__" = some (some (.builtin "object.__setattr__")))
  (IK:yq K At=true) (IN:zF K (.ref At)=true)
  (IJ:yq K Ao=true) (IM:zF K (.ref Ao)=true)
  (II:yq K Ah=true) (IL:zF K (.ref Ah)=true)
  (Lw:yq K Aa=true) (Lz:zF K (.ref Aa)=true)
  (nf_Halves_tokens:zL K (.ref Ao) "tokens" = some none)
  (nf_Nearer_past:zL K (.ref Ah) "past" = some none)
  (nf_Trip_book:zL K (.ref Aa) "book" = some none)
  (nf_Trip_letters:zL K (.ref Aa) "letters" = some none)
  (nf_Trip_holders:zL K (.ref Aa) "holders" = some none)
  (nf_Trip_arrivals:zL K (.ref Aa) "arrivals" = some none)
  (nf_Trip_passed:zL K (.ref Aa) "passed" = some none)
  (nf_Trip_reached:zL K (.ref Aa) "reached" = some none)
  (nf_Trip_deeds:zL K (.ref Aa) "deeds" = some none)
  (Im:xclsB K AQ=true)
  (E9:xclsB K Aj=true)
  (FL:xclsB K An=true)
  (FK:xclsB K Am=true)
  (FJ:xclsB K Ag=true)
  (JM:xclsB K A0=true)
  (Il:xclsB K Al=true)
  (Ik:xclsB K Ak=true)
  (Ij:xclsB K As=true)
  (IG:oclsB K At=true)
  (IF:oclsB K Ao=true)
  (IE:oclsB K Ah=true)
  (ff_f_d4:yk K (.ref Ag) [.ref Ag,.ref Al,.ref Ak]=some true)
  (ff_f_d6:yk K (.ref Al) [.ref Ag,.ref Al,.ref Ak]=some true)
  (ff_f_d7:yk K (.ref Ak) [.ref Ag,.ref Al,.ref Ak]=some true)
  (ff_f_na:zc K (.ref At) (.ref Ah)=some false)
  (ff_f_nh:zc K (.ref Ao) (.ref Ah)=some false)
  (ff_f_nn:zc K (.ref Ah) (.ref Ah)=some true)
  (ff_f_em:PySem.W.exmOne K (.ref As) (.ref Dp)=some true)
  (ff_f_rv:zc K (.ref As) (.type "ValueError")=some true)
  (ff_f_nr:zc K (.type "NoneType") (.ref As)=some false)
  (ff_f_a1:yG K (.ref As) [.ref BS,.ref Aj,.ref AQ,.ref An,.ref Am,.ref Ag,.ref A0,.ref Al,.ref Ak]=some false)
  (ff_f_a2:yG K (.ref As) [.ref Br,.ref CW,.ref Bs,.ref BQ,.ref CV,.ref BR,.ref CU]=some false)
  (ff_f_b1:yG K (.type "NoneType") [.ref BS,.ref Aj,.ref AQ,.ref An,.ref Am,.ref Ag,.ref A0,.ref Al,.ref Ak]=some false)
  (ff_f_b2:yG K (.type "NoneType") [.ref Br,.ref CW,.ref Bs,.ref BQ,.ref CV,.ref BR,.ref CU]=some false) :
  ∃ fd:FuncData,(∀ (s:Shared) (v:Value),BindsTo s fd ⟨[v],[]⟩ [("_law_script_here", v)])/\∀ base:Heap,K.In base->base.Ns mainGlobals mg->FnOk l.prog w K mg base CX0 9 fa fd ["_law_script_here"] (spLaw K):=by
 have e:=hfa.symm.trans (zJ X G HW)
 cases e
 have Oi:=Gg.binds (ps:=["k"]) λ_ _ _ _ _ _ us hl=>us1 hl λ_=>rfl
 have LQ:=B9.binds (ps:=["_law_script", "_law_k"]) λ_ _ _ _ _ _ us hl=>us2 hl λ_ _=>rfl
 have Mo:=CF.binds (ps:=["_law_purse_here", "_law_many"]) λ_ _ _ _ _ _ us hl=>us2 hl λ_ _=>rfl
 have M7:=De.binds (ps:=["_law_purse_here"]) λ_ _ _ _ _ _ us hl=>us1 hl λ_=>rfl
 have LP:=B8.binds (ps:=["_law_purse_here", "_law_walkers"]) λ_ _ _ _ _ _ us hl=>us2 hl λ_ _=>rfl
 have Mp:=CG.binds (ps:=["_law_purse_here"]) λ_ _ _ _ _ _ us hl=>us1 hl λ_=>rfl
 have JJ:=Bk.binds (ps:=["_law_purse_here", "_law_walkers", "_law_most"]) λ_ _ _ _ _ _ us hl=>us3 hl λ_ _ _=>rfl
 have Mr:=CJ.binds (ps:=["_law_purse_here", "_law_most_walkers", "_law_most_meetings"]) λ_ _ _ _ _ _ us hl=>us3 hl λ_ _ _=>rfl
 have Mn:=CD.binds (ps:=["_law_purse_here", "_law_book_here", "_law_later"]) λ_ _ _ _ _ _ us hl=>us3 hl λ_ _ _=>rfl
 have K6:=BF.binds (ps:=["_law_purse_here", "_law_book_here"]) λ_ _ _ _ _ _ us hl=>us2 hl λ_ _=>rfl
 have LN:=B6.binds (ps:=["_law_thing"]) λ_ _ _ _ _ _ us hl=>us1 hl λ_=>rfl
 have Kx:=Bv.binds (ps:=["_law_purse_here", "_law_book_here"]) λ_ _ _ _ _ _ us hl=>us2 hl λ_ _=>rfl
 have MZ:=Da.binds (ps:=["thing"]) λ_ _ _ _ _ _ us hl=>us1 hl λ_=>rfl
 have Ml:=Cz.binds (ps:=["thing", "least", "most"]) λ_ _ _ _ _ _ us hl=>us3 hl λ_ _ _=>rfl
 have M5:=Db.binds (ps:=["number", "bound"]) λ_ _ _ _ _ _ us hl=>us2 hl λ_ _=>rfl
 have Gm:=AC.binds (ps:=["book", "thing"]) λ_ _ _ _ _ _ us hl=>us2 hl λ_ _=>rfl
 have Mm:=CB.binds (ps:=["book", "thing"]) λ_ _ _ _ _ _ us hl=>us2 hl λ_ _=>rfl
 have MX:=C8.binds (ps:=["book", "number", "walker"]) λ_ _ _ _ _ _ us hl=>us3 hl λ_ _ _=>rfl
 have MY:=C9.binds (ps:=["book", "walker", "number"]) λ_ _ _ _ _ _ us hl=>us3 hl λ_ _ _=>rfl
 have HV:=AO.binds (ps:=["self"]) λ_ _ _ _ _ _ us hl=>us1 hl λ_=>rfl
 have HU:=AN.binds (ps:=["self"]) λ_ _ _ _ _ _ us hl=>us1 hl λ_=>rfl
 have KB:=Bb.binds (ps:=["self", "letter", "giver", "other", "tokens"]) λ_ _ _ _ _ _ us hl=>us5 hl λ_ _ _ _ _=>rfl
 have HS:=AM.binds (ps:=["self", "tokens"]) λ_ _ _ _ _ _ us hl=>us2 hl λ_ _=>rfl
 have HR:=AL.binds (ps:=["self"]) λ_ _ _ _ _ _ us hl=>us1 hl λ_=>rfl
 have KA:=Ba.binds (ps:=["self", "letter", "giver", "other", "tokens"]) λ_ _ _ _ _ _ us hl=>us5 hl λ_ _ _ _ _=>rfl
 have Mj:=Cy.binds (ps:=["book", "one", "other"]) λ_ _ _ _ _ _ us hl=>us3 hl λ_ _ _=>rfl
 have HQ:=AK.binds (ps:=["self", "past"]) λ_ _ _ _ _ _ us hl=>us2 hl λ_ _=>rfl
 have HP:=AJ.binds (ps:=["self"]) λ_ _ _ _ _ _ us hl=>us1 hl λ_=>rfl
 have Kz:=A9.binds (ps:=["self", "letter", "giver", "other", "tokens"]) λ_ _ _ _ _ _ us hl=>us5 hl λ_ _ _ _ _=>rfl
 have LM:=B5.binds (ps:=["things"]) λ_ _ _ _ _ _ us hl=>us1 hl λ_=>rfl
 have LL:=B4.binds (ps:=["thing"]) λ_ _ _ _ _ _ us hl=>us1 hl λ_=>rfl
 have NE:=DP.binds (ps:=["thing"]) λ_ _ _ _ _ _ us hl=>us1 hl λ_=>rfl
 have HN:=AI.binds (ps:=["self", "letter", "walker"]) λ_ _ _ _ _ _ us hl=>us3 hl λ_ _ _=>rfl
 have Gn:=Ax.binds (ps:=["self", "letter", "walker", "time"]) λ_ _ _ _ _ _ us hl=>us4 hl λ_ _ _ _=>rfl
 have JK:=AY.binds (ps:=["self", "book", "letters"]) λ_ _ _ _ _ _ us hl=>us3 hl λ_ _ _=>rfl
 have K8:=Bp.binds (ps:=["self", "letter"]) λ_ _ _ _ _ _ us hl=>us2 hl λ_ _=>rfl
 have M8:=CK.binds (ps:=["self", "walker"]) λ_ _ _ _ _ _ us hl=>us2 hl λ_ _=>rfl
 have Ms:=B2.binds (ps:=["self"]) λ_ _ _ _ _ _ us hl=>us1 hl λ_=>rfl
 have G4:=AA.binds (ps:=["self", "letter"]) λ_ _ _ _ _ _ us hl=>us2 hl λ_ _=>rfl
 have Ja:=AS.binds (ps:=["self", "letter", "walker"]) λ_ _ _ _ _ _ us hl=>us3 hl λ_ _ _=>rfl
 have Gp:=Ay.binds (ps:=["self", "meeting", "letter", "giver"]) λ_ _ _ _ _ _ us hl=>us4 hl λ_ _ _ _=>rfl
 have Ky:=A8.binds (ps:=["self", "meeting", "letter", "giver"]) λ_ _ _ _ _ _ us hl=>us4 hl λ_ _ _ _=>rfl
 have NH:=Du.binds (ps:=["self", "deed"]) λ_ _ _ _ _ _ us hl=>us2 hl λ_ _=>rfl
 have K5:=BE.binds (ps:=["book", "meeting", "row"]) λ_ _ _ _ _ _ us hl=>us3 hl λ_ _ _=>rfl
 have NF:=DQ.binds (ps:=["trip", "deed"]) λ_ _ _ _ _ _ us hl=>us2 hl λ_ _=>rfl
 have MW:=C7.binds (ps:=["book", "having"]) λ_ _ _ _ _ _ us hl=>us2 hl λ_ _=>rfl
 have NG:=DR.binds (ps:=["_law_found", "_law_due"]) λ_ _ _ _ _ _ us hl=>us2 hl λ_ _=>rfl
 have Ot:=KO.binds (ps:=["book", "letters", "rule"]) λ_ _ _ _ _ _ us hl=>us3 hl λ_ _ _=>rfl
 have Mq:=CI.binds (ps:=["_law_purse_here", "_law_walkers"]) λ_ _ _ _ _ _ us hl=>us2 hl λ_ _=>rfl
 have LO:=B7.binds (ps:=["_law_book_here", "_law_sender", "_law_since"]) λ_ _ _ _ _ _ us hl=>us3 hl λ_ _ _=>rfl
 have M6:=Dc.binds (ps:=["_law_past_here", "_law_walker", "_law_wish"]) λ_ _ _ _ _ _ us hl=>us3 hl λ_ _ _=>rfl
 have HM:=AT.binds (ps:=["_law_found", "_law_book_here", "_law_letters_here"]) λ_ _ _ _ _ _ us hl=>us3 hl λ_ _ _=>rfl
 have Kv:=Bt.binds (ps:=["_law_book_here", "_law_letters_here", "_law_rule_here"]) λ_ _ _ _ _ _ us hl=>us3 hl λ_ _ _=>rfl
 have K7:=BG.binds (ps:=["_law_book_here", "_law_letters_here", "_law_past_here", "_law_deeds"]) λ_ _ _ _ _ _ us hl=>us4 hl λ_ _ _ _=>rfl
 have Kw:=Bu.binds (ps:=["_law_book_here", "_law_letters_here", "_law_deeds", "_law_times_told", "_law_tokens"]) λ_ _ _ _ _ _ us hl=>us5 hl λ_ _ _ _ _=>rfl
 have Ou:=JA.binds (ps:=["_law_script_here"]) λ_ _ _ _ _ _ us hl=>us1 hl λ_=>rfl
 have T:Tx K mg ⟨LF,Gf,Ft,CT,F8,Dj,G0,DN,Fs,CS,F9,Dk,DX,Bw,Gb,Dm,F7,Di,EZ,Cb,Fp,CP,EC,BL,GX,DK,F5,Dg,GY,DL,C1,AU,F6,Dh,GV,DI,GW,DJ,Cn,Bj,Cm,Bi,DD,BP,Cl,Bh,Ck,Bg,DC,BO,F4,Df,Cj,Bf,Ci,Be,DB,BN,Fo,CO,Fm,CM,IU,D6,Ch,Bd,BH,AV,C4,Bx,DS,Cd,Fu,DO,EO,Do,B3,AZ,CL,Bq,BI,AW,DA,BM,Ge,D9,EY,Ca,IV,D7,GU,DH,IW,D8,Oa,Lh,Ga,Dl,Fq,CQ,GZ,DM,Dz,Bc,EA,BJ,E4,Cc,EB,BK,fa,Li,At,Ao,A0,Dp,Ah,BS,Bs,CW,AQ,An,Aj,BR,Al,Ak,CV,As,BQ,Am,Ag,Br,Aa,CU⟩ t_MOST_TOKENS:=⟨Gg,Oi,zJ X G EQ,Gg.kp,B9,LQ,zJ X G BD,B9.kp,CF,Mo,zJ X G BX,CF.kp,De,M7,zJ X G Cu,De.kp,B8,LP,zJ X G BC,B8.kp,CG,Mp,zJ X G BY,CG.kp,Bk,JJ,zJ X G AX,Bk.kp,CJ,Mr,zJ X G B0,CJ.kp,CD,Mn,zJ X G BW,CD.kp,BF,K6,zJ X G Bm,BF.kp,B6,LN,zJ X G BA,B6.kp,Bv,Kx,zJ X G A3,Bv.kp,Da,MZ,zJ X G Cr,Da.kp,Cz,Ml,zJ X G BU,Cz.kp,Db,M5,zJ X G Cs,Db.kp,AC,Gm,zJ X G Au,AC.kp,CB,Mm,zJ X G BV,CB.kp,C8,MX,zJ X G Cp,C8.kp,C9,MY,zJ X G Cq,C9.kp,AO,HV,⟨Ar,Cg,AO.kp⟩,AO.kp,AN,HU,⟨AH,Dy,AN.kp⟩,AN.kp,Bb,KB,⟨A7,Ew,Bb.kp⟩,Bb.kp,AM,HS,⟨Aq,Cf,AM.kp⟩,AM.kp,AL,HR,⟨AG,Dx,AL.kp⟩,AL.kp,Ba,KA,⟨A6,Ev,Ba.kp⟩,Ba.kp,Cy,Mj,zJ X G BT,Cy.kp,AK,HQ,⟨Ap,Ce,AK.kp⟩,AK.kp,AJ,HP,⟨AF,Dw,AJ.kp⟩,AJ.kp,A9,Kz,⟨A5,Eu,A9.kp⟩,A9.kp,B5,LM,zJ X G Bz,B5.kp,B4,LL,zJ X G By,B4.kp,DP,NE,zJ X G Dq,DP.kp,AI,HN,⟨AE,Dv,AI.kp⟩,AI.kp,Ax,Gn,⟨Av,CY,Ax.kp⟩,Ax.kp,AY,JK,⟨AB,C3,AY.kp⟩,AY.kp,Bp,K8,⟨Bo,EX,Bp.kp⟩,Bp.kp,CK,M8,⟨Cv,GS,CK.kp⟩,CK.kp,B2,Ms,⟨B1,F3,B2.kp⟩,B2.kp,AA,G4,⟨Az,C5,AA.kp⟩,AA.kp,AS,Ja,⟨AR,DG,AS.kp⟩,AS.kp,Ay,Gp,⟨Aw,CZ,Ay.kp⟩,Ay.kp,A8,Ky,⟨A4,Et,A8.kp⟩,A8.kp,Du,NH,⟨Dt,IO,Du.kp⟩,Du.kp,BE,K5,zJ X G Bl,BE.kp,DQ,NF,zJ X G Dr,DQ.kp,C7,MW,zJ X G Co,C7.kp,DR,NG,zJ X G Ds,DR.kp,KO,Ot,zJ X G Jw,KO.kp,CI,Mq,zJ X G BZ,CI.kp,B7,LO,zJ X G BB,B7.kp,Dc,M6,zJ X G Ct,Dc.kp,AT,HM,zJ X G AD,AT.kp,Bt,Kv,zJ X G A1,Bt.kp,BG,K7,zJ X G Bn,BG.kp,Bu,Kw,zJ X G A2,Bu.kp,JA,Ou,zJ X G HW,JA.kp,zd X G z_ValueError,zd X G z_all,zd X G z_bool,zd X G z_dict,zd X G z_enumerate,zd X G z_int,zd X G z_isinstance,zd X G z_len,zd X G z_list,zd X G z_max,zd X G z_min,zd X G z_range,zd X G z_sorted,zd X G z_tuple,zJ X G Ku,zJ X G Kt,zJ X G LK,zJ X G Gd,zJ X G Ks,zJ X G Kr,zJ X G IZ,zJ X G LJ,zJ X G Kq,zJ X G G3,zJ X G Gc,zJ X G Kp,zJ X G Ko,zJ X G Kn,zJ X G LH,zJ X G Km,zJ X G Kl,zJ X G G2,zJ X G G1,zJ X G IY,zJ X G MV,zJ X G LG,XCls.of Im,XCls.of E9,XCls.of FL,XCls.of FK,XCls.of FJ,XCls.of JM,XCls.of Il,XCls.of Ik,XCls.of Ij,⟨ID,IT,IA,Iq⟩,⟨IC,IS,Iz,Ip⟩,⟨IB,IR,Iy,Io⟩,⟨Ln,LE,Ll,Lk⟩,⟨IK,Ar,Cg,IN⟩,⟨IJ,Aq,Cf,IM⟩,⟨II,Ap,Ce,IL⟩,⟨Lw,AB,C3,Lz⟩,nf_Halves_tokens,nf_Nearer_past,nf_Trip_book,nf_Trip_letters,nf_Trip_holders,nf_Trip_arrivals,nf_Trip_passed,nf_Trip_reached,nf_Trip_deeds,OCls.of IG,OCls.of IF,OCls.of IE,ff_f_d4,ff_f_d6,ff_f_d7,ff_f_na,ff_f_nh,ff_f_nn,ff_f_em,ff_f_rv,ff_f_nr,ff_f_a1,ff_f_a2,ff_f_b1,ff_f_b2,zJ X G g_MOST_TOKENS⟩
 obtain ⟨_,_,_,_,_,_,_,_,_,rfl,_,_⟩:=JA.ex
 exact ⟨_,λs v=>.of_eq rfl,λbase _ _=>Om T⟩
theorem walk {l:PySem.W.OpenLaw}{q:Program}{loose:List Str}{XP:(Str->Option Value)->Heap->Prop}{YP:World->Heap->Prop}{d:DefRec}{K:Params->PySem.W.Frag} (hn:l.most=some 63) (hdf:d.params.defaults=[])
  (hY:∀ (w:World) (h:Heap),YP w h->(K w.params).In h)
  (F:∀ (w:World) (mg:Str->Option Value) (fa:Addr) (h:Heap),(K w.params).In h->h.Ns mainGlobals mg->mg d.name=some (.ref fa) ->
   ∃ fd:FuncData,(∀ (s:Shared) (u:Value),BindsTo s fd ⟨[u],[]⟩ [("_law_script_here", u)])/\∀ base:Heap,(K w.params).In base->base.Ns mainGlobals mg->FnOk l.prog w (K w.params) mg base CX0 9 fa fd ["_law_script_here"] (spLaw (K w.params))) :
  PySem.W.WalkO q loose XP YP l.row.toRowW d [] (λf vs=>PySem.call f vs):=
 L2.walk_of (n:=63) (k:=9) (x := "_law_script_here") (CX:=λ_=>CX0) (sp:=λw=>spLaw (K w.params)) hn (by decide) hdf ⟨rfl,by decide,by decide⟩ hY F (λ_ _ a ns hl _ hS=>⟨a,ns,rfl,hS,hl,λ_=>rfl⟩) λ_ _ _ _ _ z=>z
end Sm
namespace PySem.W.Fast
def tw6611486036321787000:Nat:=0
def tw16914202354871973595:Nat:=0
def tw12655826241819698639:Nat:=0
def tw6589601209778543500:Nat:=0
def tw13782940040718149198:Nat:=0
def tw12932199344842469400:Nat:=0
def tw1376843712991648159:Nat:=0
def tw6501727391029796744:Nat:=0
def tw16548216530718800607:Nat:=0
def tw17061925164144677256:Nat:=0
def tw18443518001047030695:Nat:=0
def tw8811324442400672532:Nat:=0
def tw15763870384495701744:Nat:=0
def tw1735494227477827254:Nat:=0
def tw7057421053179378721:Nat:=0
def tw7456131246342502163:Nat:=0
def tw10961530428436774388:Nat:=0
def tw2460392272650088923:Nat:=0
def tw12313814605406898063:Nat:=0
def tw4192546654478816523:Nat:=0
def tw15059844394409446938:Nat:=0
def tw8842628503139263952:Nat:=0
def tw1996660634189550500:Nat:=0
def tw5300908356428365912:Nat:=0
def tw11072432118284114464:Nat:=0
def tw13853679213285035679:Nat:=0
def tw7432711469898645214:Nat:=0
def tw15719354842066003899:Nat:=0
def tw11196611460017370733:Nat:=0
def tw18035886464550037624:Nat:=0
def tw3580507622914815802:Nat:=0
def tw14925881062407890144:Nat:=0
def tw8031430759479597113:Nat:=0
def tw1888804108738759186:Nat:=0
def tw6750410831527229113:Nat:=0
def tw6556767291024408161:Nat:=0
def tw11194586370993639651:Nat:=0
def tw5934052266505601230:Nat:=0
def tw17171396632990809266:Nat:=0
def tw14522061195650106611:Nat:=0
def tw9857458226538876938:Nat:=0
def tw11625180309704194537:Nat:=0
def tw14552332510271898986:Nat:=0
def tw12519993019229881313:Nat:=0
def tw5388023827525146991:Nat:=0
def tw394646768343527322:Nat:=0
def tw4756673479967090478:Nat:=0
def tw15108155592828523871:Nat:=0
def tw12097765136595188522:Nat:=0
def tw8650701445166556649:Nat:=0
def tw13099871840502042713:Nat:=0
def tw10983133758744217520:Nat:=0
def tw4394662570479498492:Nat:=0
def tw13647791886054809552:Nat:=0
def tw6494072276854789723:Nat:=0
def tw13984688013998253076:Nat:=0
def tw10441578243023702209:Nat:=0
def tw6146084713240407010:Nat:=0
def tw5146321143128715877:Nat:=0
def tw8241130196698310788:Nat:=0
def tw10068836808595754292:Nat:=0
def tw1808482012740998197:Nat:=0
def tw8803985856335834203:Nat:=0
def tw14052069971162577061:Nat:=0
def tw6077989504262371127:Nat:=0
def tw11182914774154264162:Nat:=0
def tw4735923199688375921:Nat:=0
def tw4606338846959774035:Nat:=0
def tw16859333493960642371:Nat:=0
def tw10723960650575122493:Nat:=0
def tw7953010800956341310:Nat:=0
def tw17433401864144143806:Nat:=0
def tw17658775486894074942:Nat:=0
def tw5187709537601033714:Nat:=0
def tw3878113717059811118:Nat:=0
def tw3562304817130191331:Nat:=0
def tw14912016629499563508:Nat:=0
def tw16877203720606844414:Nat:=0
def tw18121042482643811656:Nat:=0
def tw8648653824305806755:Nat:=0
def tw2126174189217317845:Nat:=0
def tw1350618900161787375:Nat:=0
def tw2941321004434712773:Nat:=0
def tw6163862605129439332:Nat:=0
def tw9145517988336360783:Nat:=0
def tw5679664996259680986:Nat:=0
def tw14011854124328313968:Nat:=0
def tw16304231675439082489:Nat:=0
def tw10886385026639378269:Nat:=0
def tw10544372510309291285:Nat:=0
def tw12636974850387410568:Nat:=0
def tw13246246730489015467:Nat:=0
def tw15551516689194719005:Nat:=0
def tw9957911156019696051:Nat:=0
def tw17118248402379069305:Nat:=0
def tw1745295028851690685:Nat:=0
def tw1960350548699894274:Nat:=0
def tw1999288512012882844:Nat:=0
def tw14439050019234952901:Nat:=0
def tw14427708088733914589:Nat:=0
def tw15678619096029324403:Nat:=0
def tw16000587023138325581:Nat:=0
def tw310496737515939837:Nat:=0
def tw8972153638058559363:Nat:=0
def tw17934112114211947890:Nat:=0
def tw11921707506435994756:Nat:=0
def tw7528023574709396370:Nat:=0
def tw5018884133997462276:Nat:=0
def tw9091724213534357613:Nat:=0
def tw2015643377529054122:Nat:=0
def tw4413579554261793392:Nat:=0
def tw1454785929312996077:Nat:=0
def tw13662895279898059912:Nat:=0
def tw15782155440184618926:Nat:=0
def tw5808983410411986028:Nat:=0
def tw10214225867632841567:Nat:=0
def tw12487713359180415701:Nat:=0
def tw6114128069271367:Nat:=0
def tw9875257291829247621:Nat:=0
def tw14626836747968996856:Nat:=0
def tw14280458840418004051:Nat:=0
def tw54897713936868415:Nat:=0
def tw14872977435657063661:Nat:=0
def tw17812677280882110946:Nat:=0
def tw14968447716261833164:Nat:=0
def tw375877813068458502:Nat:=0
def tw1331413580023642603:Nat:=0
def tw11103343272744351358:Nat:=0
def tw14286132391536648365:Nat:=0
def tw3359128590886974537:Nat:=0
def tw2922167397593147450:Nat:=0
def tw7608854100016014301:Nat:=0
def tw17217903509377188233:Nat:=0
def tw4889977534786697075:Nat:=0
def tw11973082019344499454:Nat:=0
def tw17322241116073431415:Nat:=0
def tw861225815153856283:Nat:=0
def tw17984096785139847520:Nat:=0
def tw16343148192109163667:Nat:=0
def tw6843503640635429770:Nat:=0
def tw13813406920952586737:Nat:=0
def tw1674965019136483167:Nat:=0
def tw14802666410833685380:Nat:=0
def tw8999423749280966421:Nat:=0
def tw7527410726976878358:Nat:=0
def tw16526457611537851314:Nat:=0
def tw7110508092970298372:Nat:=0
def tw15417769622558850923:Nat:=0
def tw3337745577947795742:Nat:=0
def tw14722255646944019248:Nat:=0
def tw17814975860268658309:Nat:=0
def tw2365794660739257496:Nat:=0
def tw2703994386365765931:Nat:=0
def tw14677909505553295943:Nat:=0
def tw427448983020163942:Nat:=0
def tw5392932098304263451:Nat:=0
def tw10439638288552163284:Nat:=0
def tw12747659304881534476:Nat:=0
def tw4017756302853775595:Nat:=0
def tw12075045666293688369:Nat:=0
def tw7319800102496293788:Nat:=0
def tw7371991951689435758:Nat:=0
def tw9571466286273255263:Nat:=0
def tw5022194075685626126:Nat:=0
def tw2542957457169971048:Nat:=0
def tw11187125646668144135:Nat:=0
def tw3914666523076271029:Nat:=0
def tw785962559919142049:Nat:=0
def tw15718002374685320442:Nat:=0
def tw16322101673438000479:Nat:=0
def tw15982891551106666290:Nat:=0
def tw13432971427272794096:Nat:=0
def tw4288343279170952318:Nat:=0
def tw17040242572925120119:Nat:=0
def tw17127206800856650386:Nat:=0
def tw8417751025070307456:Nat:=0
def tw137311057628528876:Nat:=0
def tw7016415105689309214:Nat:=0
def tw3990081249111337339:Nat:=0
def tw11896375890785894784:Nat:=0
def tw15063033462892900291:Nat:=0
def tw4062490600785340053:Nat:=0
def tw2698584196990535275:Nat:=0
def tw9372207420153287058:Nat:=0
def tw11794229331139591828:Nat:=0
def tw17267871396368637310:Nat:=0
def tw5451589443261750366:Nat:=0
def tw9461086004009902142:Nat:=0
def tw17517889887019656421:Nat:=0
def tw11298951168015714013:Nat:=0
def tw3374929016921367630:Nat:=0
def tw11148335658893654435:Nat:=0
def tw3351831891286056380:Nat:=0
def tw7633949113869363408:Nat:=0
def tw4397797039580002304:Nat:=0
def tw18093071565772843154:Nat:=0
def tw932178334363959342:Nat:=0
def tw16209595000974471282:Nat:=0
def tw6493311039367451403:Nat:=0
def tw11606317806915828037:Nat:=0
def tw12545195141206169037:Nat:=0
def tw11579266143139172557:Nat:=0
def tw4241813444746953569:Nat:=0
def tw17535948108570638991:Nat:=0
def tw7923812861480685470:Nat:=0
def tw13705103430273957198:Nat:=0
def tw13311558812994035738:Nat:=0
def tw8257380065897017432:Nat:=0
def tw15501593175429785858:Nat:=0
def tw8960847594423656104:Nat:=0
def tw11273824698980842536:Nat:=0
def tw13719028145837377839:Nat:=0
def tw13000441276298645228:Nat:=0
def tw4914581619687567599:Nat:=0
def tw1394472079686752390:Nat:=0
def tw17237907563867705752:Nat:=0
def tw8031165115636588211:Nat:=0
def tw14009069141114662061:Nat:=0
def tw3563905694453985254:Nat:=0
def tw14692743471800595861:Nat:=0
def tw11431953130040095086:Nat:=0
def tw13972806234766215662:Nat:=0
def tw11616199909965315546:Nat:=0
def tw15610214232317593770:Nat:=0
def tw6526085280248130027:Nat:=0
def tw11610954658326378370:Nat:=0
def tw13757004347208812497:Nat:=0
def tw17836064984262317577:Nat:=0
def tw3020408420890634925:Nat:=0
def tw18379356993485287639:Nat:=0
def tw11546760277963858812:Nat:=0
def tw11598663690355819005:Nat:=0
def tw13716517764803989207:Nat:=0
def tw5470765421528368436:Nat:=0
def tw6061064471231842903:Nat:=0
def tw15144039566976587631:Nat:=0
def tw13136853251348789737:Nat:=0
def tw5766941181271514948:Nat:=0
def tw7130187184697711577:Nat:=0
def tw5860526488525387540:Nat:=0
def tw14072596339828560128:Nat:=0
def tw10346483355162222596:Nat:=0
def tw8112958760205852966:Nat:=0
def tw8815265014854868407:Nat:=0
def tw15950529860579599650:Nat:=0
def tw12480064670279390541:Nat:=0
def tw17473010574562233390:Nat:=0
def tw10406078020859759944:Nat:=0
def tw13533769979693969644:Nat:=0
def tw17682005232880528813:Nat:=0
def tw5980786373095805213:Nat:=0
def tw3954295984249694178:Nat:=0
def tw15001981037902944274:Nat:=0
def tw17079276170374464469:Nat:=0
def tw17414267165083397983:Nat:=0
def tw10021935016057860320:Nat:=0
def tw15311340545524886489:Nat:=0
def tw2478730401143006438:Nat:=0
def tw12100008294226906287:Nat:=0
def tw2619770069824448356:Nat:=0
def tw16485950732101080631:Nat:=0
def tw16954159265358127560:Nat:=0
def tw8013623674504552292:Nat:=0
def tw1222860067488350666:Nat:=0
def tw8921613931923719258:Nat:=0
def tw12067713826628273616:Nat:=0
def tw10432451987325648032:Nat:=0
def tw3170629611286876727:Nat:=0
def tw5479357926350752221:Nat:=0
def tw9665623568903016077:Nat:=0
def tw2822905749912814973:Nat:=0
def tw13720675654127137181:Nat:=0
def tw12731671898207565554:Nat:=0
def tw12306818443131568629:Nat:=0
def tw15388394975534553702:Nat:=0
def tw12993039927768231939:Nat:=0
def tw13668633827394193961:Nat:=0
def tw16481061632385335751:Nat:=0
def tw3408775000667358323:Nat:=0
def tw3062988094308909805:Nat:=0
def tw16600110553497440401:Nat:=0
def tw4828473793204906552:Nat:=0
def tw13121951673640913657:Nat:=0
def tw14625834169137424419:Nat:=0
def tw3318128788967261836:Nat:=0
def tw12312486769320893677:Nat:=0
def tw13131121453261742105:Nat:=0
def tw5278932769182376380:Nat:=0
def tw15412678068816248851:Nat:=0
def tw15915242266395619038:Nat:=0
def tw8569149826248322104:Nat:=0
def tw12724347336232088640:Nat:=0
def tw7212348604725358689:Nat:=0
def tw13762448408454953057:Nat:=0
def tw10634525586805609888:Nat:=0
def tw18288561443627293429:Nat:=0
def tw1549755247228929401:Nat:=0
def tw8476731838089503338:Nat:=0
def tw8371179020986970360:Nat:=0
def tw1517507351811067976:Nat:=0
def tw2296241812556018864:Nat:=0
def tw7738555859491077258:Nat:=0
def tw6461765093714445838:Nat:=0
def tw9373957968238196042:Nat:=0
def tw11149578618894110581:Nat:=0
def tw3152196560561617761:Nat:=0
def tw2368175399435409486:Nat:=0
def tw12520549647594809570:Nat:=0
def tw8430752583882260331:Nat:=0
def tw8115176153727966684:Nat:=0
def tw241252531436251742:Nat:=0
def tw7968665347518930163:Nat:=0
def tw2776141517562434443:Nat:=0
def tw11514235981319411253:Nat:=0
def tw3485196154812866318:Nat:=0
def tw5546331587934217037:Nat:=0
def tw9716760410080014742:Nat:=0
def tw8191879787665796008:Nat:=0
def tw835193972113530746:Nat:=0
def tw4739254837116379354:Nat:=0
def tw5536275741788715260:Nat:=0
def tw11383080954965336969:Nat:=0
def tw908407314950983469:Nat:=0
def tw13749188088378182275:Nat:=0
def tw14379232142823852612:Nat:=0
def tw15159643583655880459:Nat:=0
def tw10239172636184022340:Nat:=0
def tw5017063802527478480:Nat:=0
def tw12704516225114773057:Nat:=0
def tw14338971049257524950:Nat:=0
def tw15981733694783551482:Nat:=0
def tw5283757334904948107:Nat:=0
def tw15377470936446415911:Nat:=0
def tw18404625524348840659:Nat:=0
def tw14474747673275876142:Nat:=0
def tw1274869558662355822:Nat:=0
def tw3499230355872282897:Nat:=0
def tw3225692599179630174:Nat:=0
def tw16301309484644784434:Nat:=0
def tw16163582266721917945:Nat:=0
def tw17356452311130265641:Nat:=0
def tw1773897659679412958:Nat:=0
def tw11127616117692655992:Nat:=0
def tw6499378014587142769:Nat:=0
def tw10193539009771904863:Nat:=0
def tw2879587347463712005:Nat:=0
def tw13707059926585896691:Nat:=0
def tw17455212168598416055:Nat:=0
def tw13681283967785101493:Nat:=0
def tw10967731867987388790:Nat:=0
def tw14664099010538122330:Nat:=0
def tw15290553053555748343:Nat:=0
def tw691385186468806787:Nat:=0
def tw16329711647652542887:Nat:=0
def tw7899490917674128681:Nat:=0
def tw9303673722020953351:Nat:=0
def tw1999857921874253573:Nat:=0
def tw16814552162986715375:Nat:=0
def tw10960888887427047276:Nat:=0
def tw7563280986688443738:Nat:=0
def tw5725427434759055635:Nat:=0
def tw17647650711590791123:Nat:=0
def tw4693013549127516021:Nat:=0
def tw1950951658058142011:Nat:=0
def tw17044939748956124851:Nat:=0
def tw8765803739858284183:Nat:=0
def tw2542532725944089946:Nat:=0
def tw13595537163736627584:Nat:=0
def tw9853771916249589222:Nat:=0
def tw7218495680482650068:Nat:=0
def tw13271320381040907462:Nat:=0
end PySem.W.Fast
open PySem PySem.W PyProof.Rows
set_option maxRecDepth 100000 in
set_option maxHeartbeats 0 in
theorem PySem.Challenge.cw_satchelmeet_k57_whole_nearer_climbs_holds : PySem.Challenge.rw_satchelmeet_k57_whole_nearer_climbs.Holds := by
 w_on;o_law;k_head;(case hw=>w_witness2)
 k_fill
 refine Sm.walk (l:=PySem.Challenge.rw_satchelmeet_k57_whole_nearer_climbs) rfl rfl (λw h Y=>PySem.W.kIn_of Y) ?F
 case F=>
  intro w mg fa h KX G hmg
  refine' Sm.all_mk KX G hmg ?EQ ?Gg ?BD ?B9 ?BX ?CF ?Cu ?De ?BC ?B8 ?BY ?CG ?AX ?Bk ?B0 ?CJ ?BW ?CD ?Bm ?BF ?BA ?B6 ?A3 ?Bv ?Cr ?Da ?BU ?Cz ?Cs ?Db ?Au ?AC ?BV ?CB ?Cp ?C8 ?Cq ?C9 ?Ar ?Cg ?AO ?AH ?Dy ?AN ?A7 ?Ew ?Bb ?Aq ?Cf ?AM ?AG ?Dx ?AL ?A6 ?Ev ?Ba ?BT ?Cy ?Ap ?Ce ?AK ?AF ?Dw ?AJ ?A5 ?Eu ?A9 ?Bz ?B5 ?By ?B4 ?Dq ?DP ?AE ?Dv ?AI ?Av ?CY ?Ax ?AB ?C3 ?AY ?Bo ?EX ?Bp ?Cv ?GS ?CK ?B1 ?F3 ?B2 ?Az ?C5 ?AA ?AR ?DG ?AS ?Aw ?CZ ?Ay ?A4 ?Et ?A8 ?Dt ?IO ?Du ?Bl ?BE ?Dr ?DQ ?Co ?C7 ?Ds ?DR ?Jw ?KO ?BZ ?CI ?BB ?B7 ?Ct ?Dc ?AD ?AT ?A1 ?Bt ?Bn ?BG ?A2 ?Bu ?HW ?JA ?z_ValueError ?z_all ?z_bool ?z_dict ?z_enumerate ?z_int ?z_isinstance ?z_len ?z_list ?z_max ?z_min ?z_range ?z_sorted ?z_tuple ?g_MOST_TOKENS ?Ku ?Kt ?LK ?Gd ?Ks ?Kr ?IZ ?LJ ?Kq ?G3 ?Gc ?Kp ?Ko ?Kn ?LH ?Km ?Kl ?G2 ?G1 ?IY ?MV ?LG ?ID ?IT ?IA ?Iq ?IC ?IS ?Iz ?Ip ?IB ?IR ?Iy ?Io ?Ln ?LE ?Ll ?Lk ?IK ?IN ?IJ ?IM ?II ?IL ?Lw ?Lz ?nf_Halves_tokens ?nf_Nearer_past ?nf_Trip_book ?nf_Trip_letters ?nf_Trip_holders ?nf_Trip_arrivals ?nf_Trip_passed ?nf_Trip_reached ?nf_Trip_deeds ?Im ?E9 ?FL ?FK ?FJ ?JM ?Il ?Ik ?Ij ?IG ?IF ?IE ?ff_f_d4 ?ff_f_d6 ?ff_f_d7 ?ff_f_na ?ff_f_nh ?ff_f_nn ?ff_f_em ?ff_f_rv ?ff_f_nr ?ff_f_a1 ?ff_f_a2 ?ff_f_b1 ?ff_f_b2
  (case Ku=>k_is)
  (case Kt=>k_is)
  (case LK=>k_is)
  (case Gd=>k_is)
  (case Ks=>k_is)
  (case Kr=>k_is)
  (case IZ=>k_is)
  (case LJ=>k_is)
  (case Kq=>k_is)
  (case G3=>k_is)
  (case Gc=>k_is)
  (case Kp=>k_is)
  (case Ko=>k_is)
  (case Kn=>k_is)
  (case LH=>k_is)
  (case Km=>k_is)
  (case Kl=>k_is)
  (case G2=>k_is)
  (case G1=>k_is)
  (case IY=>k_is)
  (case MV=>k_is)
  (case LG=>k_is)
  (case EQ=>k_is)
  (case Gg=>refine' L2.fun_mk ?x1 ?y1 ?z1;(case x1=>k_is);(case y1=>k_is);(case z1=>k_is))
  (case BD=>k_is)
  (case B9=>refine' L2.fun_mk ?x3 ?y3 ?z3;(case x3=>k_is);(case y3=>k_is);(case z3=>k_is))
  (case BX=>k_is)
  (case CF=>refine' L2.fun_mk ?x5 ?y5 ?z5;(case x5=>k_is);(case y5=>k_is);(case z5=>k_is))
  (case Cu=>k_is)
  (case De=>refine' L2.fun_mk ?x7 ?y7 ?z7;(case x7=>k_is);(case y7=>k_is);(case z7=>k_is))
  (case BC=>k_is)
  (case B8=>refine' L2.fun_mk ?x9 ?y9 ?z9;(case x9=>k_is);(case y9=>k_is);(case z9=>k_is))
  (case BY=>k_is)
  (case CG=>refine' L2.fun_mk ?x11 ?y11 ?z11;(case x11=>k_is);(case y11=>k_is);(case z11=>k_is))
  (case AX=>k_is)
  (case Bk=>refine' L2.fun_mk ?x13 ?y13 ?z13;(case x13=>k_is);(case y13=>k_is);(case z13=>k_is))
  (case B0=>k_is)
  (case CJ=>refine' L2.fun_mk ?x15 ?y15 ?z15;(case x15=>k_is);(case y15=>k_is);(case z15=>k_is))
  (case BW=>k_is)
  (case CD=>refine' L2.fun_mk ?x17 ?y17 ?z17;(case x17=>k_is);(case y17=>k_is);(case z17=>k_is))
  (case Bm=>k_is)
  (case BF=>refine' L2.fun_mk ?x19 ?y19 ?z19;(case x19=>k_is);(case y19=>k_is);(case z19=>k_is))
  (case BA=>k_is)
  (case B6=>refine' L2.fun_mk ?x21 ?y21 ?z21;(case x21=>k_is);(case y21=>k_is);(case z21=>k_is))
  (case A3=>k_is)
  (case Bv=>refine' L2.fun_mk ?x23 ?y23 ?z23;(case x23=>k_is);(case y23=>k_is);(case z23=>k_is))
  (case Cr=>k_is)
  (case Da=>refine' L2.fun_mk ?x25 ?y25 ?z25;(case x25=>k_is);(case y25=>k_is);(case z25=>k_is))
  (case BU=>k_is)
  (case Cz=>refine' L2.fun_mk ?x27 ?y27 ?z27;(case x27=>k_is);(case y27=>k_is);(case z27=>k_is))
  (case Cs=>k_is)
  (case Db=>refine' L2.fun_mk ?x29 ?y29 ?z29;(case x29=>k_is);(case y29=>k_is);(case z29=>k_is))
  (case Au=>k_is)
  (case AC=>refine' L2.fun_mk ?x31 ?y31 ?z31;(case x31=>k_is);(case y31=>k_is);(case z31=>k_is))
  (case BV=>k_is)
  (case CB=>refine' L2.fun_mk ?x33 ?y33 ?z33;(case x33=>k_is);(case y33=>k_is);(case z33=>k_is))
  (case Cp=>k_is)
  (case C8=>refine' L2.fun_mk ?x35 ?y35 ?z35;(case x35=>k_is);(case y35=>k_is);(case z35=>k_is))
  (case Cq=>k_is)
  (case C9=>refine' L2.fun_mk ?x37 ?y37 ?z37;(case x37=>k_is);(case y37=>k_is);(case z37=>k_is))
  (case Ar=>k_is)
  (case Cg=>k_is)
  (case AO=>refine' L2.fun_mk ?x40 ?y40 ?z40;(case x40=>k_is);(case y40=>k_is);(case z40=>k_is))
  (case AH=>k_is)
  (case Dy=>k_is)
  (case AN=>refine' L2.fun_mk ?x43 ?y43 ?z43;(case x43=>k_is);(case y43=>k_is);(case z43=>k_is))
  (case A7=>k_is)
  (case Ew=>k_is)
  (case Bb=>refine' L2.fun_mk ?x46 ?y46 ?z46;(case x46=>k_is);(case y46=>k_is);(case z46=>k_is))
  (case Aq=>k_is)
  (case Cf=>k_is)
  (case AM=>refine' L2.fun_mk ?x49 ?y49 ?z49;(case x49=>k_is);(case y49=>k_is);(case z49=>k_is))
  (case AG=>k_is)
  (case Dx=>k_is)
  (case AL=>refine' L2.fun_mk ?x52 ?y52 ?z52;(case x52=>k_is);(case y52=>k_is);(case z52=>k_is))
  (case A6=>k_is)
  (case Ev=>k_is)
  (case Ba=>refine' L2.fun_mk ?x55 ?y55 ?z55;(case x55=>k_is);(case y55=>k_is);(case z55=>k_is))
  (case BT=>k_is)
  (case Cy=>refine' L2.fun_mk ?x57 ?y57 ?z57;(case x57=>k_is);(case y57=>k_is);(case z57=>k_is))
  (case Ap=>k_is)
  (case Ce=>k_is)
  (case AK=>refine' L2.fun_mk ?x60 ?y60 ?z60;(case x60=>k_is);(case y60=>k_is);(case z60=>k_is))
  (case AF=>k_is)
  (case Dw=>k_is)
  (case AJ=>refine' L2.fun_mk ?x63 ?y63 ?z63;(case x63=>k_is);(case y63=>k_is);(case z63=>k_is))
  (case A5=>k_is)
  (case Eu=>k_is)
  (case A9=>refine' L2.fun_mk ?x66 ?y66 ?z66;(case x66=>k_is);(case y66=>k_is);(case z66=>k_is))
  (case Bz=>k_is)
  (case B5=>refine' L2.fun_mk ?x68 ?y68 ?z68;(case x68=>k_is);(case y68=>k_is);(case z68=>k_is))
  (case By=>k_is)
  (case B4=>refine' L2.fun_mk ?x70 ?y70 ?z70;(case x70=>k_is);(case y70=>k_is);(case z70=>k_is))
  (case Dq=>k_is)
  (case DP=>refine' L2.fun_mk ?x72 ?y72 ?z72;(case x72=>k_is);(case y72=>k_is);(case z72=>k_is))
  (case AE=>k_is)
  (case Dv=>k_is)
  (case AI=>refine' L2.fun_mk ?x75 ?y75 ?z75;(case x75=>k_is);(case y75=>k_is);(case z75=>k_is))
  (case Av=>k_is)
  (case CY=>k_is)
  (case Ax=>refine' L2.fun_mk ?x78 ?y78 ?z78;(case x78=>k_is);(case y78=>k_is);(case z78=>k_is))
  (case AB=>k_is)
  (case C3=>k_is)
  (case AY=>refine' L2.fun_mk ?x81 ?y81 ?z81;(case x81=>k_is);(case y81=>k_is);(case z81=>k_is))
  (case Bo=>k_is)
  (case EX=>k_is)
  (case Bp=>refine' L2.fun_mk ?x84 ?y84 ?z84;(case x84=>k_is);(case y84=>k_is);(case z84=>k_is))
  (case Cv=>k_is)
  (case GS=>k_is)
  (case CK=>refine' L2.fun_mk ?x87 ?y87 ?z87;(case x87=>k_is);(case y87=>k_is);(case z87=>k_is))
  (case B1=>k_is)
  (case F3=>k_is)
  (case B2=>refine' L2.fun_mk ?x90 ?y90 ?z90;(case x90=>k_is);(case y90=>k_is);(case z90=>k_is))
  (case Az=>k_is)
  (case C5=>k_is)
  (case AA=>refine' L2.fun_mk ?x93 ?y93 ?z93;(case x93=>k_is);(case y93=>k_is);(case z93=>k_is))
  (case AR=>k_is)
  (case DG=>k_is)
  (case AS=>refine' L2.fun_mk ?x96 ?y96 ?z96;(case x96=>k_is);(case y96=>k_is);(case z96=>k_is))
  (case Aw=>k_is)
  (case CZ=>k_is)
  (case Ay=>refine' L2.fun_mk ?x99 ?y99 ?z99;(case x99=>k_is);(case y99=>k_is);(case z99=>k_is))
  (case A4=>k_is)
  (case Et=>k_is)
  (case A8=>refine' L2.fun_mk ?x102 ?y102 ?z102;(case x102=>k_is);(case y102=>k_is);(case z102=>k_is))
  (case Dt=>k_is)
  (case IO=>k_is)
  (case Du=>refine' L2.fun_mk ?x105 ?y105 ?z105;(case x105=>k_is);(case y105=>k_is);(case z105=>k_is))
  (case Bl=>k_is)
  (case BE=>refine' L2.fun_mk ?x107 ?y107 ?z107;(case x107=>k_is);(case y107=>k_is);(case z107=>k_is))
  (case Dr=>k_is)
  (case DQ=>refine' L2.fun_mk ?x109 ?y109 ?z109;(case x109=>k_is);(case y109=>k_is);(case z109=>k_is))
  (case Co=>k_is)
  (case C7=>refine' L2.fun_mk ?x111 ?y111 ?z111;(case x111=>k_is);(case y111=>k_is);(case z111=>k_is))
  (case Ds=>k_is)
  (case DR=>refine' L2.fun_mk ?x113 ?y113 ?z113;(case x113=>k_is);(case y113=>k_is);(case z113=>k_is))
  (case Jw=>k_is)
  (case KO=>refine' L2.fun_mk ?x115 ?y115 ?z115;(case x115=>k_is);(case y115=>k_is);(case z115=>k_is))
  (case BZ=>k_is)
  (case CI=>refine' L2.fun_mk ?x117 ?y117 ?z117;(case x117=>k_is);(case y117=>k_is);(case z117=>k_is))
  (case BB=>k_is)
  (case B7=>refine' L2.fun_mk ?x119 ?y119 ?z119;(case x119=>k_is);(case y119=>k_is);(case z119=>k_is))
  (case Ct=>k_is)
  (case Dc=>refine' L2.fun_mk ?x121 ?y121 ?z121;(case x121=>k_is);(case y121=>k_is);(case z121=>k_is))
  (case AD=>k_is)
  (case AT=>refine' L2.fun_mk ?x123 ?y123 ?z123;(case x123=>k_is);(case y123=>k_is);(case z123=>k_is))
  (case A1=>k_is)
  (case Bt=>refine' L2.fun_mk ?x125 ?y125 ?z125;(case x125=>k_is);(case y125=>k_is);(case z125=>k_is))
  (case Bn=>k_is)
  (case BG=>refine' L2.fun_mk ?x127 ?y127 ?z127;(case x127=>k_is);(case y127=>k_is);(case z127=>k_is))
  (case A2=>k_is)
  (case Bu=>refine' L2.fun_mk ?x129 ?y129 ?z129;(case x129=>k_is);(case y129=>k_is);(case z129=>k_is))
  (case HW=>k_is)
  (case JA=>refine' L2.fun_mk ?x131 ?y131 ?z131;(case x131=>k_is);(case y131=>k_is);(case z131=>k_is))
  (case z_ValueError=>k_is)
  (case z_all=>k_is)
  (case z_bool=>k_is)
  (case z_dict=>k_is)
  (case z_enumerate=>k_is)
  (case z_int=>k_is)
  (case z_isinstance=>k_is)
  (case z_len=>k_is)
  (case z_list=>k_is)
  (case z_max=>k_is)
  (case z_min=>k_is)
  (case z_range=>k_is)
  (case z_sorted=>k_is)
  (case z_tuple=>k_is)
  (case g_MOST_TOKENS=>k_is)
  (case ID=>k_is)
  (case IT=>k_is)
  (case IA=>k_is)
  (case Iq=>k_is)
  (case IC=>k_is)
  (case IS=>k_is)
  (case Iz=>k_is)
  (case Ip=>k_is)
  (case IB=>k_is)
  (case IR=>k_is)
  (case Iy=>k_is)
  (case Io=>k_is)
  (case Ln=>k_is)
  (case LE=>k_is)
  (case Ll=>k_is)
  (case Lk=>k_is)
  (case IK=>k_is)
  (case IN=>k_is)
  (case IJ=>k_is)
  (case IM=>k_is)
  (case II=>k_is)
  (case IL=>k_is)
  (case Lw=>k_is)
  (case Lz=>k_is)
  (case nf_Halves_tokens=>k_is)
  (case nf_Nearer_past=>k_is)
  (case nf_Trip_book=>k_is)
  (case nf_Trip_letters=>k_is)
  (case nf_Trip_holders=>k_is)
  (case nf_Trip_arrivals=>k_is)
  (case nf_Trip_passed=>k_is)
  (case nf_Trip_reached=>k_is)
  (case nf_Trip_deeds=>k_is)
  (case Im=>kernel_rfl)
  (case E9=>kernel_rfl)
  (case FL=>kernel_rfl)
  (case FK=>kernel_rfl)
  (case FJ=>kernel_rfl)
  (case JM=>kernel_rfl)
  (case Il=>kernel_rfl)
  (case Ik=>kernel_rfl)
  (case Ij=>kernel_rfl)
  (case IG=>kernel_rfl)
  (case IF=>kernel_rfl)
  (case IE=>kernel_rfl)
  (case ff_f_d4=>kernel_rfl)
  (case ff_f_d6=>kernel_rfl)
  (case ff_f_d7=>kernel_rfl)
  (case ff_f_na=>kernel_rfl)
  (case ff_f_nh=>kernel_rfl)
  (case ff_f_nn=>kernel_rfl)
  (case ff_f_em=>kernel_rfl)
  (case ff_f_rv=>kernel_rfl)
  (case ff_f_nr=>kernel_rfl)
  (case ff_f_a1=>kernel_rfl)
  (case ff_f_a2=>kernel_rfl)
  (case ff_f_b1=>kernel_rfl)
  (case ff_f_b2=>kernel_rfl)

