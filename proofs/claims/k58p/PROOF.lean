import PyProof.Rows.All
import Wide.All
import OpenK.AllK
import Wide.FinOn
import Lean
import PyProof.EqAt
import PyProof.EqKinds
import PyProof.TupleCall
import KE.KDictOf
import PyProof.AttrMissHeap
import PyProof.SetRoads
import PyProof.SetNew
import PyProof.TupleKey
import PyProof.InstEq
import PySem.SetOps
import KE.KTryMore
import PyProof.NsDelKeeps
import KE.KIsAll
import KE.KItemsList
import KE.KSortTup
import KE.KDictSum
import KE.KLam
import KE.KNestM
import KE.KSortTup
import PySem.Challenge.RW_satchelmeet_k58_whole_letters_one_by_one
open List renaming length_map → zA,getElem?_eq_some_iff → zB,getElem?_map → zC,mem_of_getElem? → zD,getElem?_eq_getElem → zE,mem_singleton → zI,mem_map → zM,map_append → zN,size_toArray → zQ,mem_cons → zR,mem_append_right → zS,length_append → zT,mem_append → zW,map_map → zX,length_replicate → zY,getElem?_set → zZ,append_nil → za,length_cons → zg,getElem_mem → zh,filterMap_cons → zi,map_cons → zj,mem_range → zn,mem_cons_of_mem → zo,getElem?_eq_none → zp,pairwise_singleton → zt,length_range → zv,map_set → zw,filterMap_append → zy,mem_filterMap → z4,getElem?_append_right → z6,length_set → z8,getElem_map → yC,pairwise_iff_getElem → yD,map_congr_left → yF,pairwise_append → yQ,getElem?_replicate → yR,nodup_cons → yT,find?_cons → yU,replicate_succ → yV,getElem?_set_self → yW,length_take → yY,lookup_cons → yZ,mem_cons_self → yb,length_nil → yd,mem_append_left → ye,ext_getElem? → yg,take_length → yj,lookup → yk,map_replicate → yn,range_succ → yt,any_cons → yw,mem_filter → xA,map_nil → xD
open Int renaming toNat_natCast → zF,eq_ofNat_of_zero_le → zO,le_refl → yL,emod_lt_of_pos → yc,emod_nonneg → yr,zero_add → xE
open Bool renaming false_ne_true → zG,and_eq_true → zk,false_and → yP,true_and → yh,eq_iff_iff → yo
open PySem.W renaming keepIn → zH,findIn → zK,nsIn → zL,mg_of → zP,isFn → zc,mg_none_of → zd,kia_one → zx,plainGet → yA,hasDictIn → yG,emptyDict → yH,kitOne → yN,instObj → yO,plainOver → yf,exmAny → yi,makesIn → yp,mroIn → yu,specialIn → yx,takesIn → xB,fnOf → xC
open Nat renaming le_refl → zJ,ne_of_lt → zU,lt_of_lt_of_le → zV,zero_le → zb,lt_irrefl → ze,le_trans → zq,lt_succ_self → yB,le_succ → yl,not_lt_zero → yq,le_of_lt → yy,ne_of_gt → yz
open Option renaming isSome_iff_exists → zf,isSome_map → yI,map_some → yS,getD → ym
open PyProof.Rows renaming boot_isinstance → zm,boot_tuple → zu,boot_list → yX
open PySem renaming mem_of_lookup → yE
open PySem.F renaming slot_list_append → yJ,type_list_append → yK,plainAttrs_list → yM
set_option Elab.async false
set_option linter.all false
set_option maxRecDepth 100000
namespace L2
open PySem PySem.Spec PyProof.Rows
abbrev Key:=Sum Int Str
def keyIs:Key->Value->Bool
 | .inl k,v=>Value.isInt k v
 | .inr x,v=>Value.isStrOf x v
def keyH (w:World):Key->Int
 | .inl k=>hashInt k
 | .inr x=>hashStr w x
theorem xl:∀ {k:Key}{v:Value},keyIs k v=true->(∃ i t,k=Sum.inl i/\v=Value.int i t)\/(∃ x t,k=Sum.inr x/\v=Value.str x t)
 | .inl i,v,h=>by
  obtain ⟨t,e⟩:=Value.isInt_shape (k:=i) (v:=v) h
  exact .inl ⟨i,t,rfl,e⟩
 | .inr x,v,h=>by
  obtain ⟨t,e⟩:=Value.isStrOf_shape (x:=x) (v:=v) h
  exact .inr ⟨x,t,rfl,e⟩
theorem keyIs_int (i:Int) (t:Tok):keyIs (.inl i) (.int i t)=true:=by simp [keyIs,Value.isInt]
theorem keyIs_str (x:Str) (t:Tok):keyIs (.inr x) (.str x t)=true:=by simp [keyIs,Value.isStrOf]
theorem key_ll (a b:Int):decide ((Sum.inl a:Key)=Sum.inl b)=(a == b):=by
 by_cases e:a=b
 ·subst e;simp
 ·have h:¬ (Sum.inl a:Key)=Sum.inl b:=fun q=>e (Sum.inl.inj q)
  rw [decide_eq_false h]
  exact (beq_eq_false_iff_ne.mpr e).symm
theorem key_rr (a b:Str):decide ((Sum.inr a:Key)=Sum.inr b)=decide (a=b):=by
 by_cases e:a=b
 ·subst e;simp
 ·have h:¬ (Sum.inr a:Key)=Sum.inr b:=fun q=>e (Sum.inr.inj q)
  rw [decide_eq_false h,decide_eq_false e]
theorem key_lr (a:Int) (b:Str):decide ((Sum.inl a:Key)=Sum.inr b)=false:=decide_eq_false (fun q=>nomatch q)
theorem key_rl (a:Str) (b:Int):decide ((Sum.inr a:Key)=Sum.inl b)=false:=decide_eq_false (fun q=>nomatch q)
def mixKind (prog:Program) (w:World):PySem.KeyKind prog w Key where
 is:=keyIs
 hash:=keyH w
 inj:=fun v a b ha hb=>by
  rcases xl ha with ⟨i,t,rfl,rfl⟩ | ⟨x,t,rfl,rfl⟩
  ·rcases xl hb with ⟨j,u,rfl,e⟩ | ⟨y,u,rfl,e⟩
   ·injection e with e1 _;rw [e1]
   ·exact nomatch e
  ·rcases xl hb with ⟨j,u,rfl,e⟩ | ⟨y,u,rfl,e⟩
   ·exact nomatch e
   ·injection e with e1 _;rw [e1]
 byValue:=fun k v h=>by
  rcases xl h with ⟨i,t,rfl,rfl⟩ | ⟨x,t,rfl,rfl⟩ <;> rfl
 pyHash:=fun hv h=>by
  rcases xl hv with ⟨i,t,rfl,rfl⟩ | ⟨x,t,rfl,rfl⟩
  ·exact wpAny_pyHash_int h
  ·exact wpAny_pyHash_str h
 eqBool:=fun hu hv h=>by
  rcases xl hu with ⟨i,t,rfl,rfl⟩ | ⟨x,t,rfl,rfl⟩
  ·rcases xl hv with ⟨j,u,rfl,rfl⟩ | ⟨y,u,rfl,rfl⟩
   ·rw [key_ll] at h;exact wpAny_eqBool_int h
   ·rw [key_lr] at h;exact SeqAt.EqAt.int_str i t y u _ _ _ _ h
  ·rcases xl hv with ⟨j,u,rfl,rfl⟩ | ⟨y,u,rfl,rfl⟩
   ·rw [key_rl] at h;exact SeqAt.EqAt.str_int x t j u _ _ _ _ h
   ·rw [key_rr] at h;exact wpAny_eqBool_str h
 «strs»:=fun k x t v h=>by
  rcases xl h with ⟨i,u,rfl,e⟩ | ⟨y,u,rfl,e⟩
  ·exact nomatch e
  ·injection e with e1 _
   subst e1
   cases v <;> rfl
theorem mixKind_int (prog:Program) (w:World) (i:Int) (t:Tok):(mixKind prog w).is (.inl i) (.int i t)=true:=keyIs_int i t
theorem mixKind_str (prog:Program) (w:World) (x:Str) (t:Tok):(mixKind prog w).is (.inr x) (.str x t)=true:=keyIs_str x t
end L2
namespace L2
open PySem PySem.Spec PyProof.Rows
inductive V where
 | non | bl (b:Bool) | int (i:Int) | str (x:Str) | byt (b:Array UInt8) | flt (b:UInt64) | ref (a:Addr) | ty (n:String)
 deriving DecidableEq
def RelV:V->Value->Prop
 | .non,u=>u=Value.none
 | .bl b,u=>u=Value.bool b
 | .int i,u=>∃ t,u=Value.int i t
 | .str x,u=>∃ t,u=Value.str x t
 | .byt b,u=>∃ t,u=Value.bytes b t
 | .flt b,u=>∃ t,u=Value.float b t
 | .ref a,u=>u=Value.ref a
 | .ty n,u=>u=Value.type n
abbrev Vals:List V->List Value->Prop:=Paired RelV
theorem Vals.length {xs:List V}{us:List Value} (r:Vals xs us):xs.length=us.length:=Paired.length r
theorem Vals.get:∀ {xs:List V}{us:List Value}{i:Nat}{x:V},Vals xs us->xs[i]?=some x->∃ u,us[i]?=some u/\RelV x u
 | _,_,_,_,.nil,e=>by simp at e
 | _,_,0,_,.cons r _,e=>by simp at e;subst e;exact ⟨_,rfl,r⟩
 | _,_,i + 1,x,.cons _ t,e=>by
  obtain ⟨u,h1,h2⟩:=Vals.get (i:=i) (x:=x) t (by simpa using e)
  exact ⟨u,by simpa using h1,h2⟩
theorem Vals.set {x:V}{u:Value} (r:RelV x u):∀ {xs:List V}{us:List Value} (i:Nat),Vals xs us->Vals (xs.set i x) (us.set i u)
 | _,_,_,.nil=>.nil
 | _,_,0,.cons _ t=>.cons r t
 | _,_,i + 1,.cons q t=>.cons q (Vals.set r i t)
theorem Vals.append:∀ {xs ys:List V}{us ws:List Value},Vals xs us->Vals ys ws->Vals (xs ++ ys) (us ++ ws)
 | _,_,_,_,.nil,s=>s
 | _,_,_,_,.cons r t,s=>.cons r (Vals.append t s)
theorem Vals.take:∀ {xs:List V}{us:List Value} (n:Nat),Vals xs us->Vals (xs.take n) (us.take n)
 | _,_,0,_=>.nil
 | _,_,_ + 1,.nil=>.nil
 | _,_,n + 1,.cons r t=>.cons r (Vals.take n t)
theorem Vals.drop:∀ {xs:List V}{us:List Value} (n:Nat),Vals xs us->Vals (xs.drop n) (us.drop n)
 | _,_,0,r=>r
 | _,_,_ + 1,.nil=>.nil
 | _,_,n + 1,.cons _ t=>Vals.drop n t
def RelO:Option V->Option Value->Prop
 | some v,some u=>RelV v u
 | none,none=>True
 | _,_=>False
def KV {κ:Type}:List (κ × V)->List (κ × Value)->Prop:=Paired fun (p:κ × V) (q:κ × Value)=>p.1=q.1/\RelV p.2 q.2
def kV:Key->V
 | .inl i=>.int i
 | .inr x=>.str x
inductive HO where
  | lst (xs:List V)
  | tup (xs:List V)
  | dK (kvs:List (Key × V)) | dT (kvs:List (List Key × V))
  | set (S:Int->Bool) (n:Nat)
  | ins (C dx:Addr) (fs:List (Str × V))
  | own (x:Addr)
  | xd (fs:List (Str × V))
  | met (f x:Addr)
  | rng (lo hi:Int)
  | frz (o:Obj) (u:HO)
  | tbl (ps:Array Value)
  | ext (φ:Heap->Prop)
abbrev Hp:=Addr->Option HO
def upd (H:Hp) (a:Addr) (o:HO):Hp:=fun b=>if b=a then some o else H b
theorem xH {H:Hp}{a:Addr}{o:HO}:upd H a o a=some o:=by unfold upd;rw [if_pos rfl]
theorem xN {H:Hp}{a b:Addr}{o:HO} (h:b ≠ a):upd H a o b=H b:=by unfold upd;rw [if_neg h]
theorem upd_upd {H:Hp}{a:Addr}{o u:HO}:upd (upd H a o) a u=upd H a u:=by
 funext b;unfold upd;split <;> rfl
theorem wK {H:Hp}{a b:Addr}{o u:HO} (h:H a=some o) (h':H b=some u) (d:o ≠ u):a ≠ b:=by
 intro e;subst e;rw [h] at h';exact d (Option.some.inj h')
theorem xJ {H:Hp}{a b:Addr}{o:HO} (h:H a=some o) (h':H b=none):a ≠ b:=by
 intro e;subst e;rw [h] at h';cases h'
section
variable (P:Program) (w:World)
def ObjOk (H:Hp) (h:Heap) (a:Addr):HO->Prop
 | .lst xs=>xs.length<=sizeLine/\∃ (its:List Value) (n:Nat),Vals xs its/\h.get? a=some { cls:=.type "list", data:=.seq its.toArray n }
 | .tup xs=>xs.length<=sizeLine/\∃ its:List Value,Vals xs its/\IsTup h a its.toArray
 | .dK kvs=>kvs.length<=sizeLine/\(a == sysModules)=false/\∃ vs,KV kvs vs/\h.DictOf (mixKind P w) a vs
 | .dT kvs=>kvs.length<=sizeLine/\(a == sysModules)=false/\∃ xs:List (List Key × Addr × Value),
   Paired (fun (p:List Key × V) (q:List Key × Addr × Value)=>p.1=q.1/\H q.2.1=some (.tup (p.1.map kV))/\RelV p.2 q.2.2) kvs xs /\
   ∃ o es ep,h.get? a=some o/\o.ExactDict/\o.data=.dict es ep/\es.toList=xs.map (entryOfKey (tupleKind (mixKind P w)))/\(xs.map (·.1)).Nodup
 | .set S n=>h.SetOf (intKind P w) a S n
 | .ins C dx fs=>H dx=some (.own a)/\fs.length<=1000/\dx ≠ a/\h.get? a=some (yO C dx) /\
   ∃ mA,h.Ns1 dx mA/\(∀ f,RelO (fs.lookup f) (mA f))/\PySem.Within mA (fs.map (·.1))
 | .own _=>∃ o,h.get? a=some o
 | .xd fs=>∃ mA,h.Ns1 a mA/\∀ f,RelO (fs.lookup f) (mA f)
 | .rng lo hi=>∃ t u v,h.get? a=some { cls:=.type "range", data:=.fields #[.int lo t,.int hi u,.int 1 v] }
 | .frz o u=>h.get? a=some o/\ObjOk H h a u
 | .tbl ps=>h.get? a=some { cls:=.none,data:=.fields ps }
 | .met f x=>h.get? a=some (PySem.W.methodObj (.ref f) (.ref x))
 | .ext φ=>φ h/\(∃ o,h.get? a=some o)/\∀ h1 h2:Heap,φ h1->(∀ o,h1.get? a=some o->h2.get? a=some o)->φ h2
def HOk (H:Hp) (h:Heap):Prop:=∀ a o,H a=some o->ObjOk P w H h a o
end
section
variable {P:Program}{w:World}{H H':Hp}{h h':Heap}{a:Addr}{o:HO}
theorem ObjOk.lt (x:ObjOk P w H h a o):a < h.objs.size:=by
 cases o with
 | lst xs=>obtain ⟨_,_,_,_,e⟩:=x;exact Heap.lt_size e
 | tup xs=>obtain ⟨_,_,_,p⟩:=x;exact p.lt
 | dK kvs=>obtain ⟨_,_,_,_,o,_,_,e,_⟩:=x;exact Heap.lt_size e
 | dT kvs=>obtain ⟨_,_,_,_,o,_,_,e,_⟩:=x;exact Heap.lt_size e
 | set S n=>obtain ⟨o,_,_,_,e,_⟩:=x;exact Heap.lt_size e
 | ins C dx fs=>obtain ⟨_,_,_,e,_⟩:=x;exact Heap.lt_size e
 | own y=>obtain ⟨_,e⟩:=x;exact Heap.lt_size e
 | xd fs=>obtain ⟨_,⟨_,_,_,e,_⟩,_⟩:=x;exact Heap.lt_size e
 | rng lo hi=>obtain ⟨_,_,_,e⟩:=x;exact Heap.lt_size e
 | frz ob u=>obtain ⟨e,_⟩:=x;exact Heap.lt_size e
 | tbl ps=>exact Heap.lt_size (show h.get? a=some _ from x)
 | met f y=>exact Heap.lt_size (show h.get? a=some _ from x)
 | ext φ=>obtain ⟨_,⟨_,e⟩,_⟩:=x;exact Heap.lt_size e
theorem Paired.mapP {α β:Type}{F G:α->β->Prop}:∀ {l₁:List α}{l₂:List β},Paired F l₁ l₂->(∀ a b,F a b->G a b)->Paired G l₁ l₂
 | _,_,.nil,_=>.nil
 | _,_,.cons r t,f=>.cons (f _ _ r) (Paired.mapP t f)
theorem ObjOk.stay (x:ObjOk P w H h a o) (k:∀ b u,(b=a\/H b=some (.own a))->h.get? b=some u->h'.get? b=some u)
  (ho:∀ b,H b=some (.own a)->H' b=some (.own a)) (ht:∀ b xs,H b=some (.tup xs)->H' b=some (.tup xs)):ObjOk P w H' h' a o:=by
 induction o with
 | lst xs=>obtain ⟨z,its,n,r,e⟩:=x;exact ⟨z,its,n,r,k _ _ (.inl rfl) e⟩
 | tup xs=>obtain ⟨z,its,r,ob,e,c⟩:=x;exact ⟨z,its,r,ob,k _ _ (.inl rfl) e,c⟩
 | dK kvs=>obtain ⟨z,y,vs,r,ob,es,ep,e,c⟩:=x;exact ⟨z,y,vs,r,ob,es,ep,k _ _ (.inl rfl) e,c⟩
 | dT kvs=>
  obtain ⟨z,y,xs,r,ob,es,ep,e,c⟩:=x
  exact ⟨z,y,xs,Paired.mapP r fun p q z=>⟨z.1,ht _ _ z.2.1,z.2.2⟩,ob,es,ep,k _ _ (.inl rfl) e,c⟩
 | set S n=>obtain ⟨ob,es,ep,t,e,c⟩:=x;exact ⟨ob,es,ep,t,k _ _ (.inl rfl) e,c⟩
 | ins C dx fs=>
  obtain ⟨d,z,ne,e,mA,⟨od,es,ep,e2,c⟩,r⟩:=x
  exact ⟨ho _ d,z,ne,k _ _ (.inl rfl) e,mA,⟨od,es,ep,k _ _ (.inr d) e2,c⟩,r⟩
 | own y=>obtain ⟨ob,e⟩:=x;exact ⟨ob,k _ _ (.inl rfl) e⟩
 | xd fs=>obtain ⟨mA,⟨od,es,ep,e,c⟩,r⟩:=x;exact ⟨mA,⟨od,es,ep,k _ _ (.inl rfl) e,c⟩,r⟩
 | rng lo hi=>obtain ⟨t,u,v,e⟩:=x;exact ⟨t,u,v,k _ _ (.inl rfl) e⟩
 | frz ob u ih=>obtain ⟨e,q⟩:=x;exact ⟨k _ _ (.inl rfl) e,ih q⟩
 | tbl ps=>
  have e:h.get? a=some { cls:=.none,data:=.fields ps }:=x
  show h'.get? a=some { cls:=.none,data:=.fields ps }
  exact k a _ (.inl rfl) e
 | met f y=>
  have e:h.get? a=some (PySem.W.methodObj (.ref f) (.ref y)):=x
  show h'.get? a=some (PySem.W.methodObj (.ref f) (.ref y))
  exact k a _ (.inl rfl) e
 | ext φ=>obtain ⟨p,⟨o,e⟩,st⟩:=x;exact ⟨st _ _ p fun o q=>k _ _ (.inl rfl) q,⟨o,k _ _ (.inl rfl) e⟩,st⟩
theorem HOk.lt (x:HOk P w H h) (e:H a=some o):a < h.objs.size:=(x a o e).lt
theorem HOk.fresh (x:HOk P w H h) (e:h.objs.size<=a):H a=none:=by
 cases q:H a with
 | none=>rfl
 | some u=>exact absurd (zV (x.lt q) e) (ze _)
theorem HOk.kept (x:HOk P w H h) (k:∀ b u,h.get? b=some u->h'.get? b=some u):HOk P w H h':=fun a o e=>
 (x a o e).stay (fun b u _ q=>k b u q) (fun _ q=>q) fun _ _ q=>q
theorem HOk.laid (x:HOk P w H h) (k:∀ b u,h.get? b=some u->h'.get? b=some u) (hp:h.objs.size<=a) (new:ObjOk P w (upd H a o) h' a o):HOk P w (upd H a o) h':=fun b u e=>by
 have hn:=x.fresh hp
 by_cases hb:b=a
 ·subst hb;rw [xH] at e;cases e;exact new
 ·rw [xN hb] at e
  exact (x b u e).stay (fun c v _ q=>k c v q) (fun c q=>by rw [xN (xJ q hn)];exact q) fun c xs q=>by rw [xN (xJ q hn)];exact q
end
def Rd (H:Hp) (a:Addr) (u:HO):Prop:=H a=some u\/∃ o,H a=some (.frz o u)
theorem Rd.ok {P:Program}{w:World}{H:Hp}{h:Heap}{a:Addr}{u:HO} (r:Rd H a u) (x:HOk P w H h):ObjOk P w H h a u:=by
 rcases r with r | ⟨o,r⟩
 ·exact x a u r
 ·obtain ⟨_,q⟩:=x a _ r
  exact q
def Mut:Option HO->Prop
 | some (.lst _)=>True
 | some (.dK _)=>True
 | some (.dT _)=>True
 | some (.set _ _)=>True
 | some (.ins _ _ _)=>True
 | some (.ext _)=>True
 | _=>False
section
variable {P:Program}{w:World}{H:Hp}{h h':Heap}{x e:Addr}{o':HO}
theorem HOk.write (ok:HOk P w H h) (mu:Mut (H x)) (he:e=x\/H e=some (.own x)) (k:∀ b u,b ≠ e->h.get? b=some u->h'.get? b=some u) (heo:∃ u,h'.get? e=some u)
  (new:ObjOk P w (upd H x o') h' x o'):HOk P w (upd H x o') h':=fun b u q=>by
 have nown:∀ c y,H c=some (.own y)->c ≠ x:=fun c y r z=>by subst z;rw [r] at mu;exact mu
 have ntup:∀ c xs,H c=some (.tup xs)->c ≠ x:=fun c xs r z=>by subst z;rw [r] at mu;exact mu
 by_cases hb:b=x
 ·subst hb;rw [xH] at q;cases q;exact new
 ·rw [xN hb] at q
  by_cases hbe:b=e
  ·have q':H b=some (.own x):=by
    rcases he with z | z
    ·exact absurd (hbe.trans z) hb
    ·rw [hbe];exact z
   rw [q] at q';cases q'
   obtain ⟨v,hv⟩:=heo
   exact ⟨v,by rw [hbe];exact hv⟩
  ·refine (ok b u q).stay (fun c v hc r=>k c v ?_ r) (fun c r=>by rw [xN (nown c b r)];exact r) fun c xs r=>by rw [xN (ntup c xs r)];exact r
   rcases hc with rfl | hc
   ·exact hbe
   ·rintro rfl
    rcases he with z | z
    ·exact nown c b hc z
    ·rw [hc] at z;cases z;exact hb rfl
end
structure Un (fs ex:List Addr) (H H':Hp) (h h':Heap):Prop where
 keep:∀ b o,h.get? b=some o->H b=none->b ∉ fs->b ∉ ex->h'.get? b=some o
 slot:∀ b o,h.get? b=some o->H b=none->b ∈ fs->b ∉ ex->∃ sl,h'.get? b=some { o with slots:=sl }
 free:∀ b o,h.get? b=some o->H b=none->b ∉ ex->H' b=none
 there:∀ b o,h.get? b=some o->b ∉ ex->∃ o',h'.get? b=some o'
 tups:∀ b xs,H b=some (.tup xs)->H' b=some (.tup xs)
 frzs:∀ b o u,H b=some (.frz o u)->H' b=some (.frz o u)
 tbls:∀ b ps,H b=some (.tbl ps)->∃ more,H' b=some (.tbl (ps ++ more))
section
variable {fs fs' ex ex':List Addr} {H H1 H2:Hp} {h h1 h2 h':Heap}{a x e:Addr}{o:HO}
theorem Un.any (u:Un fs ex H H1 h h1) {b:Addr}{ob:Obj} (q:h.get? b=some ob) (n:H b=none) (hx:b ∉ ex):∃ sl,h1.get? b=some { ob with slots:=sl }:=by
 by_cases hb:b ∈ fs
 ·exact u.slot b ob q n hb hx
 ·exact ⟨ob.slots,u.keep b ob q n hb hx⟩
theorem Un.kept (k:∀ b u,h.get? b=some u->h'.get? b=some u):Un fs ex H H h h':=
 ⟨fun b ob q _ _ _=>k b ob q,fun b ob q _ _ _=>⟨ob.slots,k b ob q⟩,fun _ _ _ n _=>n,fun b ob q _=>⟨ob,k b ob q⟩,fun _ _ q=>q,fun _ _ _ q=>q,fun _ ps q=>⟨#[],by rw [q];simp⟩⟩
theorem Un.refl:Un fs ex H H h h:=Un.kept fun _ _ q=>q
theorem Un.laid (k:∀ b u,h.get? b=some u->h'.get? b=some u) (hp:h.objs.size<=a) (hn:H a=none):Un fs ex H (upd H a o) h h' where
 keep:=fun b u q _ _ _=>k b u q
 slot:=fun b u q _ _ _=>⟨u.slots,k b u q⟩
 free:=fun b u q n _=>by rw [xN (zU (zV (Heap.lt_size q) hp))];exact n
 there:=fun b u q _=>⟨u,k b u q⟩
 tups:=fun b xs q=>by rw [xN (xJ q hn)];exact q
 frzs:=fun b u xs q=>by rw [xN (xJ q hn)];exact q
 tbls:=fun b ps q=>⟨#[],by rw [xN (xJ q hn),q];simp⟩
theorem Un.write (mu:Mut (H x)) (he:e=x\/H e=some (.own x)) (k:∀ b u,b ≠ e->h.get? b=some u->h'.get? b=some u) (heo:∃ u,h'.get? e=some u):Un fs ex H (upd H x o) h h':=by
 have hx:∀ b,H b=none->b ≠ x:=fun b n z=>by subst z;rw [n] at mu;exact mu
 have hb:∀ b,H b=none->b ≠ e:=fun b n z=>by
  subst z
  rcases he with r | r
  ·exact hx b n r
  ·rw [n] at r;cases r
 have hm:∀ b u,H b=some u->¬ Mut (some u)->b ≠ x:=fun b u q nm z=>by subst z;rw [q] at mu;exact nm mu
 refine ⟨fun b u q n _ _=>k b u (hb b n) q,fun b u q n _ _=>⟨u.slots,k b u (hb b n) q⟩,fun b u q n _=>by rw [xN (hx b n)];exact n,fun b u q _=>?_,
  fun b xs q=>by rw [xN (hm b _ q fun z=>z)];exact q,fun b u xs q=>by rw [xN (hm b _ q fun z=>z)];exact q,fun b ps q=>⟨#[],by rw [xN (hm b _ q fun z=>z),q];simp⟩⟩
 by_cases hbe:b=e
 ·subst hbe;exact heo
 ·exact ⟨u,k b u hbe q⟩
end
def trk (h:Heap) (H:Hp):List Addr:=(List.range h.objs.size).filter fun a=>(H a).isSome
def hidT (h:Heap) (H:Hp):Heap:=PySem.W.hideAll h (trk h H)
theorem hidT_size (h:Heap) (H:Hp):(hidT h H).objs.size=h.objs.size:=PySem.W.hideAll_size _ _
theorem hidT_get {h:Heap}{H:Hp}{b:Addr}{o:Obj} (e:h.get? b=some o) (n:H b=none):(hidT h H).get? b=some o:=
 PySem.W.hideAll_get _ e fun hm=>by
  have q:(H b).isSome=true:=(xA.mp hm).2
  rw [n] at q;simp at q
theorem of_hidT {h:Heap}{H:Hp}{b:Addr}{o:Obj} (e:(hidT h H).get? b=some o):h.get? b=some o/\H b=none:=by
 have e':h.get? b=some o:=PySem.W.of_hideAll (trk h H) e
 refine ⟨e',?_⟩
 cases q:H b with
 | none=>rfl
 | some x=>
  have hm:b ∈ trk h H:=xA.mpr ⟨zn.mpr (Heap.lt_size e'),by simp [q]⟩
  have z:(hidT h H).get? b=none:=PySem.W.hideAll_none (trk h H) hm
  rw [z] at e;cases e
def allNews (g h:Heap) (L:Addr):List (Addr × Obj):=(List.range h.objs.size).filterMap fun a=>if a=L\/(g.get? a).isSome=true then none else (h.get? a).map fun o=>(a,o)
theorem mem_allNews {g h:Heap}{L a:Addr}{o:Obj} (h1:a ≠ L) (h2:g.get? a=none) (h3:h.get? a=some o):(a,o) ∈ allNews g h L:=
 z4.mpr ⟨a,zn.mpr (Heap.lt_size h3),by simp [h1,h2,h3]⟩
theorem of_mem_allNews {g h:Heap}{L:Addr}{p:Addr × Obj} (hp:p ∈ allNews g h L):p.1 ≠ L/\g.get? p.1=none/\h.get? p.1=some p.2:=by
 obtain ⟨b,_,e⟩:=z4.mp hp
 split at e
 ·cases e
 ·rename_i hn
  cases q:h.get? b with
  | none=>rw [q] at e;simp at e
  | some u=>
   rw [q] at e
   simp only [yS,Option.some.injEq] at e
   subst e
   refine ⟨fun z=>hn (.inl z),?_,q⟩
   show g.get? b=none
   cases r:g.get? b with
   | none=>rfl
   | some v=>exact (hn (.inr (by simp [r]))).elim
def rest (g h:Heap) (L d:Addr):List (Addr × Obj):=(allNews g h L).filter fun p=>decide (p.1 ≠ d)
theorem rest_ne {g h:Heap}{L d:Addr}:∀ p ∈ rest g h L d,p.1 ≠ d:=fun p hp=>of_decide_eq_true (xA.mp hp).2
theorem mem_rest {g h:Heap}{L d a:Addr}{o:Obj} (h1:a ≠ L) (h2:g.get? a=none) (h3:h.get? a=some o) (h4:a ≠ d):(a,o) ∈ rest g h L d:=
 xA.mpr ⟨mem_allNews h1 h2 h3,decide_eq_true h4⟩
theorem news_all {g h:Heap}{L:Addr}:News g L h (allNews g h L):=fun p hp=>let ⟨a,b,c⟩:=of_mem_allNews hp;⟨c,a,b⟩
theorem news_at {g h:Heap}{L d:Addr}{o:Obj} (h1:d ≠ L) (h2:g.get? d=none) (h3:h.get? d=some o):News g L h ((d,o) :: rest g h L d):=fun p hp=>by
 rcases zR.mp hp with rfl | hp
 ·exact ⟨h3,h1,h2⟩
 ·exact news_all p (xA.mp hp).1
theorem kept_of_news {g h h':Heap}{L d:Addr}{m:Str->Option Value} (k:∀ b o,g.get? b=some o->h.get? b=some o) (F:Fr g L h' m) (N:News g L h' (rest g h L d)) :
  ∀ b o,b ≠ L->b ≠ d->h.get? b=some o->h'.get? b=some o:=fun b o h1 h2 e=>by
 cases q:g.get? b with
 | some u=>
  have:=k b u q
  rw [e] at this;cases this
  exact F.keep b _ q
 | none=>exact (N (b,o) (mem_rest h1 q e h2)).1
end L2
namespace L2
open PySem PySem.Spec PyProof.Rows
structure Mod (K:PySem.W.Frag) (mg:Str->Option Value) (base:Heap):Prop where
 kin:K.In base
 glob:base.Ns mainGlobals mg
 blt:∃ mb,base.Ns builtinsNs mb/\∀ x:Str,x ≠ "__name__" -> mb x=bootBuiltins x
 nolimit:base.NoLimit
structure Cx where
 prog:Program
 w:World
 K:PySem.W.Frag
 mg:Str->Option Value
 base:Heap
 A:Around
 N:List Str
 s₀:Shared
 H₀:Hp
 env:Env
 outer:List Env
 stack:List Env
 ex:List Addr
 fn:Str->Bool
 calm:Bool
 pn:List (Addr × Obj)
 xe:Value->Shared->Prop
def frs (l:List Env):List Addr:=l.filterMap (·.frame)
abbrev Cx.fs (X:Cx):List Addr:=frs X.outer
def Vis (sc:Scope) (x:Str):Prop:=sc.names.lookup x=some .local\/sc.names.lookup x=some .cell\/sc.names.lookup x=some .free
def Loc (sc:Scope) (x:Str):Prop:=sc.names.lookup x=some .local\/sc.names.lookup x=some .cell
def Look (env:Env) (h:Heap) (m:Str->Option Value) (x:Str) (u:Value):Prop:=
 (env.kindOf x=some .local/\m x=some u)\/((env.kindOf x=some .cell\/env.kindOf x=some .free)/\∃ c,env.cells.lookup x=some c/\h.IsCell c (some u))
structure Cx.Ok (X:Cx):Prop where
 mod:Mod X.K X.mg X.base
 kind:X.env.scope.kind=.function
 glob:X.env.globals=mainGlobals
 blt:X.env.builtins=builtinsNs
 above:X.s₀.heap.objs.size<=X.env.locals
 inj:∀ x y c,X.env.cells.lookup x=some c->X.env.cells.lookup y=some c->x=y
 has:∀ x,(X.env.kindOf x=some .cell\/X.env.kindOf x=some .free)->∃ c,X.env.cells.lookup x=some c
 cab:∀ x c,X.fn x=true->X.env.cells.lookup x=some c->X.s₀.heap.objs.size<=c
 hd:X.calm=true->X.A.handled=none
 frames:X.A.frames=some X.stack
 stk:X.stack=X.outer\/(X.stack=X.env :: X.outer/\X.env.frame=some X.env.locals)
 exf:∀ b ∈ X.ex,b ≠ X.env.locals/\∀ x c,X.env.cells.lookup x=some c->c ≠ b
 bs:∀ b o,X.base.get? b=some o->X.s₀.heap.get? b=some o/\X.H₀ b=none
 bsz:X.base.objs.size<=X.s₀.heap.objs.size
 noex:∀ b o,X.base.get? b=some o->b ∉ X.ex
 exfs:∀ b ∈ X.ex,b ∉ X.fs
 funs:X.s₀.heap.FunFrames X.base X.outer
 frf:∀ b ∈ X.fs,X.H₀ b=none
structure Inv (X:Cx) (pins:List (Addr × Obj)) (σ:List (Option V)) (H:Hp) (s:Shared):Prop where
 ok:X.Ok
 os:s.os=X.s₀.os
 bare:AllBare s.gens
 base:Un X.fs X.ex X.H₀ H X.s₀.heap s.heap
 loc:∃ m,s.heap.Ns X.env.locals m/\∀ (i:Nat) (x:Str) (v:V),X.N[i]?=some x->σ[i]?=some (some v)->Vis X.env.scope x->∃ u,RelV v u/\Look X.env s.heap m x u
 cell:∀ x c,X.env.cells.lookup x=some c->∃ v,s.heap.IsCell c v
 free:H X.env.locals=none
 freeC:∀ x c,X.env.cells.lookup x=some c->H c=none
 pin:∀ p ∈ X.pn ++ pins,s.heap.get? p.1=some p.2/\H p.1=none/\p.1 ≠ X.env.locals/\p.1 ∉ X.fs/\∀ v,p.2.data ≠ .cell v
 hok:HOk X.prog X.w H s.heap
 len:σ.length=X.N.length
section
variable {X:Cx}{pins:List (Addr × Obj)}{σ:List (Option V)}{H H':Hp}{s:Shared}{h':Heap}
theorem Cx.Ok.nofr (ok:X.Ok) {b:Addr}{o:Obj} (e:X.base.get? b=some o):b ∉ X.fs:=fun hb=>by
 have:=(ok.funs.mem hb).1
 rw [e] at this;cases this
theorem Inv.bs (I:Inv X pins σ H s):∀ b o,X.base.get? b=some o->s.heap.get? b=some o/\H b=none:=fun b o e=>
 ⟨I.base.keep b o (I.ok.bs b o e).1 (I.ok.bs b o e).2 (I.ok.nofr e) (I.ok.noex b o e),I.base.free b o (I.ok.bs b o e).1 (I.ok.bs b o e).2 (I.ok.noex b o e)⟩
theorem Inv.bk (I:Inv X pins σ H s):∀ b o,X.base.get? b=some o->s.heap.get? b=some o:=fun b o e=>(I.bs b o e).1
theorem Inv.mod (I:Inv X pins σ H s):Mod X.K X.mg X.base:=I.ok.mod
theorem Inv.kIn (I:Inv X pins σ H s):X.K.In s.heap:=I.ok.mod.kin.keeps I.bk
theorem Inv.fr (I:Inv X pins σ H s):∃ m,Fr X.base X.env.locals s.heap m:=
 let ⟨m,hn,_⟩:=I.loc
 ⟨m,hn,I.bk,zq I.ok.bsz I.ok.above⟩
theorem Inv.lt (I:Inv X pins σ H s):X.env.locals < s.heap.objs.size:=let ⟨_,hn,_⟩:=I.loc;hn.lt
theorem Inv.sz (I:Inv X pins σ H s):X.s₀.heap.objs.size<=s.heap.objs.size:=zq I.ok.above (yy I.lt)
theorem Inv.nofs (I:Inv X pins σ H s) {a:Addr} (h:s.heap.objs.size<=a):a ∉ X.fs:=fun hb=>by
 obtain ⟨_,o,ho,_⟩:=I.ok.funs.mem hb
 exact absurd (zV (Heap.lt_size ho) (zq I.sz h)) (ze _)
theorem Inv.cne (I:Inv X pins σ H s):∀ x c,X.env.cells.lookup x=some c->c ≠ X.env.locals:=fun x c e z=>by
 obtain ⟨v,o,ho,hd⟩:=I.cell x c e
 obtain ⟨m,⟨o',es,ep,ho',hd',_⟩,_⟩:=I.loc
 rw [z,ho'] at ho;cases ho;rw [hd'] at hd;cases hd
theorem Inv.funs (I:Inv X pins σ H s):s.heap.FunFrames X.base X.outer:=by
 have all:∀ (l:List Env),(∀ b ∈ frs l,b ∈ X.fs)->X.s₀.heap.FunFrames X.base l->s.heap.FunFrames X.base l:=by
  intro l
  induction l with
  | nil=>intro _ _;trivial
  | cons env r ih=>
   intro hs hl
   obtain ⟨hk,⟨L,o,hf,hn,ho,hd⟩,hr⟩:=hl
   have hL:L ∈ X.fs:=hs L (by unfold frs;rw [zi,hf];exact yb)
   obtain ⟨sl,e⟩:=I.base.slot L o ho (I.ok.frf L hL) hL fun z=>I.ok.exfs L z hL
   exact ⟨hk,⟨L,_,hf,hn,e,hd⟩,ih (fun b hb=>hs b (by unfold frs;rw [zi,hf];exact zo _ hb)) hr⟩
 exact all X.outer (fun _ hb=>hb) I.ok.funs
theorem Inv.stack (I:Inv X pins σ H s):s.heap.FunFrames X.base X.stack:=by
 rcases I.ok.stk with e | ⟨e,hf⟩
 ·rw [e];exact I.funs
 ·rw [e]
  obtain ⟨m,hn,_⟩:=I.loc
  refine .cons (by rw [I.ok.kind];decide) hf hn ?_ I.funs
  exact Heap.get?_none_of_le (zq I.ok.bsz I.ok.above)
theorem Inv.stkSub (I:Inv X pins σ H s):∀ b ∈ frs X.stack,b ∈ X.env.locals :: X.fs:=fun b hb=>by
 rcases I.ok.stk with e | ⟨e,hf⟩
 ·rw [e] at hb;exact zo _ hb
 ·rw [e] at hb
  unfold frs at hb
  rw [zi,hf] at hb
  exact hb
theorem Inv.stkFree (I:Inv X pins σ H s):∀ b ∈ frs X.stack,H b=none:=fun b hb=>by
 rcases zR.mp (I.stkSub b hb) with e | hb
 ·rw [e];exact I.free
 ·obtain ⟨_,o,ho,_⟩:=I.ok.funs.mem hb
  exact I.base.free b o ho (I.ok.frf b hb) fun z=>I.ok.exfs b z hb
theorem Inv.step {g':Array GenState}{t':Nat}{d':Drawn}{ch:List Addr} (I:Inv X pins σ H s)
  (hch:∀ b ∈ ch,(b ∈ X.ex\/X.s₀.heap.objs.size<=b)/\b ≠ X.env.locals/\(∀ x c,X.env.cells.lookup x=some c->c ≠ b)/\∀ p ∈ X.pn ++ pins,p.1 ≠ b)
  (keep:∀ b o,b ≠ X.env.locals->b ∉ X.fs->b ∉ ch->s.heap.get? b=some o->H b=none->h'.get? b=some o)
  (slot:∀ b o,b ≠ X.env.locals->b ∈ X.fs->b ∉ ch->s.heap.get? b=some o->H b=none->∃ sl,h'.get? b=some { o with slots:=sl }) (free:∀ b o,b ∉ ch->s.heap.get? b=some o->H b=none->H' b=none)
  (there:∀ b o,b ∉ ch->s.heap.get? b=some o->∃ o',h'.get? b=some o')
  (tups:∀ b xs,H b=some (.tup xs)->H' b=some (.tup xs)) (frzs:∀ b o u,H b=some (.frz o u)->H' b=some (.frz o u)) (tbls:∀ b ps,H b=some (.tbl ps)->∃ more,H' b=some (.tbl (ps ++ more)))
  (ns:∀ m,s.heap.Ns X.env.locals m->h'.Ns X.env.locals m) (hok:HOk X.prog X.w H' h') (hg:AllBare g') :
  Inv X pins σ H' { s with heap:=h',gens:=g',drawn:=d',toks:=t' }:=by
 have neL:∀ b o,X.s₀.heap.get? b=some o->b ≠ X.env.locals:=fun b o e=>zU (zV (Heap.lt_size e) I.ok.above)
 have neC:∀ b o,X.s₀.heap.get? b=some o->b ∉ X.ex->b ∉ ch:=fun b o e hx hb=>by
  rcases (hch b hb).1 with z | z
  ·exact hx z
  ·exact absurd (zV (Heap.lt_size e) z) (ze _)
 have cellK:∀ x c,X.env.cells.lookup x=some c->∀ v,s.heap.IsCell c v->h'.IsCell c v:=fun x c e v ⟨o,ho,hd⟩=>by
  have nch:c ∉ ch:=fun z=>(hch c z).2.2.1 x c e rfl
  by_cases hc:c ∈ X.fs
  ·obtain ⟨sl,q⟩:=slot c o (I.cne x c e) hc nch ho (I.freeC x c e)
   exact ⟨_,q,hd⟩
  ·exact ⟨o,keep c o (I.cne x c e) hc nch ho (I.freeC x c e),hd⟩
 refine ⟨I.ok,I.os,hg,⟨fun b o e n hb hx=>?_,fun b o e n hb hx=>?_,fun b o e n hx=>?_,fun b o e hx=>?_,fun b xs e=>tups b xs (I.base.tups b xs e),fun b o xs e=>frzs b o xs (I.base.frzs b o xs e),fun b ps e=>?_⟩,?_,fun x c e=>?_,?_,fun x c e=>?_,fun p hp=>?_,hok,I.len⟩
 ·exact keep b o (neL b o e) hb (neC b o e hx) (I.base.keep b o e n hb hx) (I.base.free b o e n hx)
 ·obtain ⟨sl,e1⟩:=I.base.slot b o e n hb hx
  obtain ⟨sl',e2⟩:=slot b _ (neL b o e) hb (neC b o e hx) e1 (I.base.free b o e n hx)
  exact ⟨sl',e2⟩
 ·obtain ⟨o',e1⟩:=I.base.there b o e hx
  exact free b o' (neC b o e hx) e1 (I.base.free b o e n hx)
 ·obtain ⟨o',e1⟩:=I.base.there b o e hx
  exact there b o' (neC b o e hx) e1
 ·obtain ⟨m1,e1⟩:=I.base.tbls b ps e
  obtain ⟨m2,e2⟩:=tbls b _ e1
  exact ⟨m1 ++ m2,by rw [e2,Array.append_assoc]⟩
 ·obtain ⟨m,hn,hl⟩:=I.loc
  refine ⟨m,ns m hn,fun i x v e1 e2 e3=>?_⟩
  obtain ⟨u,r,l⟩:=hl i x v e1 e2 e3
  refine ⟨u,r,?_⟩
  rcases l with l | ⟨k,c,e,z⟩
  ·exact .inl l
  ·exact .inr ⟨k,c,e,cellK x c e _ z⟩
 ·obtain ⟨v,z⟩:=I.cell x c e
  exact ⟨v,cellK x c e v z⟩
 ·obtain ⟨m,⟨o,_,_,ho,_⟩,_⟩:=I.loc
  exact free _ o (fun z=>(hch _ z).2.1 rfl) ho I.free
 ·obtain ⟨v,o,ho,hd⟩:=I.cell x c e
  exact free c o (fun z=>(hch c z).2.2.1 x c e rfl) ho (I.freeC x c e)
 ·obtain ⟨e,n,ne,nf,d⟩:=I.pin p hp
  have nch:p.1 ∉ ch:=fun z=>(hch p.1 z).2.2.2 p hp rfl
  exact ⟨keep p.1 p.2 ne nf nch e n,free p.1 p.2 nch e n,ne,nf,d⟩
theorem Inv.un {t':Nat} (I:Inv X pins σ H s) (u:Un X.fs [] H H' s.heap h') (hok:HOk X.prog X.w H' h'):Inv X pins σ H' { s with heap:=h',toks:=t' }:=by
 obtain ⟨m,⟨o,es,ep,ho,r⟩,_⟩:=id I.loc
 obtain ⟨sl,hL⟩:=u.any ho I.free (by simp)
 exact I.step (g':=s.gens) (d':=s.drawn) (ch:=[]) (fun _ z=>nomatch z) (fun b o _ hb _ e n=>u.keep b o e n hb (by simp)) (fun b o _ hb _ e n=>u.slot b o e n hb (by simp)) (fun b o _ e n=>u.free b o e n (by simp)) (fun b o _ e=>u.there b o e (by simp)) u.tups u.frzs u.tbls (fun m' hm=>by
  obtain ⟨o',es',ep',ho',r'⟩:=hm
  rw [ho] at ho';cases ho'
  exact ⟨_,es',ep',hL,r'⟩) hok I.bare
theorem Inv.call {g':Array GenState}{t':Nat}{d':Drawn}{ch:List Addr} (I:Inv X pins σ H s) (u:Un (frs X.stack) ch H H' s.heap h') (hok:HOk X.prog X.w H' h') (hg:AllBare g')
  (hch:∀ b ∈ ch,(b ∈ X.ex\/X.s₀.heap.objs.size<=b)/\b ≠ X.env.locals/\(∀ x c,X.env.cells.lookup x=some c->c ≠ b)/\∀ p ∈ X.pn ++ pins,p.1 ≠ b) :
  Inv X pins σ H' { s with heap:=h',gens:=g',drawn:=d',toks:=t' }:=by
 obtain ⟨m,⟨o,es,ep,ho,r⟩,_⟩:=id I.loc
 obtain ⟨sl,hL⟩:=u.any ho I.free fun z=>(hch _ z).2.1 rfl
 exact I.step (ch:=ch) hch (fun b o hL hb hc e n=>u.keep b o e n (fun z=>(zR.mp (I.stkSub b z)).elim hL hb) hc) (fun b o _ _ hc e n=>u.any e n hc) (fun b o hc e n=>u.free b o e n hc) (fun b o hc e=>u.there b o e hc) u.tups u.frzs u.tbls (fun m' hm=>by
  obtain ⟨o',es',ep',ho',r'⟩:=hm
  rw [ho] at ho';cases ho'
  exact ⟨_,es',ep',hL,r'⟩) hok hg
theorem Inv.turned {t':Nat}{it:Addr} (I:Inv X pins σ H s) (k:∀ b o,b ≠ it->s.heap.get? b=some o->h'.get? b=some o) (hn:H it=none) (hL:it ≠ X.env.locals)
  (h1:it ∈ X.ex\/X.s₀.heap.objs.size<=it) (h2:∀ x c,X.env.cells.lookup x=some c->c ≠ it) (h3:∀ p ∈ X.pn ++ pins,p.1 ≠ it):Inv X pins σ H { s with heap:=h',toks:=t' }:=by
 have nit:∀ b u,H b=some u->b ≠ it:=fun b u e z=>by rw [z,hn] at e;cases e
 refine I.step (g':=s.gens) (d':=s.drawn) (ch:=[it]) (fun b hb=>?_) (fun b o _ _ hc e _=>k b o (fun z=>hc (by simp [z])) e) (fun b o _ _ hc e _=>⟨o.slots,k b o (fun z=>hc (by simp [z])) e⟩) (fun _ _ _ _ n=>n)
  (fun b o hc e=>⟨o,k b o (fun z=>hc (by simp [z])) e⟩) (fun _ _ e=>e) (fun _ _ _ e=>e) (fun b ps e=>⟨#[],by rw [e];simp⟩) (fun m hm=>?_) (fun b u e=>?_) I.bare
 ·have e:b=it:=by simpa using hb
  subst e
  exact ⟨h1,hL,h2,h3⟩
 ·obtain ⟨o,es,ep,ho,r⟩:=hm
  exact ⟨o,es,ep,k _ o (Ne.symm hL) ho,r⟩
 ·refine (I.hok b u e).stay (fun c v hc q=>k c v ?_ q) (fun _ q=>q) fun _ _ q=>q
  rcases hc with z | z
  ·rw [z];exact nit b u e
  ·exact nit c _ z
theorem Inv.tok (I:Inv X pins σ H s) (t:Nat):Inv X pins σ H { s with toks:=t }:=I.un (h':=s.heap) (t':=t) Un.refl I.hok
theorem Inv.kept {t':Nat} (I:Inv X pins σ H s) (k:∀ b u,s.heap.get? b=some u->h'.get? b=some u):Inv X pins σ H { s with heap:=h',toks:=t' }:=I.un (Un.kept k) (I.hok.kept k)
theorem Inv.laid {a:Addr}{o:HO}{t':Nat} (I:Inv X pins σ H s) (k:∀ b u,s.heap.get? b=some u->h'.get? b=some u) (hp:s.heap.objs.size<=a) (new:ObjOk X.prog X.w (upd H a o) h' a o) :
  Inv X pins σ (upd H a o) { s with heap:=h',toks:=t' }:=I.un (Un.laid k hp (I.hok.fresh hp)) (I.hok.laid k hp new)
theorem Inv.write {x e:Addr}{o:HO}{t':Nat} (I:Inv X pins σ H s) (mu:Mut (H x)) (he:e=x\/H e=some (.own x)) (k:∀ b u,b ≠ e->s.heap.get? b=some u->h'.get? b=some u) (heo:∃ u,h'.get? e=some u)
  (new:ObjOk X.prog X.w (upd H x o) h' x o):Inv X pins σ (upd H x o) { s with heap:=h',toks:=t' }:=I.un (Un.write mu he k heo) (I.hok.write mu he k heo new)
theorem Inv.pins_of {pins':List (Addr × Obj)} (I:Inv X pins σ H s) (h:∀ p ∈ pins',s.heap.get? p.1=some p.2/\H p.1=none/\p.1 ≠ X.env.locals/\p.1 ∉ X.fs/\∀ v,p.2.data ≠ .cell v):Inv X pins' σ H s:=
 ⟨I.ok,I.os,I.bare,I.base,I.loc,I.cell,I.free,I.freeC,fun p hp=>(zW.mp hp).elim (fun z=>I.pin p (ye _ z)) (h p),I.hok,I.len⟩
theorem nodup_ix {N:List Str} (hN:N.Nodup) {i j:Nat}{x:Str} (a:N[i]?=some x) (b:N[j]?=some x):i=j:=by
 obtain ⟨h1,e1⟩:=zB.mp a
 obtain ⟨h2,e2⟩:=zB.mp b
 exact (List.getElem_inj hN).mp (e1.trans e2.symm)
theorem store_ok2 {M:Model}{A:Around}{E:Value->Shared->Prop}{i:Nat}{x:Str}{v:V}{u:Value}{Q:Unit->Shared->Prop} (I:Inv X pins σ H s) (hN:X.N.Nodup) (hi:X.N[i]?=some x) (hx:Loc X.env.scope x) (r:RelV v u)
  (h:∀ s',Inv X pins (σ.set i (some v)) H s'->(∃ a,Heap.SameBut a s.heap s'.heap/\(a=X.env.locals\/X.env.cells.lookup x=some a))->Q () s') (hf:X.fn x=true\/X.env.scope.names.lookup x=some .local:=by first | exact .inl rfl | exact .inr rfl | assumption):wpAny M A (storeName X.env x u) Q E s:=by
 obtain ⟨m,hn,hl⟩:=id I.loc
 have hcls:(X.env.scope.kind == .class || (X.env.scope.kind == .module && X.env.locals != X.env.globals))=false:=by rw [I.ok.kind];rfl
 have hiσ:i < σ.length:=by rw [I.len];exact (zB.mp hi).1
 have cne:=I.cne
 have tracked:∀ {a:Addr}{h':Heap},(∃ o,s.heap.get? a=some o/\H a=none)->Heap.SameBut a s.heap h'->HOk X.prog X.w H h':=fun {a h'} ha hs b ob e=>by
  obtain ⟨_,_,hfree⟩:=ha
  refine (I.hok b ob e).stay (fun c w' hc q=>(hs.2 c ?_).trans q) (fun _ q=>q) fun _ _ q=>q
  rintro rfl
  rcases hc with rfl | hc
  ·rw [hfree] at e;cases e
  ·rw [hfree] at hc;cases hc
 rcases hx with hk | hk
 ·refine wpAny_storeName_local hk hn (fun h' hn' hs=>?_) hcls
  obtain ⟨oL,_,_,hoL,_⟩:=id hn
  refine h _ ⟨I.ok,I.os,I.bare,⟨fun b o e n hb hx=>?_,fun b o e n hb hx=>?_,I.base.free,fun b o e hx=>?_,I.base.tups,I.base.frzs,I.base.tbls⟩,⟨_,hn',fun j y v' e1 e2 e3=>?_⟩,fun y c e=>?_,I.free,I.freeC,fun p hp=>?_,tracked ⟨oL,hoL,I.free⟩ hs,by simpa using I.len⟩ ⟨_,hs,.inl rfl⟩
  ·exact (hs.2 b (zU (zV (Heap.lt_size e) I.ok.above))).trans (I.base.keep b o e n hb hx)
  ·obtain ⟨sl,e1⟩:=I.base.slot b o e n hb hx
   exact ⟨sl,(hs.2 b (zU (zV (Heap.lt_size e) I.ok.above))).trans e1⟩
  ·obtain ⟨o',e1⟩:=I.base.there b o e hx
   exact ⟨o',(hs.2 b (zU (zV (Heap.lt_size e) I.ok.above))).trans e1⟩
  ·by_cases hj:j=i
   ·subst hj
    rw [hi] at e1;cases e1
    rw [yW hiσ] at e2
    cases e2
    exact ⟨u,r,.inl ⟨hk,by simp⟩⟩
   ·rw [List.getElem?_set_ne (Ne.symm hj)] at e2
    obtain ⟨u',r',q⟩:=hl j y v' e1 e2 e3
    refine ⟨u',r',?_⟩
    rcases q with ⟨k,e⟩ | ⟨k,c,e,z⟩
    ·refine .inl ⟨k,?_⟩
     have:y ≠ x:=fun e=>hj (nodup_ix hN e1 (e ▸ hi))
     simp [this,e]
    ·exact .inr ⟨k,c,e,z.sameBut hs (cne y c e)⟩
  ·obtain ⟨w',z⟩:=I.cell y c e
   exact ⟨w',z.sameBut hs (cne y c e)⟩
  ·obtain ⟨e,n,ne,nf,d⟩:=I.pin p hp
   exact ⟨(hs.2 p.1 ne).trans e,n,ne,nf,d⟩
 ·have hfn:X.fn x=true:=by
   rcases hf with z | z
   ·exact z
   ·rw [z] at hk;cases hk
  obtain ⟨c,hc⟩:=I.ok.has x (.inl hk)
  obtain ⟨w',z⟩:=I.cell x c hc
  refine wpAny_storeName_cell I.ok.kind hk hc z (fun h' hc' hs=>?_)
  obtain ⟨oc,hoc,hocd⟩:=id z
  refine h { s with heap:=h' } ⟨I.ok,I.os,I.bare,⟨fun b o e n hb hx=>?_,fun b o e n hb hx=>?_,I.base.free,fun b o e hx=>?_,I.base.tups,I.base.frzs,I.base.tbls⟩,⟨m,hn.sameBut hs (Ne.symm (cne x c hc)),fun j y v' e1 e2 e3=>?_⟩,fun y c' e=>?_,I.free,I.freeC,fun p hp=>?_,tracked ⟨oc,hoc,I.freeC x c hc⟩ hs,by simpa using I.len⟩ ⟨c,hs,.inr hc⟩
  ·exact (hs.2 b (zU (zV (Heap.lt_size e) (I.ok.cab x c hfn hc)))).trans (I.base.keep b o e n hb hx)
  ·obtain ⟨sl,e1⟩:=I.base.slot b o e n hb hx
   exact ⟨sl,(hs.2 b (zU (zV (Heap.lt_size e) (I.ok.cab x c hfn hc)))).trans e1⟩
  ·obtain ⟨o',e1⟩:=I.base.there b o e hx
   exact ⟨o',(hs.2 b (zU (zV (Heap.lt_size e) (I.ok.cab x c hfn hc)))).trans e1⟩
  ·by_cases hj:j=i
   ·subst hj
    rw [hi] at e1;cases e1
    rw [yW hiσ] at e2
    cases e2
    exact ⟨u,r,.inr ⟨.inl hk,c,hc,hc'⟩⟩
   ·rw [List.getElem?_set_ne (Ne.symm hj)] at e2
    obtain ⟨u',r',q⟩:=hl j y v' e1 e2 e3
    refine ⟨u',r',?_⟩
    rcases q with q | ⟨k,c',e,z'⟩
    ·exact .inl q
    ·refine .inr ⟨k,c',e,z'.sameBut hs ?_⟩
     rintro rfl
     exact hj (nodup_ix hN e1 (I.ok.inj _ _ _ e hc ▸ hi))
  ·by_cases hcc:c'=c
   ·subst hcc;exact ⟨_,hc'⟩
   ·obtain ⟨w2,z2⟩:=I.cell y c' e
    exact ⟨w2,z2.sameBut hs hcc⟩
  ·obtain ⟨e,n,ne,nf,d⟩:=I.pin p hp
   refine ⟨(hs.2 p.1 ?_).trans e,n,ne,nf,d⟩
   intro q
   rw [q,hoc] at e
   have q':oc=p.2:=Option.some.inj e
   exact d w' (by rw [<-q'];exact hocd)
theorem store_ok {M:Model}{A:Around}{E:Value->Shared->Prop}{i:Nat}{x:Str}{v:V}{u:Value}{Q:Unit->Shared->Prop} (I:Inv X pins σ H s) (hN:X.N.Nodup) (hi:X.N[i]?=some x) (hx:Loc X.env.scope x) (r:RelV v u)
  (h:∀ s',Inv X pins (σ.set i (some v)) H s'->Q () s') (hf:X.fn x=true\/X.env.scope.names.lookup x=some .local:=by first | exact .inl rfl | exact .inr rfl | assumption):wpAny M A (storeName X.env x u) Q E s:=
 store_ok2 I hN hi hx r (fun s' I' _=>h s' I') hf
theorem Inv.call' {s':Shared}{ch:List Addr} (I:Inv X pins σ H s) (ho:s'.os=s.os) (u:Un (frs X.stack) ch H H' s.heap s'.heap) (hok:HOk X.prog X.w H' s'.heap) (hg:AllBare s'.gens)
  (hch:∀ b ∈ ch,(b ∈ X.ex\/X.s₀.heap.objs.size<=b)/\b ≠ X.env.locals/\(∀ x c,X.env.cells.lookup x=some c->c ≠ b)/\∀ p ∈ X.pn ++ pins,p.1 ≠ b):Inv X pins σ H' s':=by
 obtain ⟨h',g',d',t',o'⟩:=s'
 have e:o'=s.os:=ho
 subst e
 exact I.call (g':=g') (t':=t') (d':=d') u hok hg hch
end
abbrev XK:=Value->Option Addr->Hp->Prop
abbrev St:=List (Option V)
abbrev VK:=V->Hp->Prop
abbrev TE:=St->Hp->VK->Prop
abbrev TT:=St->Hp->(Bool->Hp->Prop)->Prop
abbrev TA:=St->Hp->(List V->Hp->Prop)->Prop
structure Ends where
 nx:St->Hp->Prop
 rt:VK
 bk:St->Hp->Prop:=fun _ _=>False
 ct:St->Hp->Prop:=fun _ _=>False
abbrev TS:=Ends->St->Hp->Prop
def EP (X:Cx) (pins:List (Addr × Obj)) (σ:St) (Q:VK) (u:Value) (s':Shared):Prop:=∃ v H',Inv X pins σ H' s'/\RelV v u/\Q v H'
def TP (X:Cx) (pins:List (Addr × Obj)) (σ:St) (Q:Bool->Hp->Prop) (b:Bool) (s':Shared):Prop:=∃ H',Inv X pins σ H' s'/\Q b H'
def AP (X:Cx) (pins:List (Addr × Obj)) (σ:St) (Q:List V->Hp->Prop) (us:List Value) (s':Shared):Prop:=∃ vs H',Inv X pins σ H' s'/\Vals vs us/\Q vs H'
def SP (X:Cx) (pins:List (Addr × Obj)) (D:Ends) (f:Flow) (s':Shared):Prop:=
 match f with
 | .next=>∃ σ' H',Inv X pins σ' H' s'/\D.nx σ' H'
 | .brk=>∃ σ' H',Inv X pins σ' H' s'/\D.bk σ' H'
 | .cont=>∃ σ' H',Inv X pins σ' H' s'/\D.ct σ' H'
 | .ret u=>∃ v σ' H',Inv X pins σ' H' s'/\RelV v u/\D.rt v H'
def PE (X:Cx) (e:Expr) (t:TE):Prop:=
 ∀ (pins:List (Addr × Obj)) (s:Shared) (σ:St) (H:Hp) (Q:VK),Inv X pins σ H s->t σ H Q->wpAny (model X.prog X.w) X.A (eval e X.env) (EP X pins σ Q) X.xe s
def PT (X:Cx) (e:Expr) (t:TT):Prop:=
 ∀ (pins:List (Addr × Obj)) (s:Shared) (σ:St) (H:Hp) (Q:Bool->Hp->Prop),Inv X pins σ H s->t σ H Q->wpAny (model X.prog X.w) X.A (isTrue e X.env (eval e X.env)) (TP X pins σ Q) X.xe s
def PW (X:Cx) (e:Expr) (t:TT):Prop:=
 ∀ (whole:Sem Value) (pins:List (Addr × Obj)) (s:Shared) (σ:St) (H:Hp) (Q:Bool->Hp->Prop),Inv X pins σ H s->t σ H Q->wpAny (model X.prog X.w) X.A (isTrue e X.env whole) (TP X pins σ Q) X.xe s
theorem PW.pt {X:Cx}{e:Expr}{t:TT} (h:PW X e t):PT X e t:=h _
def PA (X:Cx) (es:List Expr) (t:TA):Prop:=
 ∀ (pos:Pos) (pins:List (Addr × Obj)) (s:Shared) (σ:St) (H:Hp) (Q:List V->Hp->Prop),Inv X pins σ H s->t σ H Q->wpAny (model X.prog X.w) X.A (spliced (backTo pos (starEach es X.env))) (AP X pins σ Q) X.xe s
def PS (X:Cx) (st:Stmt) (t:TS):Prop:=
 ∀ (pins:List (Addr × Obj)) (s:Shared) (σ:St) (H:Hp) (D:Ends),Inv X pins σ H s->t D σ H->wpAny (model X.prog X.w) X.A (exec st X.env) (SP X pins D) X.xe s
def PSs (X:Cx) (st:List Stmt) (t:TS):Prop:=
 ∀ (pins:List (Addr × Obj)) (s:Shared) (σ:St) (H:Hp) (D:Ends),Inv X pins σ H s->t D σ H->wpAny (model X.prog X.w) X.A (execs st X.env) (SP X pins D) X.xe s
theorem thn {α:Type}{t:Sem α}{Q Q':α->Shared->Prop}{M:Model}{A:Around}{E:Value->Shared->Prop}{s:Shared} (h:wpAny M A t Q E s) (hQ:∀ a s,Q a s->Q' a s):wpAny M A t Q' E s:=wpAny_mono h hQ fun _ _ x=>x
end L2
namespace L2
open PySem PySem.Spec PyProof.Rows
section
variable {X:Cx}
def tVar (i:Nat):TE:=fun σ H Q=>∃ v,σ[i]?=some (some v)/\Q v H
def tC (v:V):TE:=fun _ H Q=>Q v H
theorem pe_var {i:Nat}{x:Str}{pos:Pos} (hN:X.N[i]?=some x) (hv:Vis X.env.scope x) (hd:(x == ("__debug__" : Str))=false:=by decide) (hcd:(x == ("__classdict__" : Str))=false:=by decide):PE X (.Name x pos) (tVar i):=by
 intro pins s σ H Q I h
 obtain ⟨v,e,h⟩:=h
 obtain ⟨m,hn,hl⟩:=I.loc
 obtain ⟨u,r,l⟩:=hl i x v hN e hv
 have fin:EP X pins σ Q u s:=⟨v,H,I,r,h⟩
 rcases l with ⟨hk,hm⟩ | ⟨hk,c,hc,hcell⟩
 ·exact wpAny_Name (wpAny_loadName_local I.ok.kind hk hn hm fin) hd
 ·rcases hk with hk | hk
  ·exact wpAny_Name (wpAny_loadName_cell I.ok.kind hk hc hcell fin) hd
  ·exact wpAny_Name (wpAny_loadName_free I.ok.kind hk hc hcell fin hcd) hd
theorem xG {i j pos}:PE X (.Constant (.int i) j pos) (tC (.int i)):=fun _ _ _ H _ I h=>wpAny_Constant_int ⟨.int i,H,I.tok _,⟨_,rfl⟩,h⟩
theorem pe_bl {b j pos}:PE X (.Constant (.bool b) j pos) (tC (.bl b)):=fun _ _ _ H _ I h=>Constant_bool ⟨.bl b,H,I,rfl,h⟩
theorem pe_non {j pos}:PE X (.Constant .none j pos) (tC .non):=fun _ _ _ H _ I h=>Constant_none ⟨.non,H,I,rfl,h⟩
theorem pe_str {x j pos}:PE X (.Constant (.str x) j pos) (tC (.str x)):=fun _ _ _ H _ I h=>Calls.Constant_str ⟨.str x,H,I.tok _,⟨_,rfl⟩,h⟩
def Gl (X:Cx) (x:Str):Prop:=X.env.kindOf x=some .globalImplicit
theorem ld_glob {E:Value->Shared->Prop}{pins:List (Addr × Obj)}{s:Shared}{σ:St}{H:Hp}{x:Str}{u:Value}{pos:Pos}{Q:Value->Shared->Prop} (I:Inv X pins σ H s) (hg:Gl X x) (hm:X.mg x=some u) (h:Q u s)
  (hd:(x == ("__debug__" : Str))=false:=by decide):wpAny (model X.prog X.w) X.A (eval (.Name x pos) X.env) Q E s:=
 Calls.Name_function_global I.ok.kind hg (Calls.loadGlobal_global (by rw [I.ok.glob];exact I.mod.glob.keeps I.bk) hm h) hd
theorem ld_blt {E:Value->Shared->Prop}{pins:List (Addr × Obj)}{s:Shared}{σ:St}{H:Hp}{x:Str}{u:Value}{pos:Pos}{Q:Value->Shared->Prop} (I:Inv X pins σ H s) (hg:Gl X x) (hm:X.mg x=none) (hv:bootBuiltins x=some u) (h:Q u s)
  (hn:x ≠ "__name__" := by decide) (hd:(x == ("__debug__" : Str))=false:=by decide):wpAny (model X.prog X.w) X.A (eval (.Name x pos) X.env) Q E s:=by
 obtain ⟨mb,h1,h2⟩:=I.mod.blt
 exact Calls.Name_function_global I.ok.kind hg (Calls.loadGlobal_builtin (by rw [I.ok.glob];exact I.mod.glob.keeps I.bk) hm (by rw [I.ok.blt];exact h1.keeps I.bk) ((h2 x hn).trans hv) h) hd
theorem pe_glob {x:Str}{v:V}{u:Value}{pos:Pos} (hg:Gl X x) (hm:X.mg x=some u) (r:RelV v u) (hd:(x == ("__debug__" : Str))=false:=by decide):PE X (.Name x pos) (tC v):=
 fun _ _ _ H _ I h=>ld_glob I hg hm ⟨v,H,I,r,h⟩ hd
theorem pe_bltn {x:Str}{v:V}{u:Value}{pos:Pos} (hg:Gl X x) (hm:X.mg x=none) (hv:bootBuiltins x=some u) (r:RelV v u) (hn:x ≠ "__name__" := by decide) (hd:(x == ("__debug__" : Str))=false:=by decide):PE X (.Name x pos) (tC v):=
 fun _ _ _ H _ I h=>ld_blt I hg hm hv ⟨v,H,I,r,h⟩ hn hd
variable {a b:Expr}{ta tb:TE}{pos:Pos}
def PC (X:Cx) (op:CmpOp) (a b:Expr) (t:TE):Prop:=
 ∀ (pins:List (Addr × Obj)) (s:Shared) (σ:St) (H:Hp) (Q:VK),Inv X pins σ H s->t σ H Q ->
  wpAny (model X.prog X.w) X.A (eval a X.env) (fun v s₁=>wpAny (model X.prog X.w) X.A (eval b X.env) (fun u s₂=>wpAny (model X.prog X.w) X.A (compareOp op v u) (EP X pins σ Q) X.xe s₂) X.xe s₁) X.xe s
theorem nobehind (b:Expr) {op:CmpOp} (h:op ≠ .In) (h2:op ≠ .NotIn):behindInMarks op b=false:=by
 have e1:(op == CmpOp.In)=false:=by cases op <;> first | rfl | exact absurd rfl h
 have e2:(op == CmpOp.NotIn)=false:=by cases op <;> first | rfl | exact absurd rfl h2
 cases b <;> simp [behindInMarks,e1,e2]
def tIsN (ta:TE):TE:=fun σ H Q=>ta σ H fun x H1=>Q (.bl (decide (x=.non))) H1
def tNotN (ta:TE):TE:=fun σ H Q=>ta σ H fun x H1=>Q (.bl (!decide (x=.non))) H1
theorem RelV.none_iff {x:V}{v:Value} (r:RelV x v):(v == Value.none)=decide (x=.non):=by
 cases x with
 | non=>cases r;rfl
 | bl _=>cases r;rfl
 | int _=>obtain ⟨t,rfl⟩:=r;rfl
 | str _=>obtain ⟨t,rfl⟩:=r;rfl
 | byt _=>obtain ⟨t,rfl⟩:=r;rfl
 | flt _=>obtain ⟨t,rfl⟩:=r;rfl
 | ref _=>cases r;rfl
 | ty _=>cases r;rfl
theorem pc_isN {j pos'} (ha:PE X a ta):PC X .Is a (.Constant .none j pos') (tIsN ta):=by
 intro pins s σ H Q I h
 refine thn (ha pins s σ H _ I h) fun v s1 ⟨x,H1,I1,r1,q1⟩=>?_
 exact Constant_none (is_none_gen ⟨.bl _,H1,I1,by rw [r1.none_iff];rfl,q1⟩)
theorem pc_notN {j pos'} (ha:PE X a ta):PC X .IsNot a (.Constant .none j pos') (tNotN ta):=by
 intro pins s σ H Q I h
 refine thn (ha pins s σ H _ I h) fun v s1 ⟨x,H1,I1,r1,q1⟩=>?_
 exact Constant_none (isnot_none_gen ⟨.bl _,H1,I1,by rw [r1.none_iff];rfl,q1⟩)
def tB (t:TE):TT:=fun σ H Q=>t σ H fun x H1=>∃ c,x=.bl c/\Q c H1
theorem pe_cmp {op:CmpOp}{t:TE} (h:PC X op a b t) (h1:behindInMarks op b=false:=by first | exact nobehind _ (by decide) (by decide) | rfl):PE X (.Compare a [op] [b] pos) t:=fun pins s σ H Q I hw=>wpAny_Compare1 (h pins s σ H Q I hw) h1
theorem pt_cmp {op:CmpOp}{t:TE} (h:PC X op a b t) (h1:behindInMarks op b=false:=by first | exact nobehind _ (by decide) (by decide) | rfl):PT X (.Compare a [op] [b] pos) (tB t):=by
 intro pins s σ H Q I hw
 refine wpAny_isTrue_Compare1 (thn (h pins s σ H _ I hw) fun v s1 h1=>thn h1 fun u s2 h2=>thn h2 fun c s3 ⟨x,H1,I1,r1,q1⟩=>?_) h1
 obtain ⟨d,rfl,q⟩:=q1
 cases r1
 exact wpAny_truthy_bool ⟨H1,I1,q⟩
theorem wR {e:Expr}{t:TE} (h:PE X e t) (he:∀ whole,isTrue e X.env whole=(do let v <- whole;standAt e.pos;holding [v] (truthy v)):=by intro _;rfl):PT X e (tB t):=by
 intro pins s σ H Q I hw
 refine isTrue_plain (thn (h pins s σ H _ I hw) fun v s1 ⟨x,H1,I1,r1,q1⟩=>?_) (he _)
 obtain ⟨d,rfl,q⟩:=q1
 cases r1
 exact wpAny_truthy_bool ⟨H1,I1,q⟩
variable {tA tB':TT}{rest:List Expr}
def tAnd (t u:TT):TT:=fun σ H Q=>t σ H fun c H1=>if c=true then u σ H1 Q else Q false H1
def tOr (t u:TT):TT:=fun σ H Q=>t σ H fun c H1=>if c=true then Q true H1 else u σ H1 Q
def tNot (t:TT):TT:=fun σ H Q=>t σ H fun c H1=>Q (!c) H1
theorem pw_and1 (ha:PT X a tA):PW X (.BoolOp .And [a] pos) tA:=by
 intro wh pins s σ H Q I h
 refine isTrue_and (thn (ha pins s σ H Q I h) fun c s1 e=>?_)
 cases c with
 | true=>exact isTrue_and_nil e
 | false=>exact e
theorem pw_or1 (ha:PT X a tA):PW X (.BoolOp .Or [a] pos) tA:=by
 intro wh pins s σ H Q I h
 refine isTrue_or (thn (ha pins s σ H Q I h) fun c s1 e=>?_)
 cases c with
 | false=>exact isTrue_or_nil e
 | true=>exact e
theorem pw_and (ha:PT X a tA) (hb:PW X (.BoolOp .And (b :: rest) pos) tB'):PW X (.BoolOp .And (a :: b :: rest) pos) (tAnd tA tB'):=by
 intro wh pins s σ H Q I h
 refine isTrue_and (thn (ha pins s σ H _ I h) fun c s1 ⟨H1,I1,q1⟩=>?_)
 cases c with
 | true=>exact hb wh pins s1 σ H1 Q I1 q1
 | false=>exact ⟨H1,I1,q1⟩
theorem pw_or (ha:PT X a tA) (hb:PW X (.BoolOp .Or (b :: rest) pos) tB'):PW X (.BoolOp .Or (a :: b :: rest) pos) (tOr tA tB'):=by
 intro wh pins s σ H Q I h
 refine isTrue_or (thn (ha pins s σ H _ I h) fun c s1 ⟨H1,I1,q1⟩=>?_)
 cases c with
 | true=>exact ⟨H1,I1,q1⟩
 | false=>exact hb wh pins s1 σ H1 Q I1 q1
theorem pt_not (ha:PT X a tA):PT X (.UnaryOp .Not a pos) (tNot tA):=by
 intro pins s σ H Q I h
 exact isTrue_not (ha pins s σ H (fun c H1=>Q (!c) H1) I h)
def tAndV (ta tb:TE):TE:=fun σ H Q=>ta σ H fun x H1=>∃ c,x=.bl c/\if c=true then tb σ H1 Q else Q (.bl false) H1
def tOrV (ta tb:TE):TE:=fun σ H Q=>ta σ H fun x H1=>∃ c,x=.bl c/\if c=true then Q (.bl true) H1 else tb σ H1 Q
def tNotV (ta:TE):TE:=fun σ H Q=>ta σ H fun x H1=>∃ c,x=.bl c/\Q (.bl (!c)) H1
theorem pe_one {op}{t:TE} (h:PE X a t):PE X (.BoolOp op [a] pos) t:=fun pins s σ H Q I hw=>BoolOp_one (h pins s σ H Q I hw)
theorem pe_and (ha:PE X a ta) (hb:PE X (.BoolOp .And (b :: rest) pos) tb):PE X (.BoolOp .And (a :: b :: rest) pos) (tAndV ta tb):=by
 intro pins s σ H Q I h
 refine BoolOp_and (thn (ha pins s σ H _ I h) fun v s1 ⟨x,H1,I1,r1,q1⟩=>?_)
 obtain ⟨c,rfl,q1⟩:=q1
 cases r1
 refine wpAny_truthy_bool ?_
 cases c with
 | true=>exact hb pins s1 σ H1 Q I1 q1
 | false=>exact ⟨.bl false,H1,I1,rfl,q1⟩
theorem pe_not (ha:PE X a ta):PE X (.UnaryOp .Not a pos) (tNotV ta):=by
 intro pins s σ H Q I h
 refine UnaryOp_ (thn (ha pins s σ H _ I h) fun v s1 ⟨x,H1,I1,r1,q1⟩=>?_)
 obtain ⟨c,rfl,q1⟩:=q1
 cases r1
 exact not_of (wpAny_truthy_bool ⟨.bl (!c),H1,I1,rfl,q1⟩)
def tIf (t:TT) (ta tb:TE):TE:=fun σ H Q=>t σ H fun c H1=>if c=true then ta σ H1 Q else tb σ H1 Q
theorem pe_ifExp {c:Expr} (hc:PT X c tA) (ha:PE X a ta) (hb:PE X b tb):PE X (.IfExp c a b pos) (tIf tA ta tb):=by
 intro pins s σ H Q I h
 refine wpAny_IfExp (thn (hc pins s σ H _ I h) fun d s1 ⟨H1,I1,q1⟩=>?_)
 cases d with
 | true=>exact ha pins s1 σ H1 Q I1 q1
 | false=>exact hb pins s1 σ H1 Q I1 q1
end
end L2
namespace L2
open PySem PySem.Spec PyProof.Rows
def SqL (K:PySem.W.Frag) (H:Hp) (a:Addr) (xs:List V):Prop:=
 Rd H a (.lst xs) \/
  ∃ (o:Obj) (its:Array Value) (n:Nat),K.lookup a=some o/\o.cls=.type "list" /\ o.dict=none/\o.data=.seq its n/\its.size<=sizeLine/\Vals xs its.toList
def SqT (K:PySem.W.Frag) (H:Hp) (a:Addr) (xs:List V):Prop:=
 Rd H a (.tup xs) \/
  ∃ (o:Obj) (its:Array Value) (n:Nat),K.lookup a=some o/\o.cls=.type "tuple" /\ o.data=.seq its n/\its.size<=sizeLine/\Vals xs its.toList
def absV:Value->Option V
 | .none=>some .non
 | .bool b=>some (.bl b)
 | .int i _=>some (.int i)
 | .str x _=>some (.str x)
 | .bytes b _=>some (.byt b)
 | .float b _=>some (.flt b)
 | .ref a=>some (.ref a)
 | .type n=>some (.ty n)
 | _=>none
theorem RelV.abs {x:V}{u:Value} (r:RelV x u):absV u=some x:=by
 cases x with
 | non=>cases r;rfl
 | bl _=>cases r;rfl
 | int _=>obtain ⟨t,rfl⟩:=r;rfl
 | str _=>obtain ⟨t,rfl⟩:=r;rfl
 | byt _=>obtain ⟨t,rfl⟩:=r;rfl
 | flt _=>obtain ⟨t,rfl⟩:=r;rfl
 | ref _=>cases r;rfl
 | ty _=>cases r;rfl
theorem RelV.inj {x y:V}{u:Value} (r:RelV x u) (q:RelV y u):x=y:=Option.some.inj (r.abs.symm.trans q.abs)
theorem Vals.inj:∀ {xs ys:List V}{us:List Value},Vals xs us->Vals ys us->xs=ys
 | _,_,_,.nil,.nil=>rfl
 | _,_,_,.cons r t,.cons r' t'=>by rw [r.inj r',Vals.inj t t']
section
variable {X:Cx}{pins:List (Addr × Obj)}{σ:St}{H:Hp}{s:Shared}{a:Addr}{xs ys:List V}
theorem SqL.of {K:PySem.W.Frag} (h:H a=some (.lst xs)):SqL K H a xs:=.inl (.inl h)
theorem SqT.of {K:PySem.W.Frag} (h:H a=some (.tup xs)):SqT K H a xs:=.inl (.inl h)
theorem Inv.list (I:Inv X pins σ H s) (h:SqL X.K H a xs):∃ its:List Value,Vals xs its/\PlainL s.heap a its.toArray/\xs.length<=sizeLine:=by
 rcases h with h | ⟨o,its,n,hk,hc,hd,hs,hz,r⟩
 ·obtain ⟨z,its,n,r,e⟩:=h.ok I.hok
  exact ⟨its,r,⟨_,n,e,rfl,rfl,rfl⟩,z⟩
 ·refine ⟨its.toList,r,⟨o,n,I.kIn a o hk,hc,hd,by simpa using hs⟩,?_⟩
  have e:=r.length
  simp only [Array.length_toList] at e
  omega
theorem Inv.tuple (I:Inv X pins σ H s) (h:SqT X.K H a xs):∃ its:List Value,Vals xs its/\IsTup s.heap a its.toArray/\xs.length<=sizeLine:=by
 rcases h with h | ⟨o,its,n,hk,hc,hs,hz,r⟩
 ·obtain ⟨z,its,r,p⟩:=h.ok I.hok
  exact ⟨its,r,p,z⟩
 ·refine ⟨its.toList,r,⟨o,I.kIn a o hk,hc,n,by simpa using hs⟩,?_⟩
  have e:=r.length
  simp only [Array.length_toList] at e
  omega
theorem Inv.list_inj (I:Inv X pins σ H s) (h:SqL X.K H a xs) (h':SqL X.K H a ys):xs=ys:=by
 obtain ⟨its,r,⟨o,n,e,_,_,d⟩,_⟩:=I.list h
 obtain ⟨its',r',⟨o',n',e',_,_,d'⟩,_⟩:=I.list h'
 rw [e] at e';cases e'
 rw [d] at d'
 injection d' with d1 _
 have:its=its':=by simpa using congrArg Array.toList d1
 subst this
 exact r.inj r'
theorem Inv.tuple_inj (I:Inv X pins σ H s) (h:SqT X.K H a xs) (h':SqT X.K H a ys):xs=ys:=by
 obtain ⟨its,r,⟨o,e,_,n,d⟩,_⟩:=I.tuple h
 obtain ⟨its',r',⟨o',e',_,n',d'⟩,_⟩:=I.tuple h'
 rw [e] at e';cases e'
 rw [d] at d'
 injection d' with d1 _
 have:its=its':=by simpa using congrArg Array.toList d1
 subst this
 exact r.inj r'
end
abbrev Cx.wish (X:Cx) (E:Value->Shared->Prop):Cx:={ X with xe:=E }
abbrev Cx.nox (X:Cx):Cx:=X.wish fun _ _=>False
theorem Cx.Ok.wish {X:Cx} (ok:X.Ok) (E:Value->Shared->Prop):(X.wish E).Ok:=
 ⟨ok.mod,ok.kind,ok.glob,ok.blt,ok.above,ok.inj,ok.has,ok.cab,ok.hd,ok.frames,ok.stk,ok.exf,ok.bs,ok.bsz,ok.noex,ok.exfs,ok.funs,ok.frf⟩
theorem Cx.Ok.unwish {X:Cx}{E:Value->Shared->Prop} (ok:(X.wish E).Ok):X.Ok:=
 ⟨ok.mod,ok.kind,ok.glob,ok.blt,ok.above,ok.inj,ok.has,ok.cab,ok.hd,ok.frames,ok.stk,ok.exf,ok.bs,ok.bsz,ok.noex,ok.exfs,ok.funs,ok.frf⟩
section
variable {X:Cx}{pins:List (Addr × Obj)}{σ:St}{H:Hp}{s:Shared}{E:Value->Shared->Prop}
theorem Inv.wish (I:Inv X pins σ H s) (E:Value->Shared->Prop):Inv (X.wish E) pins σ H s:=⟨I.ok.wish E,I.os,I.bare,I.base,I.loc,I.cell,I.free,I.freeC,I.pin,I.hok,I.len⟩
theorem Inv.unwish (I:Inv (X.wish E) pins σ H s):Inv X pins σ H s:=⟨I.ok.unwish,I.os,I.bare,I.base,I.loc,I.cell,I.free,I.freeC,I.pin,I.hok,I.len⟩
theorem SP.unwish {D:Ends}{f:Flow}{s':Shared} (h:SP (X.wish E) pins D f s'):SP X pins D f s':=by
 cases f with
 | next=>obtain ⟨σ',H',I,q⟩:=h;exact ⟨σ',H',I.unwish,q⟩
 | brk=>obtain ⟨σ',H',I,q⟩:=h;exact ⟨σ',H',I.unwish,q⟩
 | cont=>obtain ⟨σ',H',I,q⟩:=h;exact ⟨σ',H',I.unwish,q⟩
 | ret u=>obtain ⟨v,σ',H',I,r,q⟩:=h;exact ⟨v,σ',H',I.unwish,r,q⟩
theorem PSs.nox {st:List Stmt}{t:TS} (h:PSs X.nox st t):PSs X st t:=fun pins s σ H D I hw=>
 wpAny_mono (h pins s σ H D (I.wish _) hw) (fun _ _ q=>q.unwish) fun _ _ z=>False.elim z
end
section
variable {X:Cx}{st:Stmt}{rest:List Stmt}{t u:TS}{e:Expr}{te:TE}{pos:Pos}
def tNext:TS:=fun D σ H=>D.nx σ H
def tSeq (t u:TS):TS:=fun D σ H=>t { D with nx:=u D } σ H
theorem xZ:PSs X [] tNext:=fun _ _ σ H _ I h=>wpAny_execs_nil ⟨σ,H,I,h⟩
theorem pss_cons (h1:PS X st t) (h2:PSs X rest u):PSs X (st :: rest) (tSeq t u):=by
 intro pins s σ H D I h
 refine wpAny_execs_cons (thn (h1 pins s σ H { D with nx:=u D } I h) fun f s1 q=>?_)
 cases f with
 | next=>
  obtain ⟨σ',H',I',q⟩:=q
  exact h2 pins s1 σ' H' D I' q
 | ret v=>exact q
 | brk=>exact q
 | cont=>exact q
theorem pss_one (h1:PS X st t):PSs X [st] t:=by
 intro pins s σ H D I h
 refine wpAny_execs_cons (thn (h1 pins s σ H D I h) fun f s1 q=>?_)
 cases f with
 | next=>exact wpAny_execs_nil q
 | ret v=>exact q
 | brk=>exact q
 | cont=>exact q
def tCont:TS:=fun D σ H=>D.ct σ H
theorem ps_pass:PS X (.Pass pos) tNext:=fun _ _ σ H _ I h=>wpAny_Pass ⟨σ,H,I,h⟩
theorem ps_continue:PS X (.Continue pos) tCont:=fun _ _ σ H _ I h=>wpAny_Continue ⟨σ,H,I,h⟩
theorem Inv.quiet {pins:List (Addr × Obj)}{σ:St}{H:Hp}{s:Shared} (I:Inv X pins σ H s):interactive X.env=false:=by simp [interactive,I.ok.kind]
def tDrop (te:TE):TS:=fun D σ H=>te σ H fun _ H1=>D.nx σ H1
theorem wG (he:PE X e te) (hs:swapsWith e none pos.line X.env=pure false:=by rfl):PS X (.Expr e pos) (tDrop te):=by
 intro pins s σ H D I h
 exact wpAny_Expr_any (thn (he pins s σ H _ I h) fun v s1 ⟨x,H1,I1,r1,q1⟩=>⟨σ,H1,I1,q1⟩) I.quiet hs
def tRet (te:TE):TS:=fun D σ H=>te σ H D.rt
theorem xb (he:PE X e te):PS X (.Return (some e) pos) (tRet te):=by
 intro pins s σ H D I h
 exact wpAny_Return_some (thn (he pins s σ H _ I h) fun v s1 ⟨x,H1,I1,r1,q1⟩=>⟨x,σ,H1,I1,r1,q1⟩)
def tIfS (c:TT) (t u:TS):TS:=fun D σ H=>c σ H fun b H1=>if b=true then t D σ H1 else u D σ H1
theorem xh {c:Expr}{a b:List Stmt}{tc:TT} (hc:PT X c tc) (ha:PSs X a t) (hb:PSs X b u):PS X (.If c a b pos) (tIfS tc t u):=by
 intro pins s σ H D I h
 refine wpAny_If (thn (hc pins s σ H _ I h) fun d s1 ⟨H1,I1,q1⟩=>?_)
 cases d with
 | true=>exact ha pins s1 σ H1 D I1 q1
 | false=>exact hb pins s1 σ H1 D I1 q1
def tNever:TS:=fun _ _ _=>False
theorem ps_never:PS X st tNever:=fun _ _ _ _ _ _ h=>h.elim
end
abbrev TG:=V->St->Hp->(St->Hp->Prop)->Prop
abbrev TGs:=List V->St->Hp->(St->Hp->Prop)->Prop
def PG (X:Cx) (target:Expr) (t:TG):Prop:=
 ∀ (pins:List (Addr × Obj)) (s:Shared) (σ:St) (H:Hp) (v:V) (u:Value) (Q:St->Hp->Prop),Inv X pins σ H s->RelV v u->t v σ H Q ->
  wpAny (model X.prog X.w) X.A (assign target X.env u) (fun _ s'=>∃ σ' H',Inv X pins σ' H' s'/\Q σ' H') X.xe s
def PGs (X:Cx) (ts:List Expr) (t:TGs):Prop:=
 ∀ (pins:List (Addr × Obj)) (s:Shared) (σ:St) (H:Hp) (vs:List V) (us:List Value) (Q:St->Hp->Prop),Inv X pins σ H s->Vals vs us->t vs σ H Q ->
  wpAny (model X.prog X.w) X.A (assignInOrder ((assignEach ts X.env).map (·.2)) us) (fun _ s'=>∃ σ' H',Inv X pins σ' H' s'/\Q σ' H') X.xe s
abbrev TSet:=V->V->V->Hp->(Hp->Prop)->Prop
def PSet (X:Cx) (t:TSet):Prop:=
 ∀ (pins:List (Addr × Obj)) (s:Shared) (σ:St) (H:Hp) (o i v:V) (ov iv u:Value) (Q:Hp->Prop),Inv X pins σ H s->RelV o ov->RelV i iv->RelV v u->t o i v H Q ->
  wpAny (model X.prog X.w) X.A (setItem ov iv u) (fun _ s'=>∃ H',Inv X pins σ H' s'/\Q H') X.xe s
abbrev TIp:=V->V->Hp->VK->Prop
def PIp (X:Cx) (op:Operator) (t:TIp):Prop:=
 ∀ (pins:List (Addr × Obj)) (s:Shared) (σ:St) (H:Hp) (x y:V) (v u:Value) (Q:VK),Inv X pins σ H s->RelV x v->RelV y u->t x y H Q ->
  wpAny (model X.prog X.w) X.A (inplaceOp op v u) (EP X pins σ Q) X.xe s
section
variable {X:Cx}{pos:Pos}
def gName (i:Nat):TG:=fun v σ H Q=>Q (σ.set i (some v)) H
theorem xO {i:Nat}{x:Str} (hN:X.N.Nodup) (hi:X.N[i]?=some x) (hx:Loc X.env.scope x) (hf:X.fn x=true\/X.env.scope.names.lookup x=some .local:=by first | exact .inl rfl | exact .inr rfl | assumption):PG X (.Name x pos) (gName i):=by
 intro pins s σ H v u Q I r h
 exact wpAny_assign_Name (store_ok I hN hi hx r (fun s' I'=>⟨_,H,I',h⟩) hf)
def gNil:TGs:=fun vs σ H Q=>vs=[]/\Q σ H
def gCons (t:TG) (u:TGs):TGs:=fun vs σ H Q=>∃ v r,vs=v :: r/\t v σ H fun σ' H'=>u r σ' H' Q
theorem xv:PGs X [] gNil:=by
 intro pins s σ H vs us Q I r h
 obtain ⟨e,h⟩:=h
 subst e
 cases r
 exact assignInOrder_nil ⟨σ,H,I,h⟩
theorem xQ {e:Expr}{es:List Expr}{t:TG}{u:TGs} (h1:PG X e t) (h2:PGs X es u)
  (hs:(assignEach (e :: es) X.env).map (·.2)=assign e X.env :: (assignEach es X.env).map (·.2):=by rfl):PGs X (e :: es) (gCons t u):=by
 intro pins s σ H vs us Q I r h
 obtain ⟨v,vr,e1,h⟩:=h
 subst e1
 cases r with
 | cons r rr=>
  rw [hs]
  refine assignInOrder_cons (thn (h1 pins s σ H _ _ _ I r h) fun _ s1 ⟨σ1,H1,I1,q1⟩=>?_)
  exact h2 pins s1 σ1 H1 _ _ Q I1 rr q1
def gTup (K:PySem.W.Frag) (n:Nat) (t:TGs):TG:=fun v σ H Q=>∃ a xs,v=.ref a/\SqT K H a xs/\xs.length=n/\t xs σ H Q
theorem pg_tup {es:List Expr}{k:Nat}{t:TGs}{n:Nat} (hc:X.calm=true) (h:PGs X es t)
  (hn:(assignEach es X.env).length=n:=by rfl) (hst:(assignEach es X.env).findIdx? (·.1)=none:=by rfl):PG X (.Tuple es k pos) (gTup X.K n t):=by
 intro pins s σ H v u Q I r hw
 obtain ⟨a,xs,e1,hq,hl,hw⟩:=hw
 subst e1
 cases r
 obtain ⟨its,rv,ht,hz⟩:=I.tuple hq
 refine assign_Tuple_tuple (I.ok.hd hc) ht (by simp [hn,<- hl,rv.length]) hst fun h' hx=>?_
 have I1:Inv X pins σ H { s with heap:=h' }:=I.kept (t':=s.toks) fun b o e=>hx b o (zU (Heap.lt_size e)) e
 exact h pins _ σ H xs _ Q I1 (by simpa using rv) hw
def gSub (to ti:TE) (t:TSet):TG:=fun v σ H Q=>to σ H fun o H1=>ti σ H1 fun i H2=>t o i v H2 fun H3=>Q σ H3
theorem pg_sub {o i:Expr}{to ti:TE}{t:TSet} (ho:PE X o to) (hi:PE X i ti) (hs:PSet X t)
  (ha:∀ v,assign (.Subscript o i pos) X.env v=(do
   let ov <- holding [v] (eval o X.env)
   let iv <- holding [v,ov] (eval i X.env)
   standAt pos
   holding [v,ov,iv] (setItem ov iv v)
   release [v,ov,iv] []):=by intro _;rfl):PG X (.Subscript o i pos) (gSub to ti t):=by
 intro pins s σ H v u Q I r h
 rw [ha]
 refine wpAny_bind (wpAny_holding (thn (ho pins s σ H _ I h) fun ov s1 ⟨x,H1,I1,r1,q1⟩=>?_))
 refine wpAny_bind (wpAny_holding (thn (hi pins s1 σ H1 _ I1 q1) fun iv s2 ⟨y,H2,I2,r2,q2⟩=>?_))
 refine wpAny_bind (wpAny_standAt (wpAny_bind (wpAny_holding (thn (hs pins s2 σ H2 x y v ov iv u _ I2 r1 r2 r q2) fun _ s3 ⟨H3,I3,q3⟩=>?_))))
 exact wpAny_release ⟨σ,H3,I3,q3⟩
def tAsg (te:TE) (g:TG):TS:=fun D σ H=>te σ H fun x H1=>g x σ H1 D.nx
theorem wW {tg e:Expr}{te:TE}{g:TG} (he:PE X e te) (hg:PG X tg g) (hs:swapsWithSole [tg] e pos.line X.env=pure false:=by rfl) (hw:swappedStores [tg] e X.env=pure none:=by rfl)
  (h1:(assignEach [tg] X.env).map (·.2)=[assign tg X.env]:=by rfl):PS X (.Assign [tg] e pos) (tAsg te g):=by
 intro pins s σ H D I h
 refine wpAny_Assign_stores (thn (he pins s σ H _ I h) fun v s1 ⟨x,H1,I1,r1,q1⟩=>?_) hs hw
 rw [h1]
 exact thn (hg pins s1 σ H1 x v _ I1 r1 q1) fun _ s2 q=>q
theorem xX {i:Nat}{x:Str}{e:Expr}{te:TE}{pos':Pos} (hN:X.N.Nodup) (hi:X.N[i]?=some x) (hx:Loc X.env.scope x) (he:PE X e te) (hs:swapsWith e (some (.Name x pos')) pos.line X.env=pure false:=by rfl) (hf:X.fn x=true\/X.env.scope.names.lookup x=some .local:=by first | exact .inl rfl | exact .inr rfl | assumption) :
  PS X (.Assign [.Name x pos'] e pos) (tAsg te (gName i)):=by
 intro pins s σ H D I h
 refine wpAny_Assign_Name (thn (he pins s σ H _ I h) fun v s1 ⟨y,H1,I1,r1,q1⟩=>?_) hs
 exact store_ok I1 hN hi hx r1 (fun s2 I2=>⟨_,H1,I2,q1⟩) hf
def tAugS (to ti te:TE) (tget:V->V->Hp->VK->Prop) (tip:TIp) (tset:TSet):TS:=fun D σ H=>to σ H fun o H1=>ti σ H1 fun i H2=>tget o i H2 fun x H3=>te σ H3 fun y H4=>tip x y H4 fun z H5=>tset o i z H5 fun H6=>D.nx σ H6
def PGet (X:Cx) (t:V->V->Hp->VK->Prop):Prop:=
 ∀ (pins:List (Addr × Obj)) (s:Shared) (σ:St) (H:Hp) (o i:V) (ov iv:Value) (Q:VK),Inv X pins σ H s->RelV o ov->RelV i iv->t o i H Q ->
  wpAny (model X.prog X.w) X.A (getItem ov iv) (EP X pins σ Q) X.xe s
theorem ps_augS {o i e:Expr}{to ti te:TE}{tget:V->V->Hp->VK->Prop}{tip:TIp}{tset:TSet}{op:Operator}{tpos:Pos} (ho:PE X o to) (hi:PE X i ti) (hg:PGet X tget) (he:PE X e te) (hp:PIp X op tip) (hs:PSet X tset)
  (ha:∀ ov iv new,augStore i ov iv new=(do holding [new,ov,iv] (setItem ov iv new);release [new,ov,iv] [];pure .next):=by intros;rfl):PS X (.AugAssign (.Subscript o i tpos) op e pos) (tAugS to ti te tget tip tset):=by
 intro pins s σ H D I h
 refine wpAny_AugAssign_SubscriptAny (thn (ho pins s σ H _ I h) fun ov s1 ⟨x1,H1,I1,r1,q1⟩=>?_) ha
 refine thn (hi pins s1 σ H1 _ I1 q1) fun iv s2 ⟨x2,H2,I2,r2,q2⟩=>?_
 refine thn (hg pins s2 σ H2 x1 x2 ov iv _ I2 r1 r2 q2) fun old s3 ⟨x3,H3,I3,r3,q3⟩=>?_
 refine thn (he pins s3 σ H3 _ I3 q3) fun v s4 ⟨x4,H4,I4,r4,q4⟩=>?_
 refine thn (hp pins s4 σ H4 x3 x4 old v _ I4 r3 r4 q4) fun new s5 ⟨x5,H5,I5,r5,q5⟩=>?_
 exact thn (hs pins s5 σ H5 x1 x2 x5 ov iv new _ I5 r1 r2 r5 q5) fun _ s6 ⟨H6,I6,q6⟩=>⟨σ,H6,I6,q6⟩
def ipI (f:Int->Int->Int):TIp:=fun x y H Q=>∃ i j,x=.int i/\y=.int j/\Q (.int (f i j)) H
theorem ip_add:PIp X .Add (ipI fun i j=>i + j):=by
 intro pins s σ H x y v u Q I r1 r2 h
 obtain ⟨i,j,e1,e2,q⟩:=h
 subst e1;subst e2
 obtain ⟨t,rfl⟩:=r1
 obtain ⟨t',rfl⟩:=r2
 exact iadd_int ⟨.int _,H,I.tok _,⟨_,rfl⟩,q⟩
theorem ip_sub:PIp X .Sub (ipI fun i j=>i - j):=by
 intro pins s σ H x y v u Q I r1 r2 h
 obtain ⟨i,j,e1,e2,q⟩:=h
 subst e1;subst e2
 obtain ⟨t,rfl⟩:=r1
 obtain ⟨t',rfl⟩:=r2
 exact isub_int ⟨.int _,H,I.tok _,⟨_,rfl⟩,q⟩
end
section
variable {X:Cx}{pos:Pos}
end
structure It where
 go:Nat->Hp->Prop
 yld:Nat->Hp->V->Hp->Prop
 stop:Nat->Hp->Prop
def FpOk (X:Cx) (pins:List (Addr × Obj)) (H:Hp) (b:Addr):Prop:=
 H b=none/\b ≠ X.env.locals/\b ∉ X.fs/\(b ∈ X.ex\/X.s₀.heap.objs.size<=b)/\(∀ x c,X.env.cells.lookup x=some c->c ≠ b)/\∀ p ∈ X.pn ++ pins,p.1 ≠ b
theorem Inv.fpOk {X:Cx}{pins:List (Addr × Obj)}{σ:St}{H H':Hp}{s:Shared}{b:Addr} (I:Inv X pins σ H s) (hb:s.heap.objs.size<=b) (hn:H' b=none):FpOk X pins H' b:=by
 refine ⟨hn,yz (zV I.lt hb),I.nofs hb,.inr (zq I.sz hb),fun x c e z=>?_,fun p hp z=>?_⟩
 ·obtain ⟨v,q⟩:=I.cell x c e
  exact absurd (zV q.lt (by rw [z];exact hb)) (ze _)
 ·exact absurd (zV (Heap.lt_size (I.pin p hp).1) (by rw [z];exact hb)) (ze _)
structure Turn (P:Program) (w:World) (K:PySem.W.Frag) (tg:Expr) (J:It) (fp:List Addr) (it:Addr) (tn:Nat->Heap->Prop):Prop where
 mem:it ∈ fp
 obj:∀ i h,tn i h->∀ b ∈ fp,∃ o,h.get? b=some o/\∀ v,o.data ≠ .cell v
 keep:∀ i h h',tn i h->(∀ b ∈ fp,∀ o,h.get? b=some o->h'.get? b=some o)->tn i h'
 item:∀ (X:Cx),X.prog=P->X.w=w->X.K=K->X.calm=true->∀ (i:Nat) (pins:List (Addr × Obj)) (s:Shared) (σ:St) (H:Hp) (E:Value->Shared->Prop),Inv X pins σ H s->(∀ b ∈ fp,FpOk X pins H b)->tn i s.heap->J.go i H ->
  wpAny (model P w) X.A (pyNext (.ref it)) (fun r s1=>∃ u,r=some u /\
   wpAny (model P w) X.A (letOwnedTupleGo tg (.ref it) u) (fun _ s2=>∃ x H',Inv X pins σ H' s2/\RelV x u/\J.yld i H x H'/\tn (i + 1) s2.heap/\∀ b ∈ fp,H' b=none) E s1) E s
 done:∀ (X:Cx),X.prog=P->X.w=w->X.K=K->X.calm=true->∀ (i:Nat) (pins:List (Addr × Obj)) (s:Shared) (σ:St) (H:Hp) (E:Value->Shared->Prop),Inv X pins σ H s->(∀ b ∈ fp,FpOk X pins H b)->tn i s.heap->J.stop i H ->
  wpAny (model P w) X.A (pyNext (.ref it)) (fun r s1=>r=none/\Inv X pins σ H s1) E s
 self:∀ (A:Around) (i:Nat) (s:Shared) (Q:Value->Shared->Prop) (E:Value->Shared->Prop),tn i s.heap->Q (.ref it) s->wpAny (model P w) A (pyIter (.ref it)) Q E s
abbrev TI:=St->Hp->(It->Hp->Prop)->Prop
def PIE (X:Cx) (pins:List (Addr × Obj)) (σ:St) (tg:Expr) (R:It->Hp->Prop) (itv:Value) (s2:Shared):Prop:=
 ∃ (it:Addr) (fp:List Addr) (tn:Nat->Heap->Prop) (J:It) (H':Hp),itv=.ref it/\Inv X pins σ H' s2/\Turn X.prog X.w X.K tg J fp it tn/\tn 0 s2.heap/\(∀ b ∈ fp,FpOk X pins H' b)/\R J H'
def PI (X:Cx) (tg iter:Expr) (wi:TI):Prop:=
 ∀ (pins:List (Addr × Obj)) (s:Shared) (σ:St) (H:Hp) (R:It->Hp->Prop),Inv X pins σ H s->wi σ H R ->
  wpAny (model X.prog X.w) X.A (eval iter X.env) (fun v s1=>wpAny (model X.prog X.w) X.A (pyIter v) (PIE X pins σ tg R) X.xe s1) X.xe s
theorem go_of {M:Model}{A:Around}{E:Value->Shared->Prop}{s:Shared}{tg:Expr}{it:Addr}{u:Value}{o:Obj}{n:String}{vs:Array Value}{Q:Unit->Shared->Prop} (ho:s.heap.get? it=some o) (hc:o.cls=.type n) (hd:o.data=.fields vs)
    (hn:["enumerate", "zip", "dict_itemiterator", "dict_reverseitemiterator", "odict_iterator", "itertools.zip_longest", "itertools.pairwise"].contains n=false) (hQ:Q () s):wpAny M A (letOwnedTupleGo tg (.ref it) u) Q E s:=by
  unfold letOwnedTupleGo
  cases tg <;> first
    | exact wpAny_pure hQ
    | (cases u <;> first
        | exact wpAny_pure hQ
        | (refine wpAny_bind (wpAny_load ho ?_)
           rw [hc,hd]
           show wpAny M A (if (["enumerate", "zip", "dict_itemiterator", "dict_reverseitemiterator", "odict_iterator", "itertools.zip_longest", "itertools.pairwise"].contains n && vs[0]? == some (rawInt _))=true then _ else _) Q E s
           rw [if_neg (by intro h;rw [hn,yP] at h;cases h)]
           exact wpAny_pure hQ))
def Itl (K:PySem.W.Frag) (a:Addr):It:=
 ⟨fun i H=>∃ xs x,SqL K H a xs/\xs[i]?=some x,fun i H x H'=>H'=H/\∀ xs,SqL K H a xs->xs[i]?=some x,fun i H=>∃ xs,SqL K H a xs/\xs.length<=i⟩
def Itt (K:PySem.W.Frag) (a:Addr):It:=
 ⟨fun i H=>∃ xs x,SqT K H a xs/\xs[i]?=some x,fun i H x H'=>H'=H/\∀ xs,SqT K H a xs->xs[i]?=some x,fun i H=>∃ xs,SqT K H a xs/\xs.length<=i⟩
def Itr (lo:Int) (n:Nat):It:=⟨fun i _=>i < n,fun i H x H'=>H'=H/\x=.int (lo + i),fun i _=>n<=i⟩
theorem turn_list {P:Program}{w:World}{K:PySem.W.Frag}{tg:Expr} (a it:Addr):Turn P w K tg (Itl K a) [it] it (fun i h=>h.IsListIter it a i) where
 mem:=by simp
 obj:=fun i h st b hb=>by
  have e:b=it:=by simpa using hb
  subst e
  obtain ⟨o,e,c,d⟩:=st
  exact ⟨o,e,fun v z=>by rw [d] at z;cases z⟩
 keep:=fun i h h' st k=>st.at fun o e=>k it (by simp) o e
 item:=by
  intro X hP hw hK hc i pins s σ H E I hf st hg
  subst hP hw hK
  obtain ⟨xs,x,hq,hx⟩:=hg
  obtain ⟨its,rv,p,hz⟩:=I.list hq
  obtain ⟨u,hu,ru⟩:=rv.get hx
  obtain ⟨f0,f1,f2,f3,f4,f5⟩:=hf it (by simp)
  refine wpAny_pyNext_list_item st p.isList (x:=u) (by simpa using hu) fun h' st' sb=>?_
  have I1:Inv X pins σ H { s with heap:=h' }:=I.turned (t':=s.toks) (fun b o hb e=>(sb.2 b hb).trans e) f0 f1 f3 f4 f5
  obtain ⟨o,e,c,d⟩:=id st'
  exact ⟨u,rfl,go_of (s:={ s with heap:=h' }) e c d (by decide) ⟨x,H,I1,ru,⟨rfl,fun ys hy=>by rw [I.list_inj hy hq];exact hx⟩,st',fun b hb=>(hf b hb).1⟩⟩
 done:=by
  intro X hP hw hK hc i pins s σ H E I hf st hg
  subst hP hw hK
  obtain ⟨xs,hq,hx⟩:=hg
  obtain ⟨its,rv,p,hz⟩:=I.list hq
  obtain ⟨f0,f1,f2,f3,f4,f5⟩:=hf it (by simp)
  have hl:=rv.length
  exact wpAny_pyNext_list_end (I.ok.hd hc) st p.isList (by simp;omega) fun h' eb=>⟨rfl,I.turned (t':=s.toks) (fun b o hb e=>eb b o hb e) f0 f1 f3 f4 f5⟩
 self:=fun _ _ _ _ _ st h=>wpAny_pyIter_listiter st h
theorem turn_tuple {P:Program}{w:World}{K:PySem.W.Frag}{tg:Expr} (a it:Addr):Turn P w K tg (Itt K a) [it] it (fun i h=>h.IsTupleIter it a i) where
 mem:=by simp
 obj:=fun i h st b hb=>by
  have e:b=it:=by simpa using hb
  subst e
  obtain ⟨o,e,c,d⟩:=st
  exact ⟨o,e,fun v z=>by rw [d] at z;cases z⟩
 keep:=fun i h h' st k=>st.at fun o e=>k it (by simp) o e
 item:=by
  intro X hP hw hK hc i pins s σ H E I hf st hg
  subst hP hw hK
  obtain ⟨xs,x,hq,hx⟩:=hg
  obtain ⟨its,rv,p,hz⟩:=I.tuple hq
  obtain ⟨u,hu,ru⟩:=rv.get hx
  obtain ⟨f0,f1,f2,f3,f4,f5⟩:=hf it (by simp)
  refine wpAny_pyNext_tuple_item st (show s.heap.IsTuple a its.toArray from p) (x:=u) (by simpa using hu) fun h' st' sb=>?_
  have I1:Inv X pins σ H { s with heap:=h' }:=I.turned (t':=s.toks) (fun b o hb e=>(sb.2 b hb).trans e) f0 f1 f3 f4 f5
  obtain ⟨o,e,c,d⟩:=id st'
  exact ⟨u,rfl,go_of (s:={ s with heap:=h' }) e c d (by decide) ⟨x,H,I1,ru,⟨rfl,fun ys hy=>by rw [I.tuple_inj hy hq];exact hx⟩,st',fun b hb=>(hf b hb).1⟩⟩
 done:=by
  intro X hP hw hK hc i pins s σ H E I hf st hg
  subst hP hw hK
  obtain ⟨xs,hq,hx⟩:=hg
  obtain ⟨its,rv,p,hz⟩:=I.tuple hq
  obtain ⟨f0,f1,f2,f3,f4,f5⟩:=hf it (by simp)
  have hl:=rv.length
  exact wpAny_pyNext_tuple_end (I.ok.hd hc) st (show s.heap.IsTuple a its.toArray from p) (by simp;omega) fun h' eb=>⟨rfl,I.turned (t':=s.toks) (fun b o hb e=>eb b o hb e) f0 f1 f3 f4 f5⟩
 self:=fun _ _ _ _ _ st h=>wpAny_pyIter_tupleiter st h
theorem turn_range {P:Program}{w:World}{K:PySem.W.Frag}{tg:Expr} (it:Addr) (lo:Int) (n:Nat):Turn P w K tg (Itr lo n) [it] it (fun i h=>IsRangeIter h it (lo + (i:Nat) * 1) ((n:Int) - (i:Nat)) 1) where
 mem:=by simp
 obj:=fun i h st b hb=>by
  have e:b=it:=by simpa using hb
  subst e
  exact ⟨_,st,fun v z=>by
   have z':Data.fields _=Data.cell v:=z
   cases z'⟩
 keep:=fun i h h' st k=>k it (by simp) _ st
 item:=by
  intro X hP hw hK hc i pins s σ H E I hf st hg
  subst hP hw hK
  obtain ⟨f0,f1,f2,f3,f4,f5⟩:=hf it (by simp)
  have W:=Walks.range (prog:=X.prog) (w:=X.w) (I.ok.hd hc) it lo 1 n
  refine W.item i s _ _ hg st fun v h' tk hv st' kk=>?_
  obtain ⟨t,rfl⟩:=hv
  have I1:Inv X pins σ H { s with heap:=h',toks:=tk }:=I.turned (fun b o hb e=>kk b o (by simpa using hb) e) f0 f1 f3 f4 f5
  refine ⟨_,rfl,go_of (s:={ s with heap:=h',toks:=tk }) (n := "range_iterator") st' rfl rfl (by decide) ⟨.int (lo + i),H,I1,⟨t,?_⟩,⟨rfl,rfl⟩,st',fun b hb=>(hf b hb).1⟩⟩
  rw [Int.mul_one]
 done:=by
  intro X hP hw hK hc i pins s σ H E I hf st hg
  subst hP hw hK
  obtain ⟨f0,f1,f2,f3,f4,f5⟩:=hf it (by simp)
  exact wpAny_pyNext_range_end (I.ok.hd hc) st (by have:n<=i:=hg;omega) fun h' eb=>⟨rfl,I.turned (t':=s.toks) (fun b o hb e=>eb b o hb e) f0 f1 f3 f4 f5⟩
 self:=fun _ _ _ _ _ st h=>wpAny_pyIter_rangeiter st h
end L2
namespace L2
open PySem PySem.Spec PyProof.Rows
section
variable {X:Cx}{tg:Expr}
def iList (K:PySem.W.Frag) (tl:TE):TI:=fun σ H R=>tl σ H fun x H1=>∃ a,x=.ref a/\(∃ xs,SqL K H1 a xs)/\R (Itl K a) H1
def iTup (K:PySem.W.Frag) (tl:TE):TI:=fun σ H R=>tl σ H fun x H1=>∃ a,x=.ref a/\(∃ xs,SqT K H1 a xs)/\R (Itt K a) H1
theorem pi_list {l:Expr}{tl:TE} (hl:PE X l tl):PI X tg l (iList X.K tl):=by
 intro pins s σ H R I h
 refine thn (hl pins s σ H _ I h) fun v s1 ⟨x,H1,I1,r1,q1⟩=>?_
 obtain ⟨a,e,⟨xs,hq⟩,q⟩:=q1
 subst e
 cases r1
 obtain ⟨its,rv,p,hz⟩:=I1.list hq
 refine wpAny_pyIter_list p.isList ?_
 refine ⟨s1.heap.objs.size,[s1.heap.objs.size],_,_,H1,rfl,I1.kept (t':=s1.toks) fun b o e=>Heap.get?_push_of_some _ e,turn_list a _,⟨_,Heap.get?_push_size _ rfl,rfl,rfl⟩,fun b hb=>?_,q⟩
 have e:b=s1.heap.objs.size:=by simpa using hb
 subst e
 exact I1.fpOk (zJ _) (I1.hok.fresh (zJ _))
theorem pi_tup {l:Expr}{tl:TE} (hl:PE X l tl):PI X tg l (iTup X.K tl):=by
 intro pins s σ H R I h
 refine thn (hl pins s σ H _ I h) fun v s1 ⟨x,H1,I1,r1,q1⟩=>?_
 obtain ⟨a,e,⟨xs,hq⟩,q⟩:=q1
 subst e
 cases r1
 obtain ⟨its,rv,p,hz⟩:=I1.tuple hq
 refine wpAny_pyIter_tuple (show s1.heap.IsTuple a its.toArray from p) ?_
 refine ⟨s1.heap.objs.size,[s1.heap.objs.size],_,_,H1,rfl,I1.kept (t':=s1.toks) fun b o e=>Heap.get?_push_of_some _ e,turn_tuple a _,⟨_,Heap.get?_push_size _ rfl,rfl,rfl⟩,fun b hb=>?_,q⟩
 have e:b=s1.heap.objs.size:=by simpa using hb
 subst e
 exact I1.fpOk (zJ _) (I1.hok.fresh (zJ _))
theorem range_it {pins:List (Addr × Obj)}{σ:St}{H:Hp}{s:Shared}{R:It->Hp->Prop}{E:Value->Shared->Prop}{lo hi:Int}{t u v:Tok}{tk:Nat} (I:Inv X pins σ H s) (h1:-(2 ^ 62)<=lo) (h2:lo < 2 ^ 62) (h3:-(2 ^ 62)<=hi) (h4:hi < 2 ^ 62)
  (q:R (Itr lo (hi - lo).toNat) H):wpAny (model X.prog X.w) X.A (pyIter (.ref s.heap.objs.size)) (PIE X pins σ tg R) E { s with heap:=s.heap.push { cls:=.type "range", data:=.fields #[.int lo t,.int hi u,.int 1 v] },toks:=tk }:=by
 refine wpAny_pyIter_range (IsRange.new ..) (small_one h1 h2 h3 h4) ?_
 have I1:Inv X pins σ H { s with heap:=s.heap.push { cls:=.type "range", data:=.fields #[.int lo t,.int hi u,.int 1 v] },toks:=tk }:=I.kept fun b o e=>Heap.get?_push_of_some _ e
 refine ⟨(s.heap.push { cls:=.type "range", data:=.fields #[.int lo t,.int hi u,.int 1 v] }).objs.size,[(s.heap.push { cls:=.type "range", data:=.fields #[.int lo t,.int hi u,.int 1 v] }).objs.size],_,_,H,rfl,
  I1.kept (t':=tk) fun b o e=>Heap.get?_push_of_some _ e,turn_range _ lo (hi - lo).toNat,?_,fun b hb=>?_,q⟩
 ·have e1:lo + ((0:Nat):Int) * 1=lo:=by simp
  have e2:(((hi - lo).toNat:Nat):Int) - ((0:Nat):Int)=Builtin.Range.rangeSize lo hi 1:=by rw [rangeSize_one];split <;> omega
  show IsRangeIter _ _ (lo + ((0:Nat):Int) * 1) ((((hi - lo).toNat:Nat):Int) - ((0:Nat):Int)) 1
  rw [e1,e2]
  exact Heap.get?_push_size _ rfl
 ·have e:b=(s.heap.push { cls:=.type "range", data:=.fields #[.int lo t,.int hi u,.int 1 v] }).objs.size:=by simpa using hb
  subst e
  exact I1.fpOk (zJ _) (I1.hok.fresh (zJ _))
def iRng1 (ta:TA):TI:=fun σ H R=>ta σ H fun vs H1=>∃ j:Int,vs=[.int j]/\-(2 ^ 62)<=j/\j < 2 ^ 62/\R (Itr 0 j.toNat) H1
def iRng2 (ta:TA):TI:=fun σ H R=>ta σ H fun vs H1=>∃ i j:Int,vs=[.int i,.int j]/\(-(2 ^ 62)<=i/\i < 2 ^ 62/\-(2 ^ 62)<=j/\j < 2 ^ 62)/\R (Itr i (j - i).toNat) H1
theorem wH {a:Expr}{ta:TA}{p pos:Pos} (hg:Gl X "range") (hm:X.mg "range" = none) (ha:PA X [a] ta) (hs:starEach [a] X.env=[(false,eval a X.env)]:=by rfl):PI X tg (.Call (.Name "range" p) [a] [] pos) (iRng1 ta):=by
 intro pins s σ H R I h
 refine Call_ (ld_blt I hg hm boot_range (PyProof.Rows.callWith_type1 (thn (ha pos pins s σ H _ I h) fun us s1 ⟨vs,H1,I1,r1,q1⟩=>?_) hs rfl))
 obtain ⟨j,e,q1,q2,q⟩:=q1
 subst e
 cases r1 with
 | cons r rr=>
  cases rr
  obtain ⟨t,rfl⟩:=r
  exact call_range_1 (range_it I1 (by omega) (by omega) q1 q2 (by simpa using q))
theorem pi_range2 {a b:Expr}{ta:TA}{p pos:Pos} (hg:Gl X "range") (hm:X.mg "range" = none) (ha:PA X [a,b] ta) (hs:starEach [a,b] X.env=[(false,eval a X.env),(false,eval b X.env)]:=by rfl) (hs2:starEach [b] X.env=[(false,eval b X.env)]:=by rfl) :
  PI X tg (.Call (.Name "range" p) [a,b] [] pos) (iRng2 ta):=by
 intro pins s σ H R I h
 refine Call_ (ld_blt I hg hm boot_range (PyProof.Rows.callWith_type1 (thn (ha pos pins s σ H _ I h) fun us s1 ⟨vs,H1,I1,r1,q1⟩=>?_) (by rw [hs,hs2]) (by rw [hs2];rfl)))
 obtain ⟨i,j,e,⟨q1,q2,q3,q4⟩,q⟩:=q1
 subst e
 cases r1 with
 | cons r rr=>
  cases rr with
  | cons r' rr=>
   cases rr
   obtain ⟨t,rfl⟩:=r
   obtain ⟨t',rfl⟩:=r'
   exact call_range_2 (range_it I1 q1 q2 q3 q4 q)
def tFor (wi:TI) (g:TG) (tb:TS):TS:=fun D σ H=>wi σ H fun J H1=>∃ W:Nat->Nat->St->Hp->Prop,(∃ m,W 0 m σ H1)/\∀ i m σ H,W i m σ H ->
 (J.stop i H/\D.nx σ H)\/(J.go i H/\∃ N:St->Hp->Prop,(∀ σ' H',N σ' H'->∃ m',m' < m/\W (i + 1) m' σ' H')/\∀ x H',J.yld i H x H'->g x σ H' fun σ2 H2=>tb { D with nx:=N,ct:=N,bk:=D.nx } σ2 H2)
def pinsAt (fp:List Addr) (h:Heap):List (Addr × Obj):=fp.filterMap fun b=>(h.get? b).map fun o=>(b,o)
theorem wS {fp:List Addr}{h:Heap}{b:Addr}{o:Obj} (hb:b ∈ fp) (e:h.get? b=some o):(b,o) ∈ pinsAt fp h:=z4.mpr ⟨b,hb,by rw [e];rfl⟩
theorem of_pinsAt {fp:List Addr}{h:Heap}{p:Addr × Obj} (hp:p ∈ pinsAt fp h):p.1 ∈ fp/\h.get? p.1=some p.2:=by
 obtain ⟨b,hb,e⟩:=z4.mp hp
 cases q:h.get? b with
 | none=>rw [q] at e;cases e
 | some o=>
  rw [q] at e
  have e':(b,o)=p:=Option.some.inj e
  subst e'
  exact ⟨hb,q⟩
theorem Inv.pinned {pins:List (Addr × Obj)}{σ:St}{H:Hp}{s:Shared}{fp:List Addr} (I:Inv X pins σ H s) (hf:∀ b ∈ fp,FpOk X pins H b) (ho:∀ b ∈ fp,∃ o,s.heap.get? b=some o/\∀ v,o.data ≠ .cell v):Inv X (pins ++ pinsAt fp s.heap) σ H s:=
 I.pins_of fun p hp=>(zW.mp hp).elim (fun z=>I.pin p (zS _ z)) fun z=>by
  obtain ⟨hb,e⟩:=of_pinsAt z
  obtain ⟨f0,f1,f2,_⟩:=hf p.1 hb
  obtain ⟨o,e',d⟩:=ho p.1 hb
  rw [e] at e';cases e'
  exact ⟨e,f0,f1,f2,d⟩
theorem Inv.unpinned {pins pl:List (Addr × Obj)}{σ:St}{H:Hp}{s:Shared} (I:Inv X (pins ++ pl) σ H s):Inv X pins σ H s:=I.pins_of fun p hp=>I.pin p (zS _ (ye _ hp))
theorem ps_for {iter:Expr}{body:List Stmt}{wi:TI}{g:TG}{tb:TS}{pos:Pos} (hp:PassesOwn (model X.prog X.w) X.A X.env X.xe) (hc:X.calm=true) (hi:PI X tg iter wi) (hg:PG X tg g) (hb:PSs X body tb)
  (hs:∀ x,foldedSetIterable iter X.env x=pure x:=by intro _;rfl):PS X (.For tg iter body [] pos) (tFor wi g tb):=by
 intro pins s σ H D I h
 refine wpAny_For (thn (hi pins s σ H _ I h) fun v s1 h1=>thn h1 fun itv s2 h2=>?_) hs
 obtain ⟨it,fp,tn,J,H2,e,I2,T,st2,f2,W,⟨m0,w0⟩,turn⟩:=h2
 subst e
 -- what stays true of the iterator's objects through the loop
 have stat:∀ {H':Hp},(∀ b ∈ fp,H' b=none)->∀ b ∈ fp,FpOk X pins H' b:=fun hn b hb=>⟨hn b hb,(f2 b hb).2⟩
 refine codeAny_forLoop_any (fun n s'=>∃ i σ' H',Inv X pins σ' H' s'/\tn i s'.heap/\(∀ b ∈ fp,H' b=none)/\W i n σ' H') ?_ m0 ⟨0,σ,H2,I2,st2,fun b hb=>(f2 b hb).1,w0⟩
 rintro n s3 ⟨i,σ3,H3,I3,st3,fr3,w3⟩
 rcases turn i n σ3 H3 w3 with ⟨stop,qn⟩ | ⟨go,N,hN,step⟩
 ·refine wpAny_passesOwn hp (thn (T.done X rfl rfl rfl hc i pins s3 σ3 H3 X.xe I3 (stat fr3) st3 stop) fun r s4 ⟨hr,I4⟩=>?_)
  subst hr
  exact wpAny_execs_nil ⟨σ3,H3,I4,qn⟩
 ·refine wpAny_passesOwn hp (thn (T.item X rfl rfl rfl hc i pins s3 σ3 H3 X.xe I3 (stat fr3) st3 go) fun r s4 ⟨u,hr,h4⟩=>?_)
  subst hr
  refine wpAny_passesOwn hp (thn h4 fun _ s5 ⟨x,H5,I5,r5,y5,st5,fr5⟩=>?_)
  have I5':=I5.pinned (stat fr5) (T.obj _ _ st5)
  refine wpAny_passesOwn hp (thn (hg _ s5 σ3 H5 x u _ I5' r5 (step x H5 y5)) fun _ s6 ⟨σ6,H6,I6,q6⟩=>?_)
  refine wpAny_passesOwn hp (thn (hb _ s6 σ6 H6 _ I6 q6) fun f s7 q7=>?_)
  have again:∀ {σ7:St} {H7:Hp},Inv X (pins ++ pinsAt fp s5.heap) σ7 H7 s7->N σ7 H7->∃ m,m < n/\∃ i σ' H',Inv X pins σ' H' s7/\tn i s7.heap/\(∀ b ∈ fp,H' b=none)/\W i m σ' H':=fun {σ7 H7} I7 n7=>by
   obtain ⟨m',hm,w7⟩:=hN σ7 H7 n7
   refine ⟨m',hm,i + 1,σ7,H7,I7.unpinned,T.keep _ _ _ st5 fun b hb o e=>(I7.pin (b,o) (zS _ (zS _ (wS hb e)))).1,fun b hb=>?_,w7⟩
   obtain ⟨o,e,d⟩:=T.obj _ _ st5 b hb
   exact (I7.pin (b,o) (zS _ (zS _ (wS hb e)))).2.1
  cases f with
  | next=>obtain ⟨σ7,H7,I7,n7⟩:=q7;exact again I7 n7
  | cont=>obtain ⟨σ7,H7,I7,n7⟩:=q7;exact again I7 n7
  | brk=>obtain ⟨σ7,H7,I7,q7⟩:=q7;exact ⟨σ7,H7,I7.unpinned,q7⟩
  | ret v=>obtain ⟨x7,σ7,H7,I7,r7,q7⟩:=q7;exact ⟨x7,σ7,H7,I7.unpinned,r7,q7⟩
end
theorem for_tup {K:PySem.W.Frag}{a:Addr}{xs:List V}{g:TG}{tb:TS}{D:Ends}{σ:St}{H:Hp} (Pv:Nat->St->Hp->Prop) (h0:Pv 0 σ H) (hl:∀ i σ H,i<=xs.length->Pv i σ H->SqT K H a xs)
  (hs:∀ i x σ H,xs[i]?=some x->Pv i σ H->g x σ H fun σ2 H2=>tb { D with nx:=Pv (i + 1),ct:=Pv (i + 1),bk:=D.nx } σ2 H2) (hd:∀ σ H,Pv xs.length σ H->D.nx σ H) :
  ∃ W:Nat->Nat->St->Hp->Prop,(∃ m,W 0 m σ H)/\∀ i m σ H,W i m σ H ->
   ((Itt K a).stop i H/\D.nx σ H)\/((Itt K a).go i H/\∃ N:St->Hp->Prop,(∀ σ' H',N σ' H'->∃ m',m' < m/\W (i + 1) m' σ' H')/\∀ x H',(Itt K a).yld i H x H'->g x σ H' fun σ2 H2=>tb { D with nx:=N,ct:=N,bk:=D.nx } σ2 H2):=by
 refine ⟨fun i m σ H=>m=xs.length - i/\i<=xs.length/\Pv i σ H,⟨xs.length,by simp,zb _,h0⟩,?_⟩
 rintro i m σ H ⟨rfl,hi,p⟩
 have q:=hl i σ H hi p
 by_cases hlt:i < xs.length
 ·refine .inr ⟨⟨xs,xs[i],q,by simp [hlt]⟩,Pv (i + 1),fun σ' H' p'=>⟨xs.length - (i + 1),by omega,rfl,hlt,p'⟩,fun x H' y=>?_⟩
  obtain ⟨e,y⟩:=y
  subst e
  exact hs i x σ _ (y xs q) p
 ·have e:i=xs.length:=by omega
  subst e
  exact .inl ⟨⟨xs,q,zJ _⟩,hd σ H p⟩
theorem for_range {lo:Int}{n:Nat}{g:TG}{tb:TS}{D:Ends}{σ:St}{H:Hp} (Pv:Nat->St->Hp->Prop) (h0:Pv 0 σ H)
  (hs:∀ i σ H,i < n->Pv i σ H->g (.int (lo + i)) σ H fun σ2 H2=>tb { D with nx:=Pv (i + 1),ct:=Pv (i + 1),bk:=D.nx } σ2 H2) (hd:∀ σ H,Pv n σ H->D.nx σ H) :
  ∃ W:Nat->Nat->St->Hp->Prop,(∃ m,W 0 m σ H)/\∀ i m σ H,W i m σ H ->
   ((Itr lo n).stop i H/\D.nx σ H)\/((Itr lo n).go i H/\∃ N:St->Hp->Prop,(∀ σ' H',N σ' H'->∃ m',m' < m/\W (i + 1) m' σ' H')/\∀ x H',(Itr lo n).yld i H x H'->g x σ H' fun σ2 H2=>tb { D with nx:=N,ct:=N,bk:=D.nx } σ2 H2):=by
 refine ⟨fun i m σ H=>m=n - i/\i<=n/\Pv i σ H,⟨n,by simp,zb _,h0⟩,?_⟩
 rintro i m σ H ⟨rfl,hi,p⟩
 by_cases hlt:i < n
 ·refine .inr ⟨hlt,Pv (i + 1),fun σ' H' p'=>⟨n - (i + 1),by omega,rfl,hlt,p'⟩,fun x H' y=>?_⟩
  obtain ⟨e,y⟩:=y
  subst e y
  exact hs i σ _ hlt p
 ·have e:i=n:=by omega
  subst e
  exact .inl ⟨zJ _,hd σ H p⟩
end L2
namespace L2
open PySem PySem.Spec PyProof.Rows
abbrev R2:=V->V->Hp->VK->Prop
def OpR (X:Cx) (f:Value->Value->Sem Value) (r:R2):Prop:=
 ∀ (pins:List (Addr × Obj)) (s:Shared) (σ:St) (H:Hp) (x y:V) (v u:Value) (Q:VK),Inv X pins σ H s->RelV x v->RelV y u->r x y H Q ->
  wpAny (model X.prog X.w) X.A (f v u) (EP X pins σ Q) X.xe s
def UnR (X:Cx) (f:Value->Sem Value) (r:V->Hp->VK->Prop):Prop:=
 ∀ (pins:List (Addr × Obj)) (s:Shared) (σ:St) (H:Hp) (x:V) (v:Value) (Q:VK),Inv X pins σ H s->RelV x v->r x H Q ->
  wpAny (model X.prog X.w) X.A (f v) (EP X pins σ Q) X.xe s
def CallR (X:Cx) (f:Value) (r:List V->Hp->VK->Prop):Prop:=
 ∀ (pins:List (Addr × Obj)) (s:Shared) (σ:St) (H:Hp) (xs:List V) (us:List Value) (Q:VK),Inv X pins σ H s->Vals xs us->r xs H Q ->
  wpAny (model X.prog X.w) X.A (call f us) (EP X pins σ Q) X.xe s
def tOp (r:R2) (ta tb:TE):TE:=fun σ H Q=>ta σ H fun x H1=>tb σ H1 fun y H2=>r x y H2 Q
def tUn (r:V->Hp->VK->Prop) (ta:TE):TE:=fun σ H Q=>ta σ H fun x H1=>r x H1 Q
def rI (C:Int->Int->Prop) (g:Int->Int->V):R2:=fun x y H Q=>∃ i j,x=.int i/\y=.int j/\C i j/\Q (g i j) H
def rI0 (g:Int->Int->V):R2:=fun x y H Q=>∃ i j,x=.int i/\y=.int j/\Q (g i j) H
def rU (g:Int->V):V->Hp->VK->Prop:=fun x H Q=>∃ i,x=.int i/\Q (g i) H
section
variable {X:Cx}{a b c:Expr}{ta tb tc:TE}{pos:Pos}
theorem binT (ha:PE X a ta) (hb:PE X b tb) {pins:List (Addr × Obj)}{s:Shared}{σ:St}{H:Hp}{R:V->V->Hp->Prop} (I:Inv X pins σ H s)
  (h:ta σ H fun x H1=>tb σ H1 fun y H2=>R x y H2) {Q:Value->Shared->Prop}{f:Value->Value->Sem Value}
  (hf:∀ v u s2 x y H2,Inv X pins σ H2 s2->RelV x v->RelV y u->R x y H2->wpAny (model X.prog X.w) X.A (f v u) Q X.xe s2) :
  wpAny (model X.prog X.w) X.A (eval a X.env) (fun v s₁=>wpAny (model X.prog X.w) X.A (eval b X.env) (fun u s₂=>wpAny (model X.prog X.w) X.A (f v u) Q X.xe s₂) X.xe s₁) X.xe s:=by
 refine thn (ha pins s σ H _ I h) fun v s1 ⟨x,H1,I1,r1,q1⟩=>?_
 refine thn (hb pins s1 σ H1 _ I1 q1) fun u s2 ⟨y,H2,I2,r2,q2⟩=>?_
 exact hf v u s2 x y H2 I2 r1 r2 q2
theorem xg {op:Operator}{r:R2} (ho:OpR X (binaryOp op) r) (ha:PE X a ta) (hb:PE X b tb):PE X (.BinOp a op b pos) (tOp r ta tb):=by
 intro pins s σ H Q I h
 exact wpAny_BinOp (binT ha hb I h fun v u s2 x y H2 I2 rx ry q=>ho pins s2 σ H2 x y v u Q I2 rx ry q)
theorem pe_un {op:UnaryOp}{r:V->Hp->VK->Prop} (ho:UnR X (unaryOp op) r) (ha:PE X a ta):PE X (.UnaryOp op a pos) (tUn r ta):=by
 intro pins s σ H Q I h
 exact UnaryOp_ (thn (ha pins s σ H _ I h) fun v s1 ⟨x,H1,I1,r1,q1⟩=>ho pins s1 σ H1 x v Q I1 r1 q1)
theorem opI {f:Value->Value->Sem Value}{C:Int->Int->Prop}{g:Int->Int->Int}
  (rule:∀ (i j:Int) (t u:Tok) (s:Shared) (Q:Value->Shared->Prop) (E:Value->Shared->Prop),C i j->Q (.int (g i j) s.toks) { s with toks:=s.toks + 1 }->wpAny (model X.prog X.w) X.A (f (.int i t) (.int j u)) Q E s) :
  OpR X f (rI C fun i j=>.int (g i j)):=by
 intro pins s σ H x y v u Q I rx ry h
 obtain ⟨i,j,rfl,rfl,hc,q⟩:=h
 obtain ⟨t,rfl⟩:=rx
 obtain ⟨t',rfl⟩:=ry
 exact rule i j t t' s _ _ hc ⟨.int (g i j),H,I.tok _,⟨_,rfl⟩,q⟩
theorem opI0 {f:Value->Value->Sem Value}{g:Int->Int->Int}
  (rule:∀ (i j:Int) (t u:Tok) (s:Shared) (Q:Value->Shared->Prop) (E:Value->Shared->Prop),Q (.int (g i j) s.toks) { s with toks:=s.toks + 1 }->wpAny (model X.prog X.w) X.A (f (.int i t) (.int j u)) Q E s) :
  OpR X f (rI0 fun i j=>.int (g i j)):=by
 intro pins s σ H x y v u Q I rx ry h
 obtain ⟨i,j,rfl,rfl,q⟩:=h
 obtain ⟨t,rfl⟩:=rx
 obtain ⟨t',rfl⟩:=ry
 exact rule i j t t' s _ _ ⟨.int (g i j),H,I.tok _,⟨_,rfl⟩,q⟩
theorem opB0 {f:Value->Value->Sem Value}{g:Int->Int->Bool}
  (rule:∀ (i j:Int) (t u:Tok) (s:Shared) (Q:Value->Shared->Prop) (E:Value->Shared->Prop),Q (.bool (g i j)) s->wpAny (model X.prog X.w) X.A (f (.int i t) (.int j u)) Q E s) :
  OpR X f (rI0 fun i j=>.bl (g i j)):=by
 intro pins s σ H x y v u Q I rx ry h
 obtain ⟨i,j,rfl,rfl,q⟩:=h
 obtain ⟨t,rfl⟩:=rx
 obtain ⟨t',rfl⟩:=ry
 exact rule i j t t' s _ _ ⟨.bl (g i j),H,I,rfl,q⟩
def CPow (i j:Int):Prop:=0<=j/\j<=1000000/\i.natAbs < 2 ^ 64
def CMul (i j:Int):Prop:=(-(2 ^ 64) < i/\i < 2 ^ 64)\/(-(2 ^ 64) < j/\j < 2 ^ 64)
theorem CMul.ok {i j:Int} (h:CMul i j):IntMulOk i j:=by
 rcases h with ⟨h1,h2⟩ | ⟨h1,h2⟩
 ·exact .of_left (intBits_le_64 h1 h2)
 ·exact .of_right (intBits_le_64 h1 h2)
theorem xt:OpR X (binaryOp .Add) (rI0 fun i j=>.int (i + j)):=opI0 fun _ _ _ _ _ _ _ q=>add_int q
theorem op_sub:OpR X (binaryOp .Sub) (rI0 fun i j=>.int (i - j)):=opI0 fun _ _ _ _ _ _ _ q=>sub_int q
theorem op_mul:OpR X (binaryOp .Mult) (rI CMul fun i j=>.int (i * j)):=opI fun _ _ _ _ _ _ _ hc q=>mul_int q hc.ok
theorem op_mod:OpR X (binaryOp .Mod) (rI (fun _ j=>0 < j) fun i j=>.int (i % j)):=opI fun i j _ _ _ _ _ hc q=>by
 have h1:(0:Int) < j:=hc
 exact mod_int' (by omega) (by rw [Int.fmod_eq_emod_of_nonneg i (by omega)];exact q)
theorem op_pow:OpR X (binaryOp .Pow) (rI CPow fun i j=>.int (i ^ j.toNat)):=opI fun _ _ _ _ _ _ _ hc q=>pow_int_small hc.1 hc.2.1 hc.2.2 q
theorem op_xor:OpR X (binaryOp .BitXor) (rI0 fun i j=>.int (Builtin.bitXor i j)):=opI0 fun _ _ _ _ _ _ _ q=>xor_int q
theorem unI {f:Value->Sem Value}{g:Int->Int}
  (rule:∀ (i:Int) (t:Tok) (s:Shared) (Q:Value->Shared->Prop) (E:Value->Shared->Prop),Q (.int (g i) s.toks) { s with toks:=s.toks + 1 }->wpAny (model X.prog X.w) X.A (f (.int i t)) Q E s) :
  UnR X f (rU fun i=>.int (g i)):=by
 intro pins s σ H x v Q I rx h
 obtain ⟨i,rfl,q⟩:=h
 obtain ⟨t,rfl⟩:=rx
 exact rule i t s _ _ ⟨.int (g i),H,I.tok _,⟨_,rfl⟩,q⟩
theorem un_neg:UnR X (unaryOp .USub) (rU fun i=>.int (-i)):=unI fun _ _ _ _ _ q=>neg_int q
end
def scal:V->V->Bool
 | .non,.non=>true | .non,.int _=>true | .int _,.non=>true | .non,.bl _=>true | .bl _,.non=>true | .non,.str _=>true | .str _,.non=>true
 | .int _,.int _=>true | .bl _,.bl _=>true | .str _,.str _=>true | .byt _,.byt _=>true
 | .int _,.str _=>true | .str _,.int _=>true | .bl _,.str _=>true | .str _,.bl _=>true
 | _,_=>false
def rEq:R2:=fun x y H Q=>scal x y=true/\Q (.bl (decide (x=y))) H
def rNe:R2:=fun x y H Q=>scal x y=true/\Q (.bl (!decide (x=y))) H
theorem dec_int {i j:Int}:decide (V.int i=V.int j)=(i == j):=by
 rw [yo]
 simp
theorem dec_bl {i j:Bool}:decide (V.bl i=V.bl j)=(i == j):=by
 rw [yo]
 simp
theorem dec_str {i j:Str}:decide (V.str i=V.str j)=(i == j):=by
 rw [yo]
 simp
theorem dec_byt {i j:Array UInt8}:decide (V.byt i=V.byt j)=(i.toList == j.toList):=by
 rw [yo]
 cases i
 cases j
 simp
section
variable {X:Cx}{a b c:Expr}{ta tb tc:TE}{pos:Pos}
theorem xk {pins:List (Addr × Obj)}{σ:St}{H:Hp}{s:Shared}{Q:VK}{k k':Bool} (I:Inv X pins σ H s) (q:Q (.bl k) H) (e:k=k'):EP X pins σ Q (.bool k') s:=by
 subst e
 exact ⟨.bl k,H,I,rfl,q⟩
theorem wE:OpR X (compareOp .Eq) rEq:=by
 intro pins s σ H x y v u Q I rx ry h
 obtain ⟨hs,q⟩:=h
 cases x with
 | non=>
  cases rx
  cases y with
  | non=>cases ry;exact PySem.EqNone.eq_none_none (xk I q (by simp))
  | bl j=>cases ry;exact PySem.EqNone.eq_none_bool (xk I q (by simp))
  | int j=>obtain ⟨t',rfl⟩:=ry;exact PySem.EqNone.eq_none_int (xk I q (by simp))
  | str j=>obtain ⟨t',rfl⟩:=ry;exact PySem.EqNone.eq_none_str (xk I q (by simp))
  | _=>exact absurd (show false=true from hs) zG
 | bl i=>
  cases rx
  cases y with
  | non=>cases ry;exact PySem.EqNone.eq_bool_none (xk I q (by simp))
  | bl j=>cases ry;exact eq_bool (xk I q dec_bl)
  | str j=>obtain ⟨t',rfl⟩:=ry;exact PySem.EqMixed.eq_bool_str (xk I q (by simp))
  | _=>exact absurd (show false=true from hs) zG
 | int i=>
  obtain ⟨t,rfl⟩:=rx
  cases y with
  | non=>cases ry;exact PySem.EqNone.eq_int_none (xk I q (by simp))
  | int j=>obtain ⟨t',rfl⟩:=ry;exact eq_int (xk I q dec_int)
  | str j=>obtain ⟨t',rfl⟩:=ry;exact PySem.EqMixed.eq_int_str (xk I q (by simp))
  | _=>exact absurd (show false=true from hs) zG
 | str i=>
  obtain ⟨t,rfl⟩:=rx
  cases y with
  | non=>cases ry;exact PySem.EqNone.eq_str_none (xk I q (by simp))
  | bl j=>cases ry;exact PySem.EqMixed.eq_str_bool (xk I q (by simp))
  | int j=>obtain ⟨t',rfl⟩:=ry;exact PySem.EqMixed.eq_str_int (xk I q (by simp))
  | str j=>obtain ⟨t',rfl⟩:=ry;exact eq_str (xk I q dec_str)
  | _=>exact absurd (show false=true from hs) zG
 | byt i=>
  obtain ⟨t,rfl⟩:=rx
  cases y with
  | byt j=>obtain ⟨t',rfl⟩:=ry;exact PySem.W.eq_bytes (xk I q dec_byt)
  | _=>exact absurd (show false=true from hs) zG
 | _=>cases y <;> exact absurd (show false=true from hs) zG
theorem op_ne:OpR X (compareOp .NotEq) rNe:=by
 intro pins s σ H x y v u Q I rx ry h
 obtain ⟨hs,q⟩:=h
 cases x with
 | non=>
  cases rx
  cases y with
  | non=>cases ry;exact PySem.EqNone.ne_none_none (xk I q (by simp))
  | bl j=>cases ry;exact PySem.EqNone.ne_none_bool (xk I q (by simp))
  | int j=>obtain ⟨t',rfl⟩:=ry;exact PySem.EqNone.ne_none_int (xk I q (by simp))
  | str j=>obtain ⟨t',rfl⟩:=ry;exact PySem.EqNone.ne_none_str (xk I q (by simp))
  | _=>exact absurd (show false=true from hs) zG
 | bl i=>
  cases rx
  cases y with
  | non=>cases ry;exact PySem.EqNone.ne_bool_none (xk I q (by simp))
  | bl j=>cases ry;exact ne_bool (xk I q (congrArg not dec_bl))
  | str j=>obtain ⟨t',rfl⟩:=ry;exact PySem.EqMixed.ne_bool_str (xk I q (by simp))
  | _=>exact absurd (show false=true from hs) zG
 | int i=>
  obtain ⟨t,rfl⟩:=rx
  cases y with
  | non=>cases ry;exact PySem.EqNone.ne_int_none (xk I q (by simp))
  | int j=>obtain ⟨t',rfl⟩:=ry;exact ne_int (xk I q (congrArg not dec_int))
  | str j=>obtain ⟨t',rfl⟩:=ry;exact PySem.EqMixed.ne_int_str (xk I q (by simp))
  | _=>exact absurd (show false=true from hs) zG
 | str i=>
  obtain ⟨t,rfl⟩:=rx
  cases y with
  | non=>cases ry;exact PySem.EqNone.ne_str_none (xk I q (by simp))
  | bl j=>cases ry;exact PySem.EqMixed.ne_str_bool (xk I q (by simp))
  | int j=>obtain ⟨t',rfl⟩:=ry;exact PySem.EqMixed.ne_str_int (xk I q (by simp))
  | str j=>obtain ⟨t',rfl⟩:=ry;exact ne_str (xk I q (congrArg not dec_str))
  | _=>exact absurd (show false=true from hs) zG
 | byt i=>
  obtain ⟨t,rfl⟩:=rx
  cases y with
  | byt j=>obtain ⟨t',rfl⟩:=ry;exact PySem.W.ne_bytes (xk I q (congrArg not dec_byt))
  | _=>exact absurd (show false=true from hs) zG
 | _=>cases y <;> exact absurd (show false=true from hs) zG
theorem op_lt:OpR X (compareOp .Lt) (rI0 fun i j=>.bl (decide (i < j))):=opB0 fun _ _ _ _ _ _ _ q=>lt_int q
theorem op_le:OpR X (compareOp .LtE) (rI0 fun i j=>.bl (decide (i<=j))):=opB0 fun _ _ _ _ _ _ _ q=>le_int q
theorem op_gt:OpR X (compareOp .Gt) (rI0 fun i j=>.bl (decide (j < i))):=opB0 fun _ _ _ _ _ _ _ q=>gt_int q
theorem op_ge:OpR X (compareOp .GtE) (rI0 fun i j=>.bl (decide (j<=i))):=opB0 fun _ _ _ _ _ _ _ q=>ge_int q
theorem nomark (b:Expr) {op:CmpOp} (h:op ≠ .In:=by decide) (h2:op ≠ .NotIn:=by decide):behindInMarks op b=false:=by
 have e1:(op == CmpOp.In)=false:=by cases op <;> first | rfl | exact absurd rfl h
 have e2:(op == CmpOp.NotIn)=false:=by cases op <;> first | rfl | exact absurd rfl h2
 cases b <;> simp [behindInMarks,e1,e2]
theorem pe_cmpR {op:CmpOp}{r:R2} (ho:OpR X (compareOp op) r) (ha:PE X a ta) (hb:PE X b tb) (hm:behindInMarks op b=false):PE X (.Compare a [op] [b] pos) (tOp r ta tb):=by
 intro pins s σ H Q I h
 exact wpAny_Compare1 (binT ha hb I h fun v u s2 x y H2 I2 rx ry q=>ho pins s2 σ H2 x y v u Q I2 rx ry q) hm
def tTest (t:TE):TT:=fun σ H Q=>t σ H fun x H'=>∃ k,x=.bl k/\Q k H'
theorem xV {op:CmpOp}{r:R2} (ho:OpR X (compareOp op) r) (ha:PE X a ta) (hb:PE X b tb) (hm:behindInMarks op b=false):PT X (.Compare a [op] [b] pos) (tTest (tOp r ta tb)):=by
 intro pins s σ H Q I h
 refine wpAny_isTrue_Compare1 (thn (ha pins s σ H _ I h) fun v s1 ⟨x,H1,I1,r1,q1⟩=>thn (hb pins s1 σ H1 _ I1 q1) fun u s2 ⟨y,H2,I2,r2,q2⟩=>
  thn (ho pins s2 σ H2 x y v u _ I2 r1 r2 q2) fun c s3 ⟨z,H3,I3,r3,k,e,q3⟩=>?_) hm
 subst e
 cases r3
 exact wpAny_truthy_bool ⟨H3,I3,q3⟩
def tChain (r r':R2) (ta tb tc:TE):TE:=fun σ H Q=>ta σ H fun x H1=>tb σ H1 fun y H2=>r x y H2 fun z H3=>∃ k,z=.bl k /\
 (if k=true then tc σ H3 fun w' H4=>r' y w' H4 Q else Q (.bl false) H3)
theorem pe_chain {op op':CmpOp}{r r':R2} (ho:OpR X (compareOp op) r) (ho':OpR X (compareOp op') r') (ha:PE X a ta) (hb:PE X b tb) (hc:PE X c tc)
  (hm:lastMarks [op,op'] [b,c]=false:=by with_unfolding_all rfl):PE X (.Compare a [op,op'] [b,c] pos) (tChain r r' ta tb tc):=by
 intro pins s σ H Q I h
 refine Compare_chain (thn (ha pins s σ H _ I h) fun v s1 ⟨x,H1,I1,r1,q1⟩=>chain_link (thn (hb pins s1 σ H1 _ I1 q1) fun u s2 ⟨y,H2,I2,r2,q2⟩=>
  thn (ho pins s2 σ H2 x y v u _ I2 r1 r2 q2) fun d s3 ⟨z,H3,I3,r3,k,e,q3⟩=>?_)) hm
 subst e
 cases r3
 refine wpAny_truthy_bool ?_
 cases k with
 | false=>exact ite_ff ⟨.bl false,H3,I3,rfl,q3⟩
 | true=>exact ite_tt (chain_last (thn (hc pins s3 σ H3 _ I3 q3) fun w' s4 ⟨z',H4,I4,r4,q4⟩=>ho' pins s4 σ H4 y z' u w' Q I4 r2 r4 q4))
theorem line63:(sizeLine:Nat) < 2 ^ 63:=by rw [sizeLine_eq];decide
theorem vals1 {x:V}{us:List Value} (r:Vals [x] us):∃ u,us=[u]/\RelV x u:=by
 cases r with
 | cons r1 r2=>cases r2;exact ⟨_,rfl,r1⟩
theorem vals2 {x y:V}{us:List Value} (r:Vals [x,y] us):∃ u w',us=[u,w']/\RelV x u/\RelV y w':=by
 cases r with
 | cons r1 r2=>
  cases r2 with
  | cons r3 r4=>cases r4;exact ⟨_,_,rfl,r1,r3⟩
theorem call_max2 (hc:X.calm=true):CallR X (.builtin "max") (fun xs H Q=>∃ i j,xs=[.int i,.int j]/\Q (.int (if j > i then j else i)) H):=by
 intro pins s σ H xs us Q I r h
 obtain ⟨i,j,rfl,q⟩:=h
 obtain ⟨u,w',rfl,⟨t,rfl⟩,⟨t',rfl⟩⟩:=vals2 r
 refine max_two_ints (I.ok.hd hc) fun h' tk k=>⟨_,H,I.kept k,?_,q⟩
 by_cases hj:j > i
 ·rw [if_pos hj,if_pos hj];exact ⟨_,rfl⟩
 ·rw [if_neg hj,if_neg hj];exact ⟨_,rfl⟩
theorem call_min2 (hc:X.calm=true):CallR X (.builtin "min") (fun xs H Q=>∃ i j,xs=[.int i,.int j]/\Q (.int (if j < i then j else i)) H):=by
 intro pins s σ H xs us Q I r h
 obtain ⟨i,j,rfl,q⟩:=h
 obtain ⟨u,w',rfl,⟨t,rfl⟩,⟨t',rfl⟩⟩:=vals2 r
 refine min_two_ints (I.ok.hd hc) fun h' tk k=>⟨_,H,I.kept k,?_,q⟩
 by_cases hj:j < i
 ·rw [if_pos hj,if_pos hj];exact ⟨_,rfl⟩
 ·rw [if_neg hj,if_neg hj];exact ⟨_,rfl⟩
end
end L2
namespace L2
open PySem PySem.Spec PyProof.Rows
structure ObjM (h:Heap) (x dx C:Addr) (mA:Str->Option Value):Prop where
 obj:h.get? x=some (yO C dx)
 ns:h.Ns1 dx mA
 ne:dx ≠ x
theorem lookIn_ns {h:Heap}{dx:Addr}{mA:Str->Option Value} (n:h.Ns1 dx mA):∃ od,h.get? dx=some od/\∀ name,PySem.W.lookIn name od=some (mA name):=by
 obtain ⟨o,es,ep,ho,hd,hk,_,hm⟩:=n
 refine ⟨o,ho,fun name=>?_⟩
 have e:=hm name
 unfold nsFind findBy at e
 rw [<-Array.find?_toList] at e
 unfold PySem.W.lookIn
 rw [hd]
 dsimp only
 split
 ·rename_i y q
  rw [q] at e
  exact congrArg some e
 ·rename_i q
  rw [q] at e
  have a:es.toList.any (·.refKey)=false:=by
   rw [List.any_eq_false]
   intro y hy
   obtain ⟨z,t,hkey⟩:=hk y (Array.mem_toList_iff.mp hy)
   simp [DictEntry.refKey,hkey]
  have a':¬ es.toList.any (·.refKey)=true:=by rw [a];exact zG
  rw [if_neg a']
  exact congrArg some e
theorem ObjM.look {h:Heap}{x dx C:Addr}{mA:Str->Option Value} (I:ObjM h x dx C mA):∃ od,PySem.W.InstAt h x (yO C dx) C (some od)/\∀ name,PySem.W.lookIn name od=some (mA name):=
 let ⟨od,ho,hl⟩:=lookIn_ns I.ns
 ⟨od,⟨I.obj,rfl,rfl,ho⟩,hl⟩
section
variable {prog:Program}{w:World}{A:Around}{E:Value->Shared->Prop}{s:Shared}{K:PySem.W.Frag}{x dx C f:Addr}{mA:Str->Option Value}{name:Str}{v:Value}
theorem get_map {expr:Bool}{Q:Value->Shared->Prop} (X:K.In s.heap) (I:ObjM s.heap x dx C mA) (hg:yA K C name=true) (hh:yG K C=true)
  (ha:zK K (.ref C) name=some none) (hv:mA name=some v) (hv':PySem.W.handedIn v=true) (h:Q v { s with toks:=s.toks + 1 }) :
  wpAny (model prog w) A (getAttr (.ref x) name expr) Q E s:=by
 obtain ⟨od,J,hl⟩:=I.look
 exact PySem.W.get_value X J (PySem.W.plainGet_of hg).1 (PySem.W.findObj_own hh ha rfl (by rw [hl,hv])) hv' h
theorem get_meth {pl:Sem Bool}{Q:Value × List Value->Shared->Prop} (X:K.In s.heap) (I:ObjM s.heap x dx C mA) (hg:yA K C name=true)
  (hf:zK K (.ref C) name=some (some (.ref f))) (ht:zc K (.ref f)=true) (hv:mA name=none) (h:Q (.ref f,[.ref x]) s) :
  wpAny (model prog w) A (getMethod (.ref x) name pl) Q E s:=by
 obtain ⟨od,J,hl⟩:=I.look
 exact PySem.W.method_fn X J (PySem.W.plainGet_of hg).1 (PySem.W.plainGet_of hg).2 hf (beq_iff_eq.mp ht) (by show (PySem.W.lookIn name od).map (·.isSome)=some false;rw [hl,hv];rfl) h
theorem set_map {ns:List Str}{Q:Unit->Shared->Prop} (X:K.In s.heap) (I:ObjM s.heap x dx C mA)
  (hs:zK K (.ref C) "__setattr__" = some (some (.builtin "object.__setattr__"))) (hp:yf K C=true) (ht:PySem.W.takerIn K C name=some none) (hh:yG K C=true)
  (hw:PySem.Within mA ns) (hsz:ns.length<=sizeLine)
  (h:∀ h',ObjM h' x dx C (fun y=>if y=name then some v else mA y)->Heap.SameBut dx s.heap h'->Q () { s with heap:=h',toks:=s.toks + 2 }) :
  wpAny (model prog w) A (setAttr (.ref x) name v) Q E s:=by
 obtain ⟨od,J,hl⟩:=I.look
 refine PySem.W.set_plain X J hs (PySem.W.osa_open (s:={ s with toks:=s.toks + 1 }) (r:=none) X J hp ht fun b=>?_)
 obtain ⟨cd,hc,hd'⟩:=PySem.W.any_some hh
 have hx:s.heap.get? x=some ⟨.ref C,some dx,.plain,#[]⟩:=I.obj
 refine wpAny_bind (wpAny_pure (wpAny_bind (wpAny_bind (wpAny_loadPart hx (wpAny_bind (PySem.W.Looks.here (s:={ s with toks:=s.toks + 1 }) (PySem.W.looks_clsIn X hc) ?_))))))
 rw [hd']
 refine wpAny_pure (a:=some dx) (wpAny_bind (wpAny_pure (wpAny_bind ?_)))
 refine wpAny_nsSet1 (s:={ s with toks:=s.toks + 1 }) I.ns fun h' hn2 hs2=>?_
 obtain ⟨oD,esD,epD,hoD,hdD,hcD⟩:=hn2.count (PySem.Within.cons name v hw)
 refine wpAny_bind (wpAny_lookBehind hoD (by rw [hdD];exact pastItsLine_dict (zq hcD (by rw [zg];omega))) ?_)
 exact wpAny_pure (h _ ⟨(hs2.2 _ (Ne.symm I.ne)).trans I.obj,hn2,I.ne⟩ hs2)
theorem make_map {R:Result->Shared->Prop}{vs:List Value}{kw:List (Str × Value)} (X:K.In s.heap) (hm:yp K C=true)
  (hi:zK K (.ref C) "__init__" = some (some (.ref f))) (hf:PySem.W.typeIn K (.ref f)=some (.type "function"))
  (h:codeAny (model prog w) (A.under (.builtin "type.__call__" ⟨.ref C :: vs,kw⟩)) (.call (.ref f) ⟨.ref (s.heap.objs.size + 1) :: vs,kw⟩) (PySem.W.InitBack (s.heap.objs.size + 1) R)
   { s with heap:=(s.heap.push yH).push (yO C s.heap.objs.size) }) :
  codeAny (model prog w) A (.call (.ref C) ⟨vs,kw⟩) R s:=by
 obtain ⟨hh,g,d,t,os⟩:=s
 exact PySem.W.make_core (PySem.W.makes_of X hm) (PySem.W.looks_findIn X hi) (fun self=>PySem.W.bind_fn X self hf) (.inl rfl) h
end
def putF (f:Str) (v:V):List (Str × V)->List (Str × V)
 | []=>[(f,v)]
 | (g,x) :: r=>if g=f then (g,v) :: r else (g,x) :: putF f v r
theorem lookup_putF (f g:Str) (v:V):∀ fs:List (Str × V),(putF f v fs).lookup g=if g=f then some v else fs.lookup g
 | []=>by
  show yk g [(f,v)]=_
  by_cases h:g=f
  ·have hb:(g == f)=true:=beq_iff_eq.mpr h
   simp only [yk,hb,if_pos h]
  ·have hb:(g == f)=false:=beq_eq_false_iff_ne.mpr h
   simp only [yk,hb,if_neg h]
 | (k,x) :: r=>by
  have ih:=lookup_putF f g v r
  rw [show putF f v ((k,x) :: r)=(if k=f then (k,v) :: r else (k,x) :: putF f v r) from rfl]
  by_cases hk:k=f
  ·rw [if_pos hk]
   by_cases h:g=k
   ·have hb:(g == k)=true:=beq_iff_eq.mpr h
    simp only [yk,hb,if_pos (h.trans hk)]
   ·have hb:(g == k)=false:=beq_eq_false_iff_ne.mpr h
    simp only [yk,hb,if_neg (fun e:g=f=>h (e.trans hk.symm))]
  ·rw [if_neg hk]
   by_cases h:g=k
   ·have hb:(g == k)=true:=beq_iff_eq.mpr h
    simp only [yk,hb,if_neg (fun e:g=f=>hk (h.symm.trans e))]
   ·have hb:(g == k)=false:=beq_eq_false_iff_ne.mpr h
    simp only [yk,hb]
    exact ih
theorem keys_putF (f:Str) (v:V):∀ fs:List (Str × V),f ∈ (putF f v fs).map (·.1)/\∀ g,g ∈ fs.map (·.1)->g ∈ (putF f v fs).map (·.1)
 | []=>⟨by simp [putF],fun g h=>by simp at h⟩
 | (k,x) :: r=>by
  obtain ⟨i1,i2⟩:=keys_putF f v r
  rw [show putF f v ((k,x) :: r)=(if k=f then (k,v) :: r else (k,x) :: putF f v r) from rfl]
  by_cases hk:k=f
  ·rw [if_pos hk]
   subst hk
   exact ⟨by simp,fun g h=>by simpa using h⟩
  ·rw [if_neg hk]
   refine ⟨?_,fun g h=>?_⟩
   ·rw [zj]
    exact zo _ i1
   ·rw [zj] at h ⊢
    rcases zR.mp h with e | e
    ·exact zR.mpr (.inl e)
    ·exact zo _ (i2 g e)
theorem length_putF (f:Str) (v:V):∀ fs:List (Str × V),(putF f v fs).length<=fs.length + 1
 | []=>by simp [putF]
 | (k,x) :: r=>by
  have ih:=length_putF f v r
  rw [show putF f v ((k,x) :: r)=(if k=f then (k,v) :: r else (k,x) :: putF f v r) from rfl]
  by_cases hk:k=f
  ·rw [if_pos hk,zg,zg];omega
  ·rw [if_neg hk,zg,zg];omega
theorem RelO.some_of {v:V}{o:Option Value} (r:RelO (some v) o):∃ u,o=some u/\RelV v u:=by
 cases o with
 | none=>exact (show False from r).elim
 | some u=>exact ⟨u,rfl,r⟩
theorem RelO.none_of {o:Option Value} (r:RelO none o):o=none:=by
 cases o with
 | none=>rfl
 | some u=>exact (show False from r).elim
theorem handed_of {v:V}{u:Value} (r:RelV v u):PySem.W.handedIn u=true:=by
 cases v with
 | non=>cases (show u=Value.none from r);rfl
 | bl b=>cases (show u=Value.bool b from r);rfl
 | int i=>obtain ⟨t,e⟩:=(show ∃ t,u=Value.int i t from r);cases e;rfl
 | str x=>obtain ⟨t,e⟩:=(show ∃ t,u=Value.str x t from r);cases e;rfl
 | byt b=>obtain ⟨t,e⟩:=(show ∃ t,u=Value.bytes b t from r);cases e;rfl
 | flt b=>obtain ⟨t,e⟩:=(show ∃ t,u=Value.float b t from r);cases e;rfl
 | ref a=>cases (show u=Value.ref a from r);rfl
 | ty n=>cases (show u=Value.type n from r);rfl
section
variable {P:Program}{w:World}{H H':Hp}{h h':Heap}{a C dx:Addr}{fs fs':List (Str × V)}
theorem ins_get (hok:HOk P w H h) (e:H a=some (.ins C dx fs)):∃ mA,ObjM h a dx C mA/\(∀ f,RelO (fs.lookup f) (mA f))/\PySem.Within mA (fs.map (·.1))/\fs.length<=1000/\H dx=some (.own a):=by
 obtain ⟨d,z,ne,ob,mA,n,r,q⟩:=(show ObjOk P w H h a (.ins C dx fs) from hok a _ e)
 exact ⟨mA,⟨ob,n,ne⟩,r,q,z,d⟩
end
structure Cls (K:PySem.W.Frag) (C:Addr):Prop where
 pg:yA K C Str.empty=true
 hd:yG K C=true
 po:yf K C=true
 sa:zK K (.ref C) "__setattr__" = some (some (.builtin "object.__setattr__"))
theorem Cls.get {K:PySem.W.Frag}{C:Addr} (c:Cls K C) (f:Str):yA K C f=true:=c.pg
def NoAttr (K:PySem.W.Frag) (C:Addr) (f:Str):Prop:=zK K (.ref C) f=some none
theorem NoAttr.taker {K:PySem.W.Frag}{C:Addr}{f:Str} (n:NoAttr K C f):PySem.W.takerIn K C f=some none:=by
 unfold PySem.W.takerIn
 rw [show zK K (.ref C) f=some none from n]
 rfl
structure Meth (K:PySem.W.Frag) (C:Addr) (m:Str) (f:Addr):Prop where
 at_:zK K (.ref C) m=some (some (.ref f))
 fn:zc K (.ref f)=true
 kp:zH K (.ref f)=true
section
variable {X:Cx}{pins:List (Addr × Obj)}{σ:St}{H:Hp}{s:Shared}{a C dx:Addr}{fs:List (Str × V)}{f:Str}{v:V}{A:Around}{E:Value->Shared->Prop}
theorem getattr_ok {b:Bool}{Q:Value->Shared->Prop} (I:Inv X pins σ H s) (e:H a=some (.ins C dx fs)) (c:Cls X.K C) (n:NoAttr X.K C f) (l:fs.lookup f=some v)
  (h:∀ u s',Inv X pins σ H s'->RelV v u->Q u s'):wpAny (model X.prog X.w) A (getAttr (.ref a) f b) Q E s:=by
 obtain ⟨mA,O,r,_,_,_⟩:=ins_get I.hok e
 obtain ⟨u,hu,ru⟩:=RelO.some_of (v:=v) (o:=mA f) (by rw [<-l];exact r f)
 exact get_map I.kIn O (c.get f) c.hd n hu (handed_of ru) (h u _ (I.tok _) ru)
theorem getmeth_ok {m:Str}{g:Addr}{pl:Sem Bool}{Q:Value × List Value->Shared->Prop} (I:Inv X pins σ H s) (e:H a=some (.ins C dx fs)) (c:Cls X.K C) (k:Meth X.K C m g) (l:fs.lookup m=none)
  (h:Q (.ref g,[.ref a]) s):wpAny (model X.prog X.w) A (getMethod (.ref a) m pl) Q E s:=by
 obtain ⟨mA,O,r,_,_,_⟩:=ins_get I.hok e
 have hn:mA m=none:=RelO.none_of (by rw [<-l];exact r m)
 exact get_meth I.kIn O (c.get m) k.at_ k.fn hn h
theorem setattr_ok {y:V}{u:Value}{Q:Unit->Shared->Prop} (I:Inv X pins σ H s) (e:H a=some (.ins C dx fs)) (c:Cls X.K C) (n:NoAttr X.K C f) (hl:fs.length < 1000) (ry:RelV y u)
  (h:∀ s',Inv X pins σ (upd H a (.ins C dx (putF f y fs))) s'->Q () s'):wpAny (model X.prog X.w) A (setAttr (.ref a) f u) Q E s:=by
 obtain ⟨mA,O,r,wi,_,ho⟩:=ins_get I.hok e
 have hz:(fs.map (·.1)).length<=sizeLine:=by rw [zA,sizeLine_eq];omega
 refine set_map I.kIn O c.sa c.po n.taker c.hd wi hz fun h' O' sb=>h _ ?_
 have hd:∃ o,h'.get? dx=some o:=let ⟨o,_,_,e',_⟩:=O'.ns;⟨o,e'⟩
 refine I.write (x:=a) (e:=dx) (by rw [e];exact True.intro) (.inr ho) (fun b q hb z=>(sb.2 b hb).trans z) hd ?_
 refine ⟨by rw [xN O.ne];exact ho,?_,O.ne,O'.obj,_,O'.ns,fun g=>?_,fun g hg=>?_⟩
 ·have:=length_putF f y fs;omega
 ·show RelO ((putF f y fs).lookup g) (if g=f then some u else mA g)
  rw [lookup_putF]
  by_cases q:g=f
  ·rw [if_pos q,if_pos q];exact ry
  ·rw [if_neg q,if_neg q];exact r g
 ·by_cases q:g=f
  ·rw [q];exact (keys_putF f y fs).1
  ·refine (keys_putF f y fs).2 g (wi g fun z=>hg ?_)
   show (if g=f then some u else mA g)=none
   rw [if_neg q];exact z
theorem Inv.made (I:Inv X pins σ H s):Inv X pins σ (upd (upd H s.heap.objs.size (.own (s.heap.objs.size + 1))) (s.heap.objs.size + 1) (.ins C s.heap.objs.size []))
  { s with heap:=(s.heap.push yH).push (yO C s.heap.objs.size) }:=by
 have e1:(s.heap.push yH).get? s.heap.objs.size=some yH:=Heap.get?_push_size s.heap rfl
 have e2:((s.heap.push yH).push (yO C s.heap.objs.size)).get? (s.heap.objs.size + 1)=some (yO C s.heap.objs.size):=by
  have:=Heap.get?_push_size (s.heap.push yH) (o:=yO C s.heap.objs.size) rfl
  rwa [Heap.size_push] at this
 have e3:(s.heap.push yH).Ns s.heap.objs.size (fun _=>none):=⟨yH,#[],_,e1,rfl,(fun e he=>absurd he (by simp)),fun _=>rfl⟩
 have I1:=I.laid (a:=s.heap.objs.size) (o:=.own (s.heap.objs.size + 1)) (h':=s.heap.push yH) (t':=s.toks) (fun b u q=>Heap.get?_push_of_some _ q) (zJ _) ⟨_,e1⟩
 refine I1.laid (a:=s.heap.objs.size + 1) (o:=.ins C s.heap.objs.size []) (t':=s.toks) (fun b u q=>Heap.get?_push_of_some _ q) (Nat.le_of_eq (Heap.size_push _ _)) ?_
 have ne:s.heap.objs.size ≠ s.heap.objs.size + 1:=zU (yB _)
 refine ⟨by rw [xN ne,xH],zb _,ne,e2,fun _=>none,(Heap.Ns1.of_empty e3).at fun o q=>Heap.get?_push_of_some _ q,fun _=>True.intro,fun y hy=>absurd rfl hy⟩
theorem attr_of {prog:Program}{w:World}{env:Env}{e:Expr}{f:Str}{pos:Pos}{s:Shared}{Q:Value->Shared->Prop} (hb:attributeBase e f env (eval e env)=eval e env)
  (h:wpAny (model prog w) A (eval e env) (fun o s₁=>wpAny (model prog w) A (getAttr o f true) Q E s₁) E s):wpAny (model prog w) A (eval (.Attribute e f pos) env) Q E s:=
 Attribute_any_ h (by rw [arm_eval_Attribute,hb])
end
def tFld (K:PySem.W.Frag) (ta:TE) (f:Str):TE:=fun σ H Q=>ta σ H fun x H1=>∃ a C dx fs v,x=.ref a/\H1 a=some (.ins C dx fs)/\Cls K C/\NoAttr K C f/\fs.lookup f=some v/\Q v H1
def sFld (K:PySem.W.Frag) (ta tv:TE) (f:Str):TS:=fun D σ H=>tv σ H fun y H1=>ta σ H1 fun x H2=>∃ a C dx fs,x=.ref a/\H2 a=some (.ins C dx fs)/\Cls K C/\NoAttr K C f/\fs.length < 1000 /\
 D.nx σ (upd H2 a (.ins C dx (putF f y fs)))
section
variable {X:Cx}{o e value:Expr}{f:Str}{pos pos' tpos:Pos}{ta tv:TE}
theorem xj (he:PE X e ta) (hb:attributeBase e f X.env (eval e X.env)=eval e X.env):PE X (.Attribute e f pos) (tFld X.K ta f):=by
 intro pins s σ H Q I h
 refine attr_of hb (thn (he pins s σ H _ I h) fun u s1 ⟨x,H1,I1,rx,a,C,dx,fs,v,ex,ea,c,n,l,q⟩=>?_)
 subst ex
 obtain rfl:u=Value.ref a:=rx
 exact getattr_ok I1 ea c n l fun u' s2 I2 ru=>⟨v,H1,I2,ru,q⟩
theorem ps_fld (ha:PE X o ta) (hv:PE X value tv) (hs:swapsWith value (some (.Attribute o f pos')) pos.line X.env=pure false):PS X (.Assign [.Attribute o f pos'] value pos) (sFld X.K ta tv f):=by
 intro pins s σ H D I h
 refine plainObj_wpAny_Assign_Attribute (thn (hv pins s σ H _ I h) fun u s1 ⟨y,H1,I1,ry,q⟩=>thn (ha pins s1 σ H1 _ I1 q) fun ov s2 ⟨x,H2,I2,rx,a,C,dx,fs,ex,ea,c,n,l,q2⟩=>?_) hs
 subst ex
 obtain rfl:ov=Value.ref a:=rx
 exact setattr_ok I2 ea c n l ry fun s3 I3=>⟨σ,_,I3,q2⟩
end
section
variable {X:Cx}{pins:List (Addr × Obj)}{σ:St}{H:Hp}{s:Shared}{A:Around}{E:Value->Shared->Prop}{Q:Value->Shared->Prop}{c:Value}{b:Bool}
inductive TyOf (K:PySem.W.Frag) (H:Hp):V->Value->Prop where
 | non:TyOf K H .non (.type "NoneType")
 | bl (x:Bool):TyOf K H (.bl x) (.type "bool")
 | int (i:Int):TyOf K H (.int i) (.type "int")
 | str (x:Str):TyOf K H (.str x) (.type "str")
 | flt (x:UInt64):TyOf K H (.flt x) (.type "float")
 | lst {a:Addr}{xs:List V} (e:H a=some (.lst xs)):TyOf K H (.ref a) (.type "list")
 | frz {a:Addr}{o:Obj}{xs:List V} (e:H a=some (.frz o (.lst xs))):TyOf K H (.ref a) (.type "list")
 | tup {a:Addr}{xs:List V} (e:H a=some (.tup xs)):TyOf K H (.ref a) (.type "tuple")
 | dK {a:Addr}{kvs:List (Key × V)} (e:H a=some (.dK kvs)):TyOf K H (.ref a) (.type "dict")
 | dT {a:Addr}{kvs:List (List Key × V)} (e:H a=some (.dT kvs)):TyOf K H (.ref a) (.type "dict")
 | ins {a C dx:Addr}{fs:List (Str × V)} (e:H a=some (.ins C dx fs)) (cl:Cls K C) (ha:zK K (.ref C) "__class__" = some (some (.builtin "object.__class__")))
   (hn:yx K (.builtin "object.__class__") "__get__" = some (some (.builtin "getset_descriptor.__get__"))) (htk:xB K (.builtin "object.__class__")=some true)
   (hm:yu K C (.type "object")=some true):TyOf K H (.ref a) (.ref C)
theorem isinst_ok {x:V}{u t:Value} (I:Inv X pins σ H s) (rx:RelV x u) (ty:TyOf X.K H x t) (e:yN X.K t c=some b) (h:∀ tk,Q (.bool b) { s with toks:=tk }) :
  wpAny (model X.prog X.w) A (call (.builtin "isinstance") [u,c]) Q E s:=by
 cases ty with
 | non=>cases (show u=Value.none from rx);exact zx PySem.W.kitx_none I.kIn True.intro e (fun z=>nomatch z) h
 | bl y=>cases (show u=Value.bool y from rx);exact zx PySem.W.kitx_bool I.kIn True.intro e (fun z=>nomatch z) h
 | int i=>obtain ⟨t,q⟩:=(show ∃ t,u=Value.int i t from rx);cases q;exact zx PySem.W.kitx_int I.kIn True.intro e (fun z=>nomatch z) h
 | str y=>obtain ⟨t,q⟩:=(show ∃ t,u=Value.str y t from rx);cases q;exact zx PySem.W.kitx_str I.kIn True.intro e (fun z=>nomatch z) h
 | flt y=>obtain ⟨t,q⟩:=(show ∃ t,u=Value.float y t from rx);cases q;exact zx PySem.W.kitx_float I.kIn True.intro e (fun z=>nomatch z) h
 | @lst a xs ea=>
  cases (show u=Value.ref a from rx)
  obtain ⟨_,_,n,_,h1⟩:=(show ObjOk X.prog X.w H s.heap a (.lst xs) from I.hok a _ ea)
  exact zx PySem.W.kitx_list I.kIn ⟨_,h1,rfl⟩ e (fun z=>nomatch z) h
 | @frz a ob xs ea=>
  cases (show u=Value.ref a from rx)
  obtain ⟨_,_,_,n,_,h1⟩:=(show ObjOk X.prog X.w H s.heap a (.frz ob (.lst xs)) from I.hok a _ ea)
  exact zx PySem.W.kitx_list I.kIn ⟨_,h1,rfl⟩ e (fun z=>nomatch z) h
 | @tup a xs ea=>
  cases (show u=Value.ref a from rx)
  obtain ⟨_,_,_,p⟩:=(show ObjOk X.prog X.w H s.heap a (.tup xs) from I.hok a _ ea)
  obtain ⟨o,h1,h2,_⟩:=p
  exact zx PySem.W.kitx_tuple I.kIn ⟨o,h1,h2⟩ e (fun z=>nomatch z) h
 | @dK a kvs ea=>
  cases (show u=Value.ref a from rx)
  obtain ⟨_,_,vs,_,p⟩:=(show ObjOk X.prog X.w H s.heap a (.dK kvs) from I.hok a _ ea)
  obtain ⟨o,es,ep,h1,h2,_⟩:=p
  exact zx PySem.W.kitx_dict I.kIn ⟨o,h1,h2.1⟩ e (fun z=>nomatch z) h
 | @dT a kvs ea=>
  cases (show u=Value.ref a from rx)
  obtain ⟨_,_,xs,_,o,es,ep,h1,h2,_⟩:=(show ObjOk X.prog X.w H s.heap a (.dT kvs) from I.hok a _ ea)
  exact zx PySem.W.kitx_dict I.kIn ⟨o,h1,h2.1⟩ e (fun z=>nomatch z) h
 | @ins a C dx fs ea cl ha hn htk hm=>
  cases (show u=Value.ref a from rx)
  obtain ⟨mA,O,_⟩:=ins_get I.hok ea
  obtain ⟨od,J,_⟩:=O.look
  exact zx (PySem.W.kitx_own (cl.get _) cl.hd ha hn htk hm) I.kIn J e (fun z=>nomatch z) h
end
end L2
namespace L2
open PySem PySem.Spec PyProof.Rows
structure Room (k:Nat) (A:Around):Prop where
 hd:A.handled=none
 dp:A.depth + 3 * k + 5 < recursionLimit
 un:A.units + 16 * k + 200 < cLine
theorem Room.mono {j k:Nat}{A:Around} (r:Room k A) (h:j<=k):Room j A:=⟨r.hd,by have:=r.dp;omega,by have:=r.un;omega⟩
theorem Room.deeper {k:Nat}{A:Around} (r:Room (k + 1) A) (env:Env):Room k (A.deeper env):=
 ⟨r.hd,by have:=r.dp;show A.depth + 1 + 3 * k + 5 < _;omega,by have:=r.un;show A.units + 3 + 16 * k + 200 < _;omega⟩
theorem make_depth {A:Around}{C:Addr}{us:List Value}{kw:List (Str × Value)}:(A.under (.builtin "type.__call__" ⟨.ref C :: us,kw⟩)).depth=A.depth + 1:=by
 first | rfl | simp [Around.under,Code.weight,Code.isCreation,Code.isGuard,Code.isCaller,Code.frames,Code.isFrame,guardIds]
theorem make_units {A:Around}{C:Addr}{us:List Value}{kw:List (Str × Value)}:(A.under (.builtin "type.__call__" ⟨.ref C :: us,kw⟩)).units=A.units + 1:=by
 first | rfl | simp [Around.under,Code.cUnits,Code.frames,Code.isFrame]
theorem Room.make {k:Nat}{A:Around} (r:Room (k + 1) A) (C:Addr) (us:List Value) (kw:List (Str × Value)):Room k (A.under (.builtin "type.__call__" ⟨.ref C :: us,kw⟩)):=
 ⟨r.hd,by have:=r.dp;rw [make_depth];omega,by have:=r.un;rw [make_units];omega⟩
theorem Room.depth {k:Nat}{A:Around} (r:Room k A):A.depth < recursionLimit:=by have:=r.dp;omega
theorem Room.units {k:Nat}{A:Around} (r:Room k A):A.units + 64 < cLine:=by have:=r.un;omega
def tNil:TA:=fun _ H Q=>Q [] H
def tCons (ta:TE) (tr:TA):TA:=fun σ H Q=>ta σ H fun x H1=>tr σ H1 fun xs H2=>Q (x :: xs) H2
section
variable {X:Cx}{e:Expr}{es:List Expr}{te:TE}{t:TA}{pos:Pos}
theorem pa_nil:PA X [] tNil:=fun _ _ _ _ H Q I h=>Calls.spliced_nil ⟨[],H,I,.nil,h⟩
theorem pa_cons (ha:PE X e te) (hr:PA X es t) (hs:starEach (e :: es) X.env=(false,eval e X.env) :: starEach es X.env:=by rfl):PA X (e :: es) (tCons te t):=by
 intro pos pins s σ H Q I h
 rw [hs]
 show wpAny _ _ (spliced ((false,eval e X.env) :: backTo pos (starEach es X.env))) _ _ s
 refine Calls.spliced_cons (thn (ha pins s σ H _ I h) fun u s1 ⟨x,H1,I1,r1,q1⟩=>?_)
 exact thn (hr pos pins s1 σ H1 _ I1 q1) fun us s2 ⟨xs,H2,I2,r2,q2⟩=>⟨x :: xs,H2,I2,.cons r1 r2,q2⟩
def tTup (t:TA):TE:=fun σ H Q=>t σ H fun xs H1=>xs.length<=sizeLine/\∀ p,H1 p=none->Q (.ref p) (upd H1 p (.tup xs))
def tLst (t:TA):TE:=fun σ H Q=>t σ H fun xs H1=>xs.length<=sizeLine/\∀ p,H1 p=none->Q (.ref p) (upd H1 p (.lst xs))
theorem xp {x1} (h:PA X es t):PE X (.Tuple es x1 pos) (tTup t):=by
 intro pins s σ H Q I hq
 refine wpAny_Tuple_spliced (thn (h pos pins s σ H _ I hq) fun us s1 ⟨xs,H1,I1,r,z,q⟩=>⟨by rw [<-r.length];exact z,?_⟩)
 have hf:H1 s1.heap.objs.size=none:=I1.hok.fresh (zJ _)
 refine ⟨.ref s1.heap.objs.size,upd H1 s1.heap.objs.size (.tup xs),I1.laid (t':=s1.toks) (fun b u e=>Heap.get?_push_of_some _ e) (zJ _) ?_,rfl,q _ hf⟩
 exact ⟨z,us,r,⟨_,Heap.get?_push_size _ rfl,rfl,_,rfl⟩⟩
theorem xu (h:PA X es t):PE X (.List es pos) (tLst t):=by
 intro pins s σ H Q I hq
 refine wpAny_List_spliced (thn (h pos pins s σ H _ I hq) fun us s1 ⟨xs,H1,I1,r,z,q⟩=>⟨by rw [<-r.length];exact z,?_⟩)
 have hf:H1 s1.heap.objs.size=none:=I1.hok.fresh (zJ _)
 refine ⟨.ref s1.heap.objs.size,upd H1 s1.heap.objs.size (.lst xs),I1.laid (t':=s1.toks) (fun b u e=>Heap.get?_push_of_some _ e) (zJ _) ?_,rfl,q _ hf⟩
 exact ⟨z,us,0,r,Heap.get?_push_size _ rfl⟩
end
abbrev Sp:=List V->Hp->VK->XK->Prop
abbrev CXT:=List Env->Hp->Shared->XK->Value->Shared->Prop
structure Env0 (P:Program) (w:World) (K:PySem.W.Frag) (mg:Str->Option Value) (base:Heap) (A:Around) (outer:List Env) (s:Shared) (H:Hp):Prop where
 frames:A.frames=some outer
 mod:Mod K mg base
 bs:∀ b o,base.get? b=some o->s.heap.get? b=some o/\H b=none
 bsz:base.objs.size<=s.heap.objs.size
 funs:s.heap.FunFrames base outer
 frf:∀ b ∈ frs outer,H b=none
 hok:HOk P w H s.heap
 bare:AllBare s.gens
def CE (outer:List Env) (P:Program) (w:World) (H:Hp) (s:Shared) (Q:VK) (u:Value) (s':Shared):Prop:=
 ∃ v H',s'.os=s.os/\AllBare s'.gens/\Un (frs outer) [] H H' s.heap s'.heap/\HOk P w H' s'.heap/\RelV v u/\Q v H'
def CR (CX:CXT) (outer:List Env) (P:Program) (w:World) (H:Hp) (s:Shared) (Q:VK) (E:XK) (r:Result) (s':Shared):Prop:=
 match r with
 | .ok (.ret u)=>CE outer P w H s Q u s'
 | .ok _=>False
 | .error e=>CX outer H s E e s'
structure FnOk (P:Program) (w:World) (K:PySem.W.Frag) (mg:Str->Option Value) (base:Heap) (CX:CXT) (k:Nat) (f:Addr) (fd:FuncData) (ps:List Str) (sp:Sp):Prop where
 len:∀ vs H Q E,sp vs H Q E->vs.length=ps.length
 run:∀ (A:Around) (outer:List Env) (s:Shared) (H:Hp) (args:Args) (us:List Value) (vs:List V) (Q:VK) (E:XK),Room k A->Env0 P w K mg base A outer s H->BindsTo s fd args (ps.zip us)->Vals vs us->sp vs H Q E ->
  codeAny (model P w) A (.call (.ref f) args) (CR CX outer P w H s Q E) s
theorem Env0.make {P:Program}{w:World}{K:PySem.W.Frag}{mg:Str->Option Value}{base:Heap}{A:Around}{outer:List Env}{s:Shared}{H:Hp} (e:Env0 P w K mg base A outer s H) (C:Addr) (us:List Value) (kw:List (Str × Value)) :
  Env0 P w K mg base (A.under (.builtin "type.__call__" ⟨.ref C :: us,kw⟩)) outer s H:=⟨by first | exact e.frames | (simpa [Around.under,Code.envs,Code.isFrame,pushEnvs] using e.frames),e.mod,e.bs,e.bsz,e.funs,e.frf,e.hok,e.bare⟩
section
variable {X:Cx}{pins:List (Addr × Obj)}{σ:St}{H:Hp}{s s':Shared}
theorem Inv.env0 (I:Inv X pins σ H s):Env0 X.prog X.w X.K X.mg X.base X.A X.stack s H:=
 ⟨I.ok.frames,I.ok.mod,I.bs,zq I.ok.bsz I.sz,I.stack,I.stkFree,I.hok,I.bare⟩
theorem Inv.after {Q:VK}{u:Value} (I:Inv X pins σ H s) (h:CE X.stack X.prog X.w H s Q u s'):EP X pins σ Q u s':=by
 obtain ⟨v,H',os,bare,un,hok,r,q⟩:=h
 obtain ⟨hh,g,d,t,os'⟩:=s'
 obtain rfl:os'=s.os:=os
 exact ⟨v,H',I.call (h':=hh) (g':=g) (d':=d) (t':=t) (ch:=[]) un hok bare (fun b z=>absurd z (by simp)),r,q⟩
end
def tCall (sp:Sp) (dvs:List V) (E:XK) (t:TA):TE:=fun σ H Q=>t σ H fun vs H1=>sp (vs ++ dvs) H1 Q E
def tMeth (C:Addr) (m:Str) (sp:Sp) (dvs:List V) (E:XK) (ta:TE) (t:TA):TE:=fun σ H Q=>ta σ H fun x H1=>∃ a dx fs,x=.ref a/\H1 a=some (.ins C dx fs)/\fs.lookup m=none /\
 t σ H1 fun vs H2=>sp (x :: (vs ++ dvs)) H2 Q E
def tMake (C:Addr) (sp:Sp) (dvs:List V) (E:XK) (t:TA):TE:=fun σ H Q=>t σ H fun vs H1=>∀ x dx,H1 x=none->H1 dx=none->dx ≠ x ->
 sp (.ref x :: (vs ++ dvs)) (upd (upd H1 dx (.own x)) x (.ins C dx [])) (fun v H2=>v=.non/\Q (.ref x) H2) E
def Binds (K:PySem.W.Frag) (fd:FuncData) (ps:List Str) (ds:List Value):Prop:=
 ∀ (s:Shared) (us:List Value),K.In s.heap->(us ++ ds).length=ps.length->BindsTo s fd ⟨us,[]⟩ (ps.zip (us ++ ds))
theorem Binds.all {K:PySem.W.Frag}{fd:FuncData}{ps:List Str} (h:∀ us:List Value,us.length=ps.length->bindArgs fd ⟨us,[]⟩=pure (ps.zip us)):Binds K fd ps []:=fun s us _ hl=>by
 rw [za] at hl ⊢
 exact .of_eq (h us hl)
def Passes (CX:CXT) (X:Cx) (E:XK):Prop:=∀ (pins:List (Addr × Obj)) (σ:St) (H:Hp) (s:Shared) (e:Value) (s':Shared),Inv X pins σ H s->CX X.stack H s E e s'->X.xe e s'
section
variable {X:Cx}{CX:CXT}{k:Nat}{f C:Addr}{fd:FuncData}{ps:List Str}{sp:Sp}{dvs:List V}{ds:List Value}{E:XK}{x m:Str}{p pos apos:Pos}{e o:Expr}{es:List Expr}{ta:TE}{t:TA}
theorem run_fn {pins:List (Addr × Obj)}{σ:St}{H:Hp}{s:Shared}{Q:VK}{us:List Value}{vs:List V} (F:FnOk X.prog X.w X.K X.mg X.base CX k f fd ps sp) (hr:Room k X.A) (hb:Binds X.K fd ps ds) (hd:Vals dvs ds) (hx:Passes CX X E)
  (I:Inv X pins σ H s) (r:Vals vs us) (h:sp (vs ++ dvs) H Q E):wpAny (model X.prog X.w) X.A (call (.ref f) us) (EP X pins σ Q) X.xe s:=by
 have r2:Vals (vs ++ dvs) (us ++ ds):=r.append hd
 have hl:(us ++ ds).length=ps.length:=by rw [<-r2.length];exact F.len _ _ _ _ h
 refine wpAny_call (codeAny_mono (F.run X.A X.stack s H ⟨us,[]⟩ (us ++ ds) (vs ++ dvs) Q E hr I.env0 (hb s us I.kIn hl) r2 h) fun r s' hq=>?_)
 cases r with
 | error e=>exact hx pins σ H s e s' I hq
 | ok fl=>
  cases fl with
  | ret u=>exact I.after hq
  | next=>exact False.elim hq
  | brk=>exact False.elim hq
  | cont=>exact False.elim hq
theorem xP (F:FnOk X.prog X.w X.K X.mg X.base CX k f fd ps sp) (hr:Room k X.A) (hg:Gl X x) (hm:X.mg x=some (.ref f)) (hk:zH X.K (.ref f)=true) (hb:Binds X.K fd ps ds) (hd:Vals dvs ds) (hx:Passes CX X E)
  (ha:PA X (e :: es) t) (hdb:(x == ("__debug__" : Str))=false:=by decide) (he:starEach (e :: es) X.env=(false,eval e X.env) :: starEach es X.env:=by rfl) (hpl:(backTo pos (starEach es X.env)).any (·.1)=false:=by rfl) :
  PE X (.Call (.Name x p) (e :: es) [] pos) (tCall sp dvs E t):=by
 intro pins s σ H Q I h
 refine wpAny_Call_Name_kw (ld_glob I hg hm ?_ hdb)
 refine PySem.W.callWith_K (h₀:=X.base) I.ok.mod.kin hk (thn (ha pos pins s σ H _ I h) fun us s1 ⟨vs,H1,I1,r,q⟩=>⟨I1.kIn,?_⟩) he hpl
 exact run_fn F hr hb hd hx I1 r q
theorem wD {pl:Sem Bool} (he:PE X o ta) (c:Cls X.K C) (hm:Meth X.K C m f) (F:FnOk X.prog X.w X.K X.mg X.base CX k f fd ps sp) (hr:Room k X.A) (hb:Binds X.K fd ps ds) (hd:Vals dvs ds) (hx:Passes CX X E) (ha:PA X (e :: es) t)
  (hst:starEach (e :: es) X.env=(false,eval e X.env) :: starEach es X.env:=by rfl) (hpl:(backTo pos (starEach es X.env)).any (·.1)=false:=by rfl)
  (ht:eval (.Call (.Attribute o m apos) (e :: es) [] pos) X.env=(do
   let ov <- eval o X.env
   standAt apos.atName
   let (f,first) <- holding [ov] (getMethod ov m pl)
   callWith pos f first (backTo pos (starEach (e :: es) X.env)) (backToKw pos (keywordEach [] X.env))):=by rfl) :
  PE X (.Call (.Attribute o m apos) (e :: es) [] pos) (tMeth C m sp dvs E ta t):=by
 intro pins s σ H Q I h
 refine PySem.W.methodCall_KW (pl:=pl) (thn (he pins s σ H _ I h) fun u s1 ⟨x,H1,I1,rx,a,dx,fs,ex,ea,l,q⟩=>?_) ht
 subst ex
 obtain rfl:u=Value.ref a:=rx
 refine getmeth_ok I1 ea c hm l ?_
 refine PySem.W.callWith_K (first:=[.ref a]) (h₀:=X.base) I.ok.mod.kin hm.kp (thn (ha pos pins s1 σ H1 _ I1 q) fun us s2 ⟨vs,H2,I2,r,q2⟩=>⟨I2.kIn,?_⟩) hst hpl
 exact run_fn (us:=.ref a :: us) (vs:=.ref a :: vs) F hr hb hd hx I2 (.cons rfl r) q2
theorem pe_meth0 {pl:Sem Bool} (he:PE X o ta) (c:Cls X.K C) (hm:Meth X.K C m f) (F:FnOk X.prog X.w X.K X.mg X.base CX k f fd ps sp) (hr:Room k X.A) (hb:Binds X.K fd ps ds) (hd:Vals dvs ds) (hx:Passes CX X E)
  (ht:eval (.Call (.Attribute o m apos) [] [] pos) X.env=(do
   let ov <- eval o X.env
   standAt apos.atName
   let (f,first) <- holding [ov] (getMethod ov m pl)
   callWith pos f first (backTo pos (starEach [] X.env)) (backToKw pos (keywordEach [] X.env))):=by rfl) :
  PE X (.Call (.Attribute o m apos) [] [] pos) (tMeth C m sp dvs E ta tNil):=by
 intro pins s σ H Q I h
 refine PySem.W.methodCall_KW (pl:=pl) (thn (he pins s σ H _ I h) fun u s1 ⟨x,H1,I1,rx,a,dx,fs,ex,ea,l,q⟩=>?_) ht
 subst ex
 obtain rfl:u=Value.ref a:=rx
 refine getmeth_ok I1 ea c hm l ?_
 exact PySem.W.callWith_K0 (first:=[.ref a]) I1.kIn hm.kp (run_fn (us:=[.ref a]) (vs:=[.ref a]) F hr hb hd hx I1 (.cons rfl .nil) q)
structure Mk (K:PySem.W.Frag) (C f:Addr):Prop where
 makes:yp K C=true
 init:zK K (.ref C) "__init__" = some (some (.ref f))
 fn:zc K (.ref f)=true
 kp:zH K (.ref C)=true
theorem run_make {pins:List (Addr × Obj)}{σ:St}{H:Hp}{s:Shared}{Q:VK}{us:List Value}{vs:List V} (M:Mk X.K C f) (F:FnOk X.prog X.w X.K X.mg X.base CX k f fd ps sp) (hr:Room (k + 1) X.A) (hb:Binds X.K fd ps ds) (hd:Vals dvs ds)
  (hx:Passes CX X E) (I:Inv X pins σ H s) (r:Vals vs us)
  (h:∀ x dx,H x=none->H dx=none->dx ≠ x->sp (.ref x :: (vs ++ dvs)) (upd (upd H dx (.own x)) x (.ins C dx [])) (fun v H2=>v=.non/\Q (.ref x) H2) E) :
  wpAny (model X.prog X.w) X.A (call (.ref C) us) (EP X pins σ Q) X.xe s:=by
 have hq:=h (s.heap.objs.size + 1) s.heap.objs.size (I.hok.fresh (yl _)) (I.hok.fresh (zJ _)) (zU (yB _))
 have I2:=Inv.made (C:=C) I
 have r2:Vals (V.ref (s.heap.objs.size + 1) :: (vs ++ dvs)) (Value.ref (s.heap.objs.size + 1) :: (us ++ ds)):=.cons rfl (r.append hd)
 have hl:(Value.ref (s.heap.objs.size + 1) :: us ++ ds).length=ps.length:=by
  have e:=r2.length
  rw [F.len _ _ _ _ hq] at e
  exact e.symm
 refine wpAny_call (make_map (f:=f) I.kIn M.makes M.init (beq_iff_eq.mp M.fn) (codeAny_mono (F.run _ X.stack _ _ ⟨Value.ref (s.heap.objs.size + 1) :: us,[]⟩ (Value.ref (s.heap.objs.size + 1) :: (us ++ ds)) _ _ E (hr.make C us [])
  (I2.env0.make C us []) (hb _ (Value.ref (s.heap.objs.size + 1) :: us) I2.kIn hl) r2 hq) fun r s' hq'=>?_))
 cases r with
 | error e=>exact hx pins σ _ _ e s' I2 hq'
 | ok fl=>
  cases fl with
  | ret u=>
   obtain ⟨v,H',I3,rv,ev,q3⟩:=I2.after hq'
   subst ev
   exact ⟨rv,⟨V.ref (s.heap.objs.size + 1),H',I3,rfl,q3⟩⟩
  | next=>exact False.elim hq'
  | brk=>exact False.elim hq'
  | cont=>exact False.elim hq'
theorem pe_make (M:Mk X.K C f) (F:FnOk X.prog X.w X.K X.mg X.base CX k f fd ps sp) (hr:Room (k + 1) X.A) (hg:Gl X x) (hm:X.mg x=some (.ref C)) (hb:Binds X.K fd ps ds) (hd:Vals dvs ds) (hx:Passes CX X E)
  (ha:PA X (e :: es) t) (hdb:(x == ("__debug__" : Str))=false:=by decide) (he:starEach (e :: es) X.env=(false,eval e X.env) :: starEach es X.env:=by rfl) (hpl:(backTo pos (starEach es X.env)).any (·.1)=false:=by rfl) :
  PE X (.Call (.Name x p) (e :: es) [] pos) (tMake C sp dvs E t):=by
 intro pins s σ H Q I h
 refine wpAny_Call_Name_kw (ld_glob I hg hm ?_ hdb)
 refine PySem.W.callWith_K (h₀:=X.base) I.ok.mod.kin M.kp (thn (ha pos pins s σ H _ I h) fun us s1 ⟨vs,H1,I1,r,q⟩=>⟨I1.kIn,?_⟩) he hpl
 exact run_make M F hr hb hd hx I1 r q
theorem pe_make0 (M:Mk X.K C f) (F:FnOk X.prog X.w X.K X.mg X.base CX k f fd ps sp) (hr:Room (k + 1) X.A) (hg:Gl X x) (hm:X.mg x=some (.ref C)) (hb:Binds X.K fd ps ds) (hd:Vals dvs ds) (hx:Passes CX X E)
  (hdb:(x == ("__debug__" : Str))=false:=by decide):PE X (.Call (.Name x p) [] [] pos) (tMake C sp dvs E tNil):=by
 intro pins s σ H Q I h
 refine wpAny_Call_Name_kw (ld_glob I hg hm ?_ hdb)
 exact PySem.W.callWith_K0 I.kIn M.kp (run_make (us:=[]) M F hr hb hd hx I .nil h)
end
section
variable {X:Cx}{CX:CXT}{k:Nat}{f C:Addr}{fd:FuncData}{ps ks:List Str}{sp:Sp}{E:XK}{x m:Str}{p pos apos kpos:Pos}{e o:Expr}{es:List Expr}{kws:List Keyword}{te ta:TE}{t tk:TA}{nm:Option Str}
variable {g:List Value->List Value->List Value}{gV:List V->List V->List V}
end
structure FnScope (N P:List Str) (sc:Scope):Prop where
 kind:sc.kind=.function
 co:sc.isCoroutine=false
 gen:sc.isGenerator=false
 nd:N.Nodup
 pre:N.take P.length=P
 par:∀ x ∈ P,sc.names.lookup x=some .local\/sc.names.lookup x=some .cell
 nofree:∀ y ∈ sc.names,y.2 ≠ .free
theorem bindL_out {kindOf:Str->Option NameKind}{x:Str}:∀ {binds:List (Str × Value)}{m:Str->Option Value},(∀ v,(x,v) ∉ binds)->bindL kindOf binds m x=m x
 | [],_,_=>rfl
 | (n,v) :: r,m,h=>by
  unfold bindL
  rw [bindL_out fun w hw=>h w (zo _ hw)]
  split
  ·have:x ≠ n:=by rintro rfl;exact h v yb
   simp [this]
  ·rfl
theorem bindC_out {kindOf:Str->Option NameKind}{x:Str}:∀ {binds:List (Str × Value)}{m:Str->Option Value},(∀ v,(x,v) ∉ binds)->bindC kindOf binds m x=m x
 | [],_,_=>rfl
 | (n,v) :: r,m,h=>by
  unfold bindC
  rw [bindC_out fun w hw=>h w (zo _ hw)]
  split
  ·rfl
  ·have:x ≠ n:=by rintro rfl;exact h v yb
   simp [this]
theorem bindL_get {kindOf:Str->Option NameKind}{x:Str}{v:Value}:∀ {P:List Str}{vs:List Value}{i:Nat}{m:Str->Option Value},P.Nodup->P[i]?=some x->vs[i]?=some v->kindOf x=some .local ->
  bindL kindOf (P.zip vs) m x=some v
 | [],_,_,_,_,h,_,_=>by simp at h
 | _ :: _,[],_,_,_,_,h,_=>by simp at h
 | p :: P,w :: vs,0,m,nd,h1,h2,hk=>by
  simp at h1 h2;subst h1;subst h2
  show bindL kindOf ((p,w) :: P.zip vs) m p=_
  unfold bindL
  rw [bindL_out fun v hv=>(yT.mp nd).1 (List.of_mem_zip hv).1,if_pos hk]
  simp
 | p :: P,w :: vs,i + 1,m,nd,h1,h2,hk=>by
  show bindL kindOf ((p,w) :: P.zip vs) m x=_
  unfold bindL
  exact bindL_get (i:=i) (yT.mp nd).2 (by simpa using h1) (by simpa using h2) hk
theorem bindC_get {kindOf:Str->Option NameKind}{x:Str}{v:Value}:∀ {P:List Str}{vs:List Value}{i:Nat}{m:Str->Option Value},P.Nodup->P[i]?=some x->vs[i]?=some v->kindOf x ≠ some .local ->
  bindC kindOf (P.zip vs) m x=some v
 | [],_,_,_,_,h,_,_=>by simp at h
 | _ :: _,[],_,_,_,_,h,_=>by simp at h
 | p :: P,w :: vs,0,m,nd,h1,h2,hk=>by
  simp at h1 h2;subst h1;subst h2
  show bindC kindOf ((p,w) :: P.zip vs) m p=_
  unfold bindC
  rw [bindC_out fun v hv=>(yT.mp nd).1 (List.of_mem_zip hv).1,if_neg hk]
  simp
 | p :: P,w :: vs,i + 1,m,nd,h1,h2,hk=>by
  show bindC kindOf ((p,w) :: P.zip vs) m x=_
  unfold bindC
  exact bindC_get (i:=i) (yT.mp nd).2 (by simpa using h1) (by simpa using h2) hk
def start (N:List Str) (vs:List V):St:=vs.map some ++ List.replicate (N.length - vs.length) none
def cxOf (CX:CXT) (P:Program) (w:World) (K:PySem.W.Frag) (mg:Str->Option Value) (base:Heap) (N:List Str) (qual:Str) (scope:Scope) (f:Addr) (cd:Value) (A:Around) (outer:List Env) (s:Shared) (H:Hp) (E:XK):Cx where
 prog:=P
 w:=w
 K:=K
 mg:=mg
 base:=base
 A:=A.deeper (envOfC qual scope s.heap.objs.size f cd)
 N:=N
 s₀:=s
 H₀:=H
 env:=envOfC qual scope s.heap.objs.size f cd
 outer:=outer
 stack:=envOfC qual scope s.heap.objs.size f cd :: outer
 ex:=[]
 calm:=true
 fn:=fun _=>true
 pn:=[]
 xe:=fun e s'=>wpAny (model P w) (A.deeper (envOfC qual scope s.heap.objs.size f cd)) (leaving (envOfC qual scope s.heap.objs.size f cd) e) (fun _ s''=>CX outer H s E e s'') (fun e' s''=>CX outer H s E e' s'') s'
theorem cell_has {sc:Scope}{n:Nat}{x:Str} (h:sc.names.lookup x=some .cell):∃ c,(cellsFrom n sc.names []).lookup x=some c:=by
 have q:=PySem.W.cellsFrom_some sc.names n [] (.inl h)
 exact zf.mp q
theorem inv_start {CX:CXT}{P:Program}{w:World}{K:PySem.W.Frag}{mg:Str->Option Value}{base:Heap}{N ps:List Str}{qual:Str}{scope:Scope}{f:Addr}{cd:Value}{A:Around}{outer:List Env} {s s1:Shared}{H:Hp}{E:XK}{us:List Value}{vs:List V}
  (S:FnScope N ps scope) (hd:A.handled=none) (e0:Env0 P w K mg base A outer s H) (hl:vs.length=ps.length) (r:Vals vs us)
  (x:InCallC s s.heap.objs.size (bindL (envOfC qual scope s.heap.objs.size f cd).kindOf (ps.zip us) fun _=>none) (cellsFrom (s.heap.objs.size + 1) scope.names []) (bindC (envOfC qual scope s.heap.objs.size f cd).kindOf (ps.zip us) fun _=>none) s1) :
  Inv (cxOf CX P w K mg base N qual scope f cd A outer s H E) [] (start N vs) H s1:=by
 have hpl:ps.length<=N.length:=by have:=congrArg List.length S.pre;rw [yY] at this;omega
 obtain ⟨h1,tk,rfl,hk⟩:=x.done
 have noA:∀ b:Addr,b ∉ (cxOf CX P w K mg base N qual scope f cd A outer s H E).ex:=fun b z=>absurd (show b ∈ ([]:List Addr) from z) (by simp)
 refine ⟨⟨e0.mod,S.kind,rfl,rfl,zJ _,fun y z c h1 h2=>?_,fun y hy=>?_,fun y c _ h=>?_,fun _=>hd,Around.frames_deeper e0.frames,.inr ⟨rfl,rfl⟩,fun b z=>absurd z (noA b),e0.bs,e0.bsz,fun b _ _=>noA b,fun b z=>absurd z (noA b),e0.funs,e0.frf⟩,
  rfl,e0.bare,Un.kept hk,⟨_,x.toInCall.ns,fun i y v h1 h2 h3=>?_⟩,fun y c h=>⟨_,x.cell y c h⟩,e0.hok.fresh (zJ _),fun y c h=>?_,fun p hp=>absurd (show p ∈ ([]:List (Addr × Obj)) from hp) (by simp),e0.hok.kept hk,?_⟩
 ·exact name_of_addr x.apart (yE h1) (yE h2)
 ·have hy:scope.names.lookup y=some .cell\/scope.names.lookup y=some .free:=hy
  rcases hy with hy | hy
  ·exact cell_has hy
  ·exact absurd rfl (S.nofree _ (yE hy))
 ·exact yy (x.above y c (yE h))
 ·have hi:i < vs.length:=by
   unfold start at h2
   by_cases hi:i < vs.length
   ·exact hi
   ·rw [z6 (by simpa using hi)] at h2
    rw [yR] at h2
    split at h2 <;> cases h2
  have ha:vs[i]?=some v:=by
   unfold start at h2
   rw [List.getElem?_append_left (by simpa using hi),zC] at h2
   cases e:vs[i]? with
   | none=>rw [e] at h2;cases h2
   | some a=>rw [e] at h2;cases h2;rfl
  obtain ⟨u,hu,rv⟩:=r.get ha
  have hp:ps[i]?=some y:=by
   rw [<-S.pre,List.getElem?_take_of_lt (by omega)];exact h1
  have ndP:ps.Nodup:=by rw [<-S.pre];exact S.nd.sublist (List.take_sublist _ _)
  refine ⟨u,rv,?_⟩
  rcases S.par y (zD hp) with k | k
  ·exact .inl ⟨k,bindL_get ndP hp hu k⟩
  ·obtain ⟨c,e⟩:=cell_has (n:=s.heap.objs.size + 1) k
   refine .inr ⟨.inl k,c,e,?_⟩
   have q:=x.cell y c e
   rw [bindC_get ndP hp hu (by show scope.names.lookup y ≠ _;rw [k];decide)] at q
   exact q
 ·exact e0.hok.fresh (yy (x.above y c (yE h)))
 ·unfold start
  show _=N.length
  rw [zT,zA,zY]
  omega
theorem fn_of {CX:CXT}{P:Program}{w:World}{K:PySem.W.Frag}{mg:Str->Option Value}{base:Heap}{k:Nat}{f:Addr}{name qual:Str}{params:Arguments}{body:List Stmt}{scope:Scope}{dV kV doc pm cdv ct oc:Value}{an od:Option Addr}
  {osl:Array (Option Value)}{N ps:List Str}{sp:Sp} (lk:K.lookup f=some ⟨oc,od,.func (xC name qual params body scope dV kV doc pm an cdv ct),osl⟩) (hcd:PySem.W.codeIn K cdv qual=true) (S:FnScope N ps scope)
  (len:∀ vs H Q E,sp vs H Q E->vs.length=ps.length)
  (hbody:∀ (A:Around) (outer:List Env) (s:Shared) (H:Hp) (vs:List V) (Q:VK) (E:XK),Room k (A.deeper (envOfC qual scope s.heap.objs.size f cdv))->sp vs H Q E ->
   ∃ t,PSs (cxOf CX P w K mg base N qual scope f cdv A outer s H E) body t/\t { nx:=fun _ H'=>Q .non H',rt:=Q } (start N vs) H) :
  FnOk P w K mg base CX (k + 1) f (xC name qual params body scope dV kV doc pm an cdv ct) ps sp:=by
 refine ⟨len,fun A outer s H args us vs Q E hr e0 hb r hsp=>?_⟩
 have hl:=len _ _ _ _ hsp
 have KX:K.In s.heap:=e0.mod.kin.keeps fun b o e=>(e0.bs b o e).1
 have lim:s.heap.NoLimit:=e0.mod.nolimit.keeps fun b o e=>(e0.bs b o e).1
 have hkind:∀ y ∈ ps.zip us,scope.names.lookup y.1=some .local\/(scope.names.lookup y.1=some .cell/\((cellsFrom (s.heap.objs.size + 1) scope.names []).lookup y.1).isSome=true):=fun ⟨n,v⟩ hy=>by
  rcases S.par n (List.of_mem_zip hy).1 with q | q
  ·exact .inl q
  ·exact .inr ⟨q,PySem.W.cellsFrom_some _ _ _ (.inl q)⟩
 refine codeAny_call_function hr.depth (KX _ _ lk) rfl S.co S.gen rfl (PySem.W.codeRec_of KX hcd) (hb _ _ _ _ ?_)
 refine wpAny_newFunctionEnv_cells S.kind hkind fun env he s1 x=>?_
 subst he
 refine ⟨lim.keeps x.toInCall.keep,codeAny_func ?_⟩
 obtain ⟨t,ht,hq⟩:=hbody A outer s H vs Q E (hr.deeper _) hsp
 have I:Inv (cxOf CX P w K mg base N qual scope f cdv A outer s H E) [] (start N vs) H s1:=inv_start S hr.hd e0 hl r x
 refine wpAny_mono (ht [] s1 (start N vs) H _ I hq) (fun fl s' hs=>?_) fun e s' hs=>hs
 have fin:∀ {σ':St}{H':Hp}{v:V}{u:Value},Inv (cxOf CX P w K mg base N qual scope f cdv A outer s H E) [] σ' H' s'->RelV v u->Q v H'->CE outer P w H s Q u s':=
  fun {σ' H' v u} J rv q=>⟨v,H',J.os,J.bare,J.base,J.hok,rv,q⟩
 cases fl with
 | ret u=>
  obtain ⟨v,σ',H',J,rv,q⟩:=hs
  exact fin J rv q
 | next=>
  obtain ⟨σ',H',J,q⟩:=hs
  exact fin (v:=V.non) (u:=Value.none) J rfl q
 | brk=>
  obtain ⟨_,_,_,q⟩:=hs
  exact False.elim q
 | cont=>
  obtain ⟨_,_,_,q⟩:=hs
  exact False.elim q
end L2
namespace L2
open PySem PySem.Spec PyProof.Rows
section
variable {X:Cx}{x:Str}{p pos:Pos}{e:Expr}{es:List Expr}{t:TA}{id T:String}{r:List V->Hp->VK->Prop}
def tCB (r:List V->Hp->VK->Prop) (t:TA):TE:=fun σ H Q=>t σ H fun vs H1=>r vs H1 Q
theorem xU (hc:CallR X (.builtin id) r) (hg:Gl X x) (hm:X.mg x=none) (hv:bootBuiltins x=some (.builtin id)) (ha:PA X (e :: es) t) (hn:x ≠ "__name__" := by decide) (hdb:(x == ("__debug__" : Str))=false:=by decide)
  (he:starEach (e :: es) X.env=(false,eval e X.env) :: starEach es X.env:=by rfl) (hpl:(backTo pos (starEach es X.env)).any (·.1)=false:=by rfl):PE X (.Call (.Name x p) (e :: es) [] pos) (tCB r t):=by
 intro pins s σ H Q I h
 refine wpAny_Call_Name_kw (ld_blt I hg hm hv ?_ hn hdb)
 exact PyProof.Rows.callWith_builtin1 (thn (ha pos pins s σ H _ I h) fun us s1 ⟨vs,H1,I1,r1,q1⟩=>hc pins s1 σ H1 vs us Q I1 r1 q1) he hpl
theorem wC (hc:CallR X (.type T) r) (hg:Gl X x) (hm:X.mg x=none) (hv:bootBuiltins x=some (.type T)) (ha:PA X (e :: es) t) (hn:x ≠ "__name__" := by decide) (hdb:(x == ("__debug__" : Str))=false:=by decide)
  (he:starEach (e :: es) X.env=(false,eval e X.env) :: starEach es X.env:=by rfl) (hpl:(backTo pos (starEach es X.env)).any (·.1)=false:=by rfl):PE X (.Call (.Name x p) (e :: es) [] pos) (tCB r t):=by
 intro pins s σ H Q I h
 refine wpAny_Call_Name_kw (ld_blt I hg hm hv ?_ hn hdb)
 exact PyProof.Rows.callWith_type1 (thn (ha pos pins s σ H _ I h) fun us s1 ⟨vs,H1,I1,r1,q1⟩=>hc pins s1 σ H1 vs us Q I1 r1 q1) he hpl
end
end L2
namespace L2
open PySem PySem.Spec PyProof.Rows
section
variable {κ:Type} [DecidableEq κ]
def valV (kvs:List (κ × V)) (k:κ):Option V:=(kvs.find? fun kv=>decide (kv.1=k)).map (·.2)
def putK (kvs:List (κ × V)) (k:κ) (v:V):List (κ × V):=
 if (kvs.any fun kv=>decide (kv.1=k))=true then kvs.map (fun kv=>if kv.1=k then (kv.1,v) else kv) else kvs ++ [(k,v)]
def dropK (kvs:List (κ × V)) (k:κ):List (κ × V):=kvs.filter fun kv=>decide (kv.1 ≠ k)
theorem wA {p:κ × V}{r:List (κ × V)}{k:κ} (e:p.1=k):valV (p :: r) k=some p.2:=by simp [valV,yU,e]
theorem wB {p:κ × V}{r:List (κ × V)}{k:κ} (e:¬ p.1=k):valV (p :: r) k=valV r k:=by simp [valV,yU,e]
theorem valV_any (k:κ):∀ kvs:List (κ × V),(kvs.any fun kv=>decide (kv.1=k))=(valV kvs k).isSome
 | []=>rfl
 | p :: r=>by
  rw [yw]
  by_cases e:p.1=k
  ·simp only [wA e,decide_eq_true e,Bool.true_or,Option.isSome_some]
  ·rw [wB e,decide_eq_false e,Bool.false_or];exact valV_any k r
theorem valV_map (k j:κ) (y:V):∀ kvs:List (κ × V),valV (kvs.map fun kv=>if kv.1=k then (kv.1,y) else kv) j=(valV kvs j).map fun x=>if j=k then y else x
 | []=>rfl
 | p :: r=>by
  have ih:=valV_map k j y r
  rw [zj]
  by_cases h:p.1=k
  ·rw [if_pos h]
   by_cases e:p.1=j
   ·rw [wA (p:=(p.1,y)) e,wA e,yS,if_pos (e.symm.trans h)]
   ·rw [wB (p:=(p.1,y)) e,wB e,ih]
  ·rw [if_neg h]
   by_cases e:p.1=j
   ·rw [wA (p:=p) e,wA e,yS,if_neg (fun z=>h (e.trans z))]
   ·rw [wB (p:=p) e,wB e,ih]
theorem valV_snoc (k j:κ) (y:V):∀ kvs:List (κ × V),valV kvs k=none->valV (kvs ++ [(k,y)]) j=if j=k then some y else valV kvs j
 | [],_=>by
  by_cases e:k=j
  ·rw [if_pos e.symm];exact wA (p:=(k,y)) e
  ·rw [if_neg (fun z=>e z.symm)];exact wB (p:=(k,y)) e
 | p :: r,hn=>by
  rw [List.cons_append]
  have hk:¬ p.1=k:=fun z=>by rw [wA z] at hn;cases hn
  rw [wB hk] at hn
  have ih:=valV_snoc k j y r hn
  by_cases e:p.1=j
  ·rw [wA e,wA e,if_neg (fun z=>hk (e.trans z))]
  ·rw [wB e,wB e,ih]
theorem valV_put (kvs:List (κ × V)) (k j:κ) (y:V):valV (putK kvs k y) j=if j=k then some y else valV kvs j:=by
 unfold putK
 by_cases a:(kvs.any fun kv=>decide (kv.1=k))=true
 ·rw [if_pos a,valV_map]
  rw [valV_any] at a
  by_cases e:j=k
  ·obtain ⟨x,hx⟩:=zf.mp a
   rw [if_pos e,e,hx,yS,if_pos rfl]
  ·rw [if_neg e]
   cases valV kvs j with
   | none=>rfl
   | some x=>rw [yS,if_neg e]
 ·rw [if_neg a]
  refine valV_snoc k j y kvs ?_
  rw [valV_any] at a
  cases q:valV kvs k with
  | none=>rfl
  | some x=>rw [q] at a;exact (a rfl).elim
theorem length_putK (kvs:List (κ × V)) (k:κ) (v:V):(putK kvs k v).length<=kvs.length + 1:=by
 unfold putK
 split
 ·rw [zA];omega
 ·rw [zT,zg,yd];omega
theorem RelO.isSome_eq {o:Option V}{u:Option Value} (r:RelO o u):o.isSome=u.isSome:=by
 cases o with
 | none=>cases u with
  | none=>rfl
  | some _=>exact (show False from r).elim
 | some _=>cases u with
  | none=>exact (show False from r).elim
  | some _=>rfl
theorem RelO.getD {o:Option V}{u:Option Value}{d:V}{d':Value} (r:RelO o u) (rd:RelV d d'):RelV (o.getD d) (u.getD d'):=by
 cases o with
 | none=>cases u with
  | none=>exact rd
  | some _=>exact (show False from r).elim
 | some _=>cases u with
  | none=>exact (show False from r).elim
  | some _=>exact r
theorem KV.val {kvs:List (κ × V)}{vs:List (κ × Value)} (r:KV kvs vs) (k:κ):RelO (valV kvs k) (valueAt vs k):=by
 unfold KV at r
 induction r with
 | nil=>exact True.intro
 | @cons p q ps qs h t ih=>
  obtain ⟨h1,h2⟩:=h
  by_cases e:p.1=k
  ·have e':q.1=k:=h1.symm.trans e
   have b:valueAt (q :: qs) k=some q.2:=by simp [valueAt,yU,e']
   rw [wA e,b];exact h2
  ·have e':¬ q.1=k:=fun z=>e (h1.trans z)
   have b:valueAt (q :: qs) k=valueAt qs k:=by simp [valueAt,yU,e']
   rw [wB e,b];exact ih
theorem KV.any {kvs:List (κ × V)}{vs:List (κ × Value)} (r:KV kvs vs) (k:κ):(kvs.any fun kv=>decide (kv.1=k))=vs.any fun kv=>decide (kv.1=k):=by
 unfold KV at r
 induction r with
 | nil=>rfl
 | cons h t ih=>rw [yw,yw,ih,h.1]
theorem KV.repl {kvs:List (κ × V)}{vs:List (κ × Value)} (r:KV kvs vs) (k:κ) {y:V}{u:Value} (ry:RelV y u) :
  KV (kvs.map fun kv=>if kv.1=k then (kv.1,y) else kv) (vs.map fun kv=>if kv.1=k then (kv.1,u) else kv):=by
 unfold KV at r ⊢
 induction r with
 | nil=>exact .nil
 | @cons p q ps qs h t ih=>
  rw [zj,zj]
  refine .cons ?_ ih
  obtain ⟨h1,h2⟩:=h
  by_cases e:p.1=k
  ·rw [if_pos e,if_pos (h1.symm.trans e)];exact ⟨h1,ry⟩
  ·rw [if_neg e,if_neg (fun z=>e (h1.trans z))];exact ⟨h1,h2⟩
theorem KV.put {kvs:List (κ × V)}{vs:List (κ × Value)} (r:KV kvs vs) (k:κ) {y:V}{u:Value} (ry:RelV y u):KV (putK kvs k y) (stored vs k u):=by
 unfold putK stored
 rw [r.any k]
 by_cases e:(vs.any fun kv=>decide (kv.1=k))=true
 ·rw [if_pos e,if_pos e];exact r.repl k ry
 ·rw [if_neg e,if_neg e];exact Paired.snoc r ⟨rfl,ry⟩
theorem KV.drop {kvs:List (κ × V)}{vs:List (κ × Value)} (r:KV kvs vs) (k:κ):KV (dropK kvs k) (without vs k):=by
 unfold KV at r ⊢
 unfold dropK without
 induction r with
 | nil=>exact .nil
 | @cons p q ps qs h t ih=>
  obtain ⟨h1,h2⟩:=h
  rw [List.filter_cons,List.filter_cons]
  by_cases e:p.1=k
  ·have a:¬ decide (p.1 ≠ k)=true:=by simp [e]
   have b:¬ decide (q.1 ≠ k)=true:=by simp [h1.symm.trans e]
   rw [if_neg a,if_neg b];exact ih
  ·have e':¬ q.1=k:=fun z=>e (h1.trans z)
   have a:decide (p.1 ≠ k)=true:=by simp [e]
   have b:decide (q.1 ≠ k)=true:=by simp [e']
   rw [if_pos a,if_pos b];exact .cons ⟨h1,h2⟩ ih
theorem KV.length {kvs:List (κ × V)}{vs:List (κ × Value)} (r:KV kvs vs):kvs.length=vs.length:=Paired.length r
theorem dropK_le (kvs:List (κ × V)) (k:κ):(dropK kvs k).length<=kvs.length:=List.length_filter_le _ _
end
theorem kV_is {P:Program}{w:World}{k:Key}{u:Value} (r:RelV (kV k) u):(mixKind P w).is k u=true:=by
 cases k with
 | inl i=>obtain ⟨t,e⟩:=(show ∃ t,u=Value.int i t from r);subst e;exact mixKind_int P w i t
 | inr x=>obtain ⟨t,e⟩:=(show ∃ t,u=Value.str x t from r);subst e;exact mixKind_str P w x t
theorem items_are {P:Program}{w:World}:∀ {ks:List Key}{us:List Value},Vals (ks.map kV) us->ItemsAre (mixKind P w) ks us
 | [],_,r=>by rw [xD] at r;cases r;exact .nil
 | k :: ks,_,r=>by
  rw [zj] at r
  cases r with
  | cons h t=>exact .cons (kV_is h) (items_are t)
abbrev KT (H:Hp):List (List Key × V)->List (List Key × Addr × Value)->Prop:=Paired fun p q=>p.1=q.1/\H q.2.1=some (.tup (p.1.map kV))/\RelV p.2 q.2.2
theorem KT.val {H:Hp}{kvs:List (List Key × V)}{xs:List (List Key × Addr × Value)} (r:KT H kvs xs) (k:List Key):RelO (valV kvs k) ((atKey xs k).map (·.2)):=by
 induction r with
 | nil=>exact True.intro
 | @cons p q ps qs h t ih=>
  obtain ⟨h1,_,h2⟩:=h
  by_cases e:p.1=k
  ·have e':q.1=k:=h1.symm.trans e
   have b:atKey (q :: qs) k=some q.2:=by simp [atKey,yU,e']
   rw [wA e,b];exact h2
  ·have e':¬ q.1=k:=fun z=>e (h1.trans z)
   have b:atKey (q :: qs) k=atKey qs k:=by simp [atKey,yU,e']
   rw [wB e,b];exact ih
theorem KT.repl {H:Hp}{kvs:List (List Key × V)}{xs:List (List Key × Addr × Value)} (r:KT H kvs xs) (k:List Key) {y:V}{u:Value} (ry:RelV y u) :
  KT H (kvs.map fun kv=>if kv.1=k then (kv.1,y) else kv) (xs.map (putAt k u)):=by
 induction r with
 | nil=>exact .nil
 | @cons p q ps qs h t ih=>
  rw [zj,zj]
  refine .cons ?_ ih
  obtain ⟨h1,h2,h3⟩:=h
  unfold putAt
  by_cases e:p.1=k
  ·rw [if_pos e,if_pos (h1.symm.trans e)];exact ⟨h1,h2,ry⟩
  ·rw [if_neg e,if_neg (fun z=>e (h1.trans z))];exact ⟨h1,h2,h3⟩
theorem KT.put {H:Hp}{kvs:List (List Key × V)}{xs:List (List Key × Addr × Value)} (r:KT H kvs xs) (k:List Key) {b:Addr}{y:V}{u:Value} (hb:H b=some (.tup (k.map kV))) (ry:RelV y u) :
  KT H (putK kvs k y) (storedH xs k b u):=by
 have e:(kvs.any fun kv=>decide (kv.1=k))=(atKey xs k).isSome:=by
  rw [valV_any,(r.val k).isSome_eq,yI]
 unfold putK storedH
 rw [e]
 by_cases q:(atKey xs k).isSome=true
 ·rw [if_pos q,if_pos q];exact r.repl k ry
 ·rw [if_neg q,if_neg q];exact Paired.snoc r ⟨rfl,hb,ry⟩
theorem KT.keeps {H H':Hp}{kvs:List (List Key × V)}{xs:List (List Key × Addr × Value)} (r:KT H kvs xs) (ht:∀ b ys,H b=some (.tup ys)->H' b=some (.tup ys)):KT H' kvs xs:=
 Paired.mapP r fun _ _ z=>⟨z.1,ht _ _ z.2.1,z.2.2⟩
section
variable {P:Program}{w:World}{H:Hp}{h:Heap}{a:Addr}
theorem rd_of {u:HO} (ok:HOk P w H h) (e:Rd H a u):ObjOk P w H h a u:=e.ok ok
theorem dk_rd {kvs:List (Key × V)} (ok:HOk P w H h) (e:Rd H a (.dK kvs)):kvs.length<=sizeLine/\(a == sysModules)=false/\∃ vs,KV kvs vs/\h.DictOf (mixKind P w) a vs:=
 show ObjOk P w H h a (.dK kvs) from rd_of ok e
theorem dk_of {kvs:List (Key × V)} (ok:HOk P w H h) (e:H a=some (.dK kvs)):kvs.length<=sizeLine/\(a == sysModules)=false/\∃ vs,KV kvs vs/\h.DictOf (mixKind P w) a vs:=dk_rd ok (.inl e)
theorem key_of {ks:List Key} (ok:HOk P w H h) (e:H a=some (.tup (ks.map kV))):(tupleKind (mixKind P w)).is h ks a:=by
 obtain ⟨_,its,r,o,h1,h2,n,h3⟩:=(show ObjOk P w H h a (.tup (ks.map kV)) from ok a _ e)
 exact ⟨o,its.toArray,n,h1,h2,h3,by simpa using items_are r⟩
theorem dt_rd {kvs:List (List Key × V)} (ok:HOk P w H h) (e:Rd H a (.dT kvs)):kvs.length<=sizeLine/\(a == sysModules)=false /\
  ∃ xs,KT H kvs xs/\h.DictOfH (tupleKind (mixKind P w)) a xs:=by
 obtain ⟨z,y,xs,r,o,es,ep,h1,h2,h3,h4,h5⟩:=(show ObjOk P w H h a (.dT kvs) from rd_of ok e)
 refine ⟨z,y,xs,r,o,es,ep,h1,h2,h3,h4,fun x hx=>?_,h5⟩
 have all:∀ {l:List (List Key × V)}{m:List (List Key × Addr × Value)},KT H l m->∀ x ∈ m,(tupleKind (mixKind P w)).is h x.1 x.2.1:=by
  intro l m q
  induction q with
  | nil=>intro x hx;exact nomatch hx
  | @cons p q ps qs hq t ih=>
   intro x hx
   rcases zR.mp hx with e | hx
   ·subst e
    exact key_of ok (by rw [<-hq.1];exact hq.2.1)
   ·exact ih x hx
 exact all r x hx
theorem dt_of {kvs:List (List Key × V)} (ok:HOk P w H h) (e:H a=some (.dT kvs)):kvs.length<=sizeLine/\(a == sysModules)=false /\
  ∃ xs,KT H kvs xs/\h.DictOfH (tupleKind (mixKind P w)) a xs:=dt_rd ok (.inl e)
end
def DGet (H:Hp) (a:Addr) (y:V) (r:Option V):Prop:=
 (∃ kvs k,Rd H a (.dK kvs)/\y=kV k/\r=valV kvs k)\/∃ kvs k b,Rd H a (.dT kvs)/\y=.ref b/\H b=some (.tup (k.map kV))/\r=valV kvs k
def DPut (H:Hp) (a:Addr) (y v:V) (H':Hp):Prop:=
 (∃ kvs k,H a=some (.dK kvs)/\y=kV k/\kvs.length < sizeLine/\H'=upd H a (.dK (putK kvs k v))) \/
 ∃ kvs k b,H a=some (.dT kvs)/\y=.ref b/\H b=some (.tup (k.map kV))/\kvs.length < sizeLine/\H'=upd H a (.dT (putK kvs k v))
theorem DGet.k {H:Hp}{a:Addr}{kvs:List (Key × V)}{k:Key} (e:H a=some (.dK kvs)):DGet H a (kV k) (valV kvs k):=.inl ⟨kvs,k,.inl e,rfl,rfl⟩
theorem DPut.k {H:Hp}{a:Addr}{kvs:List (Key × V)}{k:Key}{v:V} (e:H a=some (.dK kvs)) (hl:kvs.length < sizeLine):DPut H a (kV k) v (upd H a (.dK (putK kvs k v))):=.inl ⟨kvs,k,e,rfl,hl,rfl⟩
section
variable {X:Cx}{pins:List (Addr × Obj)}{σ:St}{H:Hp}{s:Shared}{a:Addr}{y v:V}{u r:Value}{o:Option V}{A:Around}{E:Value->Shared->Prop}
theorem Inv.big (I:Inv X pins σ H s):sysModules < s.heap.objs.size:=by
 have h:mainGlobals < s.heap.objs.size:=(I.mod.glob.keeps I.bk).lt
 exact Nat.lt_trans (by decide) h
theorem d_in {Q:Value->Shared->Prop} (hu:A.units + 1 < cLine) (I:Inv X pins σ H s) (g:DGet H a y o) (ry:RelV y u) (h:∀ s',Inv X pins σ H s'->Q (.bool o.isSome) s') :
  wpAny (model X.prog X.w) A (compareOp .In u (.ref a)) Q E s:=by
 rcases g with ⟨kvs,k,e,ey,l⟩ | ⟨kvs,k,b,e,ey,eb,l⟩
 ·subst ey
  obtain ⟨z,hd,vs,rel,dd⟩:=dk_rd I.hok e
  refine wpAny_in_of (kV_is ry) hd dd.mapOf ?_
  rw [<-(rel.val k).isSome_eq,<- l]
  exact h _ (I.tok _)
 ·subst ey
  cases (show u=Value.ref b from ry)
  obtain ⟨z,hd,xs,rel,dd⟩:=dt_rd I.hok e
  refine wpAny_in_heap (tupleKind_room_in1 hu) (key_of I.hok eb) hd dd ?_
  have q:=(rel.val k).isSome_eq
  rw [yI] at q
  rw [<-q,<- l]
  exact h _ (I.tok _)
theorem d_notIn {Q:Value->Shared->Prop} (hu:A.units + 1 < cLine) (I:Inv X pins σ H s) (g:DGet H a y o) (ry:RelV y u) (h:∀ s',Inv X pins σ H s'->Q (.bool (!o.isSome)) s') :
  wpAny (model X.prog X.w) A (compareOp .NotIn u (.ref a)) Q E s:=by
 rcases g with ⟨kvs,k,e,ey,l⟩ | ⟨kvs,k,b,e,ey,eb,l⟩
 ·subst ey
  obtain ⟨z,hd,vs,rel,dd⟩:=dk_rd I.hok e
  refine wpAny_notIn_of (kV_is ry) hd dd.mapOf ?_
  rw [<-(rel.val k).isSome_eq,<- l]
  exact h _ (I.tok _)
 ·subst ey
  cases (show u=Value.ref b from ry)
  obtain ⟨z,hd,xs,rel,dd⟩:=dt_rd I.hok e
  refine wpAny_notIn_heap (tupleKind_room_in1 hu) (key_of I.hok eb) hd dd ?_
  have q:=(rel.val k).isSome_eq
  rw [yI] at q
  rw [<-q,<- l]
  exact h _ (I.tok _)
theorem d_write {h':Heap}{t':Nat}{ob:HO} (I:Inv X pins σ H s) (mu:Mut (H a)) (hs:Heap.SameBut a s.heap h') (he:∃ q,h'.get? a=some q) (new:ObjOk X.prog X.w (upd H a ob) h' a ob) :
  Inv X pins σ (upd H a ob) { s with heap:=h',toks:=t' }:=
 I.write (x:=a) (e:=a) mu (.inl rfl) (fun b q hb z=>(hs.2 b hb).trans z) he new
theorem dk_new {P:Program}{w:World}{H':Hp}{h':Heap}{kvs:List (Key × V)}{vs:List (Key × Value)} (z:kvs.length<=sizeLine) (hd:(a == sysModules)=false) (rel:KV kvs vs) (dd:h'.DictOf (mixKind P w) a vs) :
  ObjOk P w H' h' a (.dK kvs):=⟨z,hd,vs,rel,dd⟩
theorem d_setItem {H':Hp}{Q:Unit->Shared->Prop} (hu:A.units + 1 < cLine) (I:Inv X pins σ H s) (g:DPut H a y v H') (ry:RelV y u) (rv:RelV v r) (h:∀ s',Inv X pins σ H' s'->Q () s') :
  wpAny (model X.prog X.w) A (setItem (.ref a) u r) Q E s:=by
 rcases g with ⟨kvs,k,e,ey,l,eH⟩ | ⟨kvs,k,b,e,ey,eb,l,eH⟩
 ·subst ey eH
  obtain ⟨z,hd,vs,rel,dd⟩:=dk_of I.hok e
  have hz:vs.length<=sizeLine:=by rw [<-rel.length];exact z
  have hl:(putK kvs k v).length<=sizeLine:=by have:=length_putK kvs k v;omega
  refine wpAny_setItem_pairs (hsz:=hz) (kV_is ry) dd fun h' dd' hs=>h _ ?_
  have he:∃ q,h'.get? a=some q:=let ⟨q,_,_,hq,_⟩:=dd';⟨q,hq⟩
  exact d_write I (by rw [e];exact True.intro) hs he (dk_new hl hd (rel.put k rv) dd')
 ·subst ey eH
  cases (show u=Value.ref b from ry)
  obtain ⟨z,hd,xs,rel,dd⟩:=dt_of I.hok e
  have hz:xs.length<=sizeLine:=by rw [<-Paired.length rel];exact z
  have hl:(putK kvs k v).length<=sizeLine:=by have:=length_putK kvs k v;omega
  refine wpAny_setItem_heap (hsz:=hz) (tupleKind_room_in1 hu) (key_of I.hok eb) dd fun h' dd' hs=>h _ ?_
  obtain ⟨q,es,ep,hq,h2,h3,h4,_,h5⟩:=dd'
  refine d_write I (by rw [e];exact True.intro) hs ⟨q,hq⟩ ⟨hl,hd,_,(rel.put k eb rv).keeps fun c ys ec=>?_,q,es,ep,hq,h2,h3,h4,h5⟩
  rw [xN (wK ec e (fun z=>nomatch z))]
  exact ec
end
section
variable {X:Cx}{pins:List (Addr × Obj)}{σ:St}{H:Hp}{s:Shared}{a:Addr}{kvs:List (Key × V)}{k:Key}{u:Value}{A:Around}{E:Value->Shared->Prop}
theorem d_delItem {Q:Unit->Shared->Prop} (I:Inv X pins σ H s) (e:H a=some (.dK kvs)) (ry:RelV (kV k) u) (l:(valV kvs k).isSome=true) (h:∀ s',Inv X pins σ (upd H a (.dK (dropK kvs k))) s'->Q () s') :
  wpAny (model X.prog X.w) A (delItem (.ref a) u) Q E s:=by
 obtain ⟨z,hd,vs,rel,dd⟩:=dk_of I.hok e
 refine wpAny_delItem_slot dd.typeIs (by decide) PySem.F.slot_dict_delitem
  (call_meetsIn PySem.F.slot_dict_delitem dd.typeIs PySem.F.entry_dict_delitem (PySem.F.args_dict_delitem_2 _ _) (meets_dict_delitem_pairs (mixKind X.prog X.w) a (kV_is ry)) ⟨vs,dd,by rw [<-rel.length];exact z,by rw [<-(rel.val k).isSome_eq];exact l,fun h' dd' hs=>h _ ?_⟩)
 have he:∃ q,h'.get? a=some q:=let ⟨q,_,_,hq,_⟩:=dd';⟨q,hq⟩
 exact d_write I (by rw [e];exact True.intro) hs he (dk_new (zq (dropK_le kvs k) z) hd (rel.drop k) dd')
end
def sDPut (td ty tv:TE):TS:=fun D σ H=>tv σ H fun v H1=>td σ H1 fun x H2=>ty σ H2 fun y H3=>∃ a H4,x=.ref a/\DPut H3 a y v H4/\D.nx σ H4
def sDDel (td ty:TE):TS:=fun D σ H=>td σ H fun x H1=>ty σ H1 fun y H2=>∃ a kvs k,x=.ref a/\H2 a=some (.dK kvs)/\y=kV k/\(valV kvs k).isSome=true/\D.nx σ (upd H2 a (.dK (dropK kvs k)))
section
variable {X:Cx}{o i e value:Expr}{pos pos' tpos:Pos}{td ty tv:TE}
theorem ps_dput (hu:X.A.units + 1 < cLine) (ho:PE X o td) (hi:PE X i ty) (hv:PE X value tv) (hs:swapsWith value (some (.Subscript o i pos')) pos.line X.env=pure false) :
  PS X (.Assign [.Subscript o i pos'] value pos) (sDPut td ty tv):=by
 intro pins s σ H D I h
 refine wpAny_Assign_Subscript (thn (hv pins s σ H _ I h) fun r s1 ⟨v,H1,I1,rv,q1⟩=>thn (ho pins s1 σ H1 _ I1 q1) fun u s2 ⟨x,H2,I2,rx,q2⟩=>thn (hi pins s2 σ H2 _ I2 q2) fun iv s3 ⟨y,H3,I3,ry,a,H4,ex,g,q3⟩=>?_) hs
 subst ex
 obtain rfl:u=Value.ref a:=rx
 exact d_setItem hu I3 g ry rv fun s4 I4=>⟨σ,H4,I4,q3⟩
theorem ps_ddel (ho:PE X o td) (hi:PE X i ty):PS X (.Delete [.Subscript o i tpos] pos) (sDDel td ty):=by
 intro pins s σ H D I h
 refine wpAny_Delete (wpAny_deleteEach_cons (wpAny_delete_Subscript (thn (ho pins s σ H _ I h) fun u s1 ⟨x,H1,I1,rx,q1⟩=>thn (hi pins s1 σ H1 _ I1 q1) fun iv s2 ⟨y,H2,I2,ry,a,kvs,k,ex,e,ey,l,q2⟩=>?_)))
 subst ex ey
 obtain rfl:u=Value.ref a:=rx
 exact d_delItem I2 e ry l fun s3 I3=>wpAny_deleteEach_nil ⟨σ,_,I3,q2⟩
end
theorem dk_empty {P:Program}{w:World}{H:Hp} (h:Heap) (hb:sysModules < h.objs.size):ObjOk P w H (h.push { cls:=.type "dict", data:=.dict #[] }) h.objs.size (.dK []):=
 ⟨zb _,beq_eq_false_iff_ne.mpr (Ne.symm (zU hb)),[],.nil,Heap.DictOf.new h⟩
section
variable {X:Cx}{pos:Pos}
end
def tPairs:List (TE × TE)->St->Hp->(List (V × V)->Hp->Prop)->Prop
 | [],_,H,Q=>Q [] H
 | (tk,tv) :: r,σ,H,Q=>tk σ H fun x H1=>tv σ H1 fun y H2=>tPairs r σ H2 fun ps H3=>Q ((x,y) :: ps) H3
abbrev VV:List (V × V)->List (Value × Value)->Prop:=Paired fun p q=>RelV p.1 q.1/\RelV p.2 q.2
def PPs (X:Cx) (pos:Pos) (keys:List (Option Expr)) (values:List Expr) (trs:List (TE × TE)):Prop:=
 ∀ (pins:List (Addr × Obj)) (s:Shared) (σ:St) (H:Hp) (Q:List (V × V)->Hp->Prop),Inv X pins σ H s->tPairs trs σ H Q ->
  wpAny (model X.prog X.w) X.A (evalPairs (pairTrees keys values X.env pos)) (fun vs s'=>∃ ps H',Inv X pins σ H' s'/\VV ps vs/\Q ps H') X.xe s
theorem pps_nil {X:Cx}{pos:Pos}:PPs X pos [] [] []:=fun pins s σ H Q I h=>pairTrees_nil_walk ⟨[],H,I,.nil,h⟩
theorem pps_cons {X:Cx}{pos:Pos}{k v:Expr}{ks:List (Option Expr)}{vs:List Expr}{tk tv:TE}{trs:List (TE × TE)} (hk:PE X k tk) (hv:PE X v tv) (hr:PPs X pos ks vs trs) :
  PPs X pos (some k :: ks) (v :: vs) ((tk,tv) :: trs):=fun pins s σ H Q I h=>
 pairTrees_cons_walk (thn (hk pins s σ H _ I h) fun u s1 ⟨x,H1,I1,rx,q1⟩=>thn (hv pins s1 σ H1 _ I1 q1) fun w2 s2 ⟨y,H2,I2,ry,q2⟩=>
  thn (hr pins s2 σ H2 _ I2 q2) fun ws s3 ⟨ps,H3,I3,rel,q3⟩=>⟨(x,y) :: ps,H3,I3,.cons ⟨rx,ry⟩ rel,q3⟩)
def mergeK (kvs more:List (Key × V)):List (Key × V):=more.foldl (fun acc kv=>putK acc kv.1 kv.2) kvs
theorem KV.merge:∀ {more:List (Key × V)}{rs:List (Key × Value)}{kvs:List (Key × V)}{vs:List (Key × Value)},KV more rs->KV kvs vs->KV (mergeK kvs more) (merged vs rs):=by
 intro more rs kvs vs r
 unfold KV at r
 induction r generalizing kvs vs with
 | nil=>intro q;exact q
 | @cons p q ps qs h t ih=>
  intro r0
  have e:KV (putK kvs p.1 p.2) (stored vs q.1 q.2):=by
   have:=r0.put p.1 h.2
   rw [<-h.1];exact this
  exact ih e
theorem length_mergeK:∀ (more kvs:List (Key × V)),(mergeK kvs more).length<=kvs.length + more.length
 | [],kvs=>by show kvs.length<=kvs.length + 0;omega
 | p :: r,kvs=>by
  have h1:=length_mergeK r (putK kvs p.1 p.2)
  have h2:=length_putK kvs p.1 p.2
  show (mergeK (putK kvs p.1 p.2) r).length<=_
  rw [zg];omega
theorem carries_of {P:Program}{w:World}:∀ {kvs:List (Key × V)}{ws:List (Value × Value)},VV (kvs.map fun kv=>(kV kv.1,kv.2)) ws->∃ rs,Carries (mixKind P w) ws rs/\KV kvs rs
 | [],_,r=>by rw [xD] at r;cases r;exact ⟨[],True.intro,.nil⟩
 | p :: kvs,_,r=>by
  rw [zj] at r
  cases r with
  | @cons a b as bs h t=>
   obtain ⟨rs,c,q⟩:=carries_of (P:=P) (w:=w) t
   obtain ⟨b1,b2⟩:=b
   exact ⟨(p.1,b2) :: rs,⟨kV_is h.1,rfl,c⟩,.cons ⟨rfl,h.2⟩ q⟩
def tDisp (trs:List (TE × TE)):TE:=fun σ H Q=>∀ p,H p=none->tPairs trs σ (upd H p (.dK [])) fun ps H2=>H2 p=some (.dK [])/\∃ kvs:List (Key × V),ps=kvs.map (fun kv=>(kV kv.1,kv.2))/\kvs.length<=15/\Q (.ref p) (upd H2 p (.dK (mergeK [] kvs)))
theorem pe_disp {X:Cx}{pos:Pos}{keys:List (Option Expr)}{values:List Expr}{trs:List (TE × TE)} (h:PPs X pos keys values trs) (hall:keys.all (·.isSome)=true) (hl:keys.length=values.length) (h0:keys ≠ [])
  (h15:keys.length<=15):PE X (.Dict keys values pos) (tDisp trs):=by
 intro pins s σ H Q I q
 have hn:=I.hok.fresh (zJ s.heap.objs.size)
 have I1:=I.laid (a:=s.heap.objs.size) (o:=.dK []) (h':=s.heap.push { cls:=.type "dict", data:=.dict #[] }) (t':=s.toks) (fun _ _ q=>Heap.get?_push_of_some _ q) (zJ _) (dk_empty s.heap I.big)
 refine wpAny_Dict_walk (knd:=mixKind X.prog X.w) hall hl h0 h15 (thn (h pins _ σ _ _ I1 (q _ hn)) fun ws s2 ⟨ps,H2,I2,rel,e,kvs,ep,lk,q2⟩=>?_)
 subst ep
 obtain ⟨rs,c,rk⟩:=carries_of (P:=X.prog) (w:=X.w) rel
 obtain ⟨z,hd,vs0,r0,dd⟩:=dk_of I2.hok e
 cases r0
 refine ⟨rs,c,dd,fun h' dd' hs=>⟨.ref s.heap.objs.size,_,?_,rfl,q2⟩⟩
 have hz:(mergeK [] kvs).length<=sizeLine:=by
  have h1:=length_mergeK kvs []
  rw [yd] at h1
  rw [sizeLine_eq];omega
 have he:∃ q,h'.get? s.heap.objs.size=some q:=let ⟨q,_,_,hq,_⟩:=dd';⟨q,hq⟩
 exact d_write I2 (by rw [e];exact True.intro) hs he (dk_new hz hd (rk.merge .nil) dd')
section
variable {X:Cx}{pins:List (Addr × Obj)}{σ:St}{H:Hp}{s:Shared}{a:Addr}{y d:V}{u r:Value}{o:Option V}{A:Around}{E:Value->Shared->Prop}
theorem d_get1 {Q:Value->Shared->Prop} (hu:A.units + 1 < cLine) (I:Inv X pins σ H s) (g:DGet H a y o) (ry:RelV y u) (h:∀ w' s',Inv X pins σ H s'->RelV (o.getD .non) w'->Q w' s') :
  wpAny (model X.prog X.w) A (call (.builtin "dict.get") [.ref a,u]) Q E s:=by
 rcases g with ⟨kvs,k,e,ey,l⟩ | ⟨kvs,k,b,e,ey,eb,l⟩
 ·subst ey
  obtain ⟨z,hd,vs,rel,dd⟩:=dk_rd I.hok e
  refine call_meetsIn PySem.F.slot_dict_get dd.typeIs PySem.F.entry_dict_get (PySem.F.args_dict_get_2 _ _) (meets_dict_get (mixKind X.prog X.w) a (kV_is ry) hd) ⟨_,dd.mapOf,h _ _ (I.tok _) ?_⟩
  rw [l]
  exact (rel.val k).getD rfl
 ·subst ey
  cases (show u=Value.ref b from ry)
  obtain ⟨z,hd,xs,rel,dd⟩:=dt_rd I.hok e
  refine call_meetsIn PySem.F.slot_dict_get dd.typeIs PySem.F.entry_dict_get (PySem.F.args_dict_get_2 _ _) (meetsH_dict_get (tupleKind (mixKind X.prog X.w)) a b hd) ⟨tupleKind_room_in1 hu,k,xs,key_of I.hok eb,dd,h _ _ (I.tok _) ?_⟩
  rw [l]
  exact (rel.val k).getD rfl
end
section
variable {X:Cx}{o e f:Expr}{apos cpos:Pos}{td ty tx:TE}
end
section
variable {X:Cx}{pins:List (Addr × Obj)}{σ:St}{H:Hp}{s:Shared}{a:Addr}{kvs:List (Key × V)}{A:Around}{E:Value->Shared->Prop}
end
section
variable {X:Cx}{pins:List (Addr × Obj)}{σ:St}{H:Hp}{s:Shared}{a:Addr}{y:V}{u:Value}{A:Around}{E:Value->Shared->Prop}
end
end L2
namespace HT
open PySem PyProof.Rows
section
open PySem.SeqAt
open PySem.AutoSeq1 (wpAny_loadPart')
open PySem.MeetsSeq PySem.MeetsSeq2 PySem.MeetsSeq3
end
section
variable {prog:Program}{w:World}{A:Around}{E:Value->Shared->Prop}{s:Shared}
def sIx (n d:Nat):Option Int->Nat
 | none=>d
 | some v=>if v < 0 then (v + (n:Int)).toNat else min v.toNat n
theorem sIx_le (n d:Nat) (hd:d<=n) (o:Option Int):sIx n d o<=n:=by
 cases o with
 | none=>exact hd
 | some v=>
  show (if v < 0 then (v + (n:Int)).toNat else min v.toNat n)<=n
  by_cases hv:v < 0
  ·rw [if_pos hv];omega
  ·rw [if_neg hv];exact Nat.min_le_right _ _
theorem clip_eq (v:Int) (n d:Nat):(if v < 0 then max (v + (n:Int)) 0 else min v (n:Int))=((sIx n d (some v):Nat):Int):=by
 show (if v < 0 then max (v + (n:Int)) 0 else min v (n:Int))=(((if v < 0 then (v + (n:Int)).toNat else min v.toNat n):Nat):Int)
 by_cases hv:v < 0
 ·simp only [if_pos hv];omega
 ·simp only [if_neg hv];omega
theorem adjust_gen (lo hi:Option Int) (n:Nat):Builtin.Slice.sliceAdjust lo hi 1 (n:Int)=(((sIx n 0 lo:Nat):Int),((sIx n n hi:Nat):Int)):=by
 have h1:¬ ((1:Int) < 0):=by omega
 unfold Builtin.Slice.sliceAdjust
 simp only [h1,if_false]
 refine Prod.ext ?_ ?_
 ·cases lo with
  | none=>rfl
  | some v=>exact clip_eq v n 0
 ·cases hi with
  | none=>rfl
  | some v=>exact clip_eq v n n
theorem places_gen (i j:Nat):Builtin.Slice.slicePlaces (i:Int) (j:Int) 1=j - i:=by
 unfold Builtin.Slice.slicePlaces
 have h1:(1:Int) > 0:=by omega
 simp only [h1,if_true,Int.ediv_one]
 split <;> omega
theorem slicePart_ {v:Value}{o:Option Int}{Q:Option Int->Shared->Prop} (p:IsPart v o) (h:Q o s):wpAny (model prog w) A (Builtin.Slice.slicePartIndex v) Q E s:=by
 cases p with
 | none=>exact slicePart_none h
 | int i t=>exact slicePart_int h
theorem sliceApplied_gen {sl:Addr}{vl vu:Value}{lo hi:Option Int}{n:Nat}{Q:Int × Int × Nat->Shared->Prop} (hs:s.heap.IsSliceOf sl vl vu .none) (pl:IsPart vl lo) (pu:IsPart vu hi)
  (h:Q (((sIx n 0 lo:Nat):Int),1,sIx n n hi - sIx n 0 lo) s):wpAny (model prog w) A (Builtin.Slice.sliceApplied (.ref sl) (pure (n:Int))) Q E s:=by
 obtain ⟨os,hos,hcs,hds⟩:=id hs
 unfold Builtin.Slice.sliceApplied Builtin.Slice.sliceFields
 refine wpAny_bind (wpAny_bind (wpAny_field hos hds (x:=vl) rfl (wpAny_bind (wpAny_field hos hds (x:=vu) rfl (wpAny_bind (wpAny_field hos hds (x:=.none) rfl (wpAny_pure ?_)))))))
 refine wpAny_bind (slicePart_none ?_)
 show wpAny _ _ (if ((1:Int) == 0)=true then _ else _) _ _ s
 rw [if_neg (by decide)]
 refine wpAny_bind (slicePart_ pl (wpAny_bind (slicePart_ pu (wpAny_bind (wpAny_pure ?_)))))
 show wpAny _ _ (match Builtin.Slice.sliceAdjust lo hi 1 (n:Int) with | (lo,hi)=>pure (lo,(1:Int),Builtin.Slice.slicePlaces lo hi 1)) _ _ s
 rw [adjust_gen lo hi n]
 show wpAny _ _ (pure (((sIx n 0 lo:Nat):Int),(1:Int),Builtin.Slice.slicePlaces ((sIx n 0 lo:Nat):Int) ((sIx n n hi:Nat):Int) 1)) _ _ s
 rw [places_gen]
 exact wpAny_pure h
theorem pick_gen (xs:Array Value) (i k:Nat):((List.range k).filterMap fun (m:Nat)=>xs[((i:Int) + (m:Int) * 1).toNat]?).toArray=((xs.toList.drop i).take k).toArray:=by
 have e:(fun (m:Nat)=>xs[((i:Int) + (m:Int) * 1).toNat]?)=fun m=>xs[i + m]?:=by
  funext m
  have:((i:Int) + (m:Int) * 1).toNat=i + m:=by omega
  rw [this]
 rw [e]
 have:=pick_run xs i k
 rw [List.filterMap_map] at this
 have e2:((fun x=>xs[x]?) ∘ fun x=>i + x)=fun m=>xs[i + m]?:=rfl
 rw [e2] at this
 rw [this]
theorem getItem_tuple_cut {t sl:Addr}{items:Array Value}{vl vu:Value}{lo hi:Option Int}{Q:Value->Shared->Prop} (ht:IsTup s.heap t items) (hs:s.heap.IsSliceOf sl vl vu .none) (pl:IsPart vl lo) (pu:IsPart vu hi)
  (hw:¬ (sIx items.size 0 lo=0/\sIx items.size items.size hi=items.size))
  (h:Q (.ref s.heap.objs.size) { s with heap:=s.heap.push { cls:=.type "tuple", data:=.seq ((items.toList.drop (sIx items.size 0 lo)).take (sIx items.size items.size hi - sIx items.size 0 lo)).toArray } })
  (hsz:items.size<=sizeLine):wpAny (model prog w) A (getItem (.ref t) (.ref sl)) Q E s:=by
 have htake:sizeOk (.seq ((items.toList.drop (sIx items.size 0 lo)).take (sIx items.size items.size hi - sIx items.size 0 lo)).toArray):=by
  show ((items.toList.drop (sIx items.size 0 lo)).take (sIx items.size items.size hi - sIx items.size 0 lo)).toArray.size<=sizeLine
  rw [zQ,yY,List.length_drop,Array.length_toList]
  omega
 have hj:sIx items.size items.size hi<=items.size:=sIx_le _ _ (zJ _) hi
 obtain ⟨os,hos,hcs,hds⟩:=id hs
 have hTs:s.TypeIs (.ref sl) "slice" := ⟨os,hos,hcs⟩
 unfold getItem
 try with_reducible refine wpAny_holding ?_
 first | refine wpAny_bind (wpAny_pure ?_) | skip
 refine wpAny_bind (wpAny_sequenceKey ht.typeIs (by decide) ?_)
 refine wpAny_bind (wpAny_callSpecial?_slot (name:=Str.ofString "__getitem__") ht.typeIs PyProof.Rows.slot_tuple_getitem
  (wpAny_call_entry PyProof.Rows.slot_tuple_getitem ht.typeIs entry_tuple_getitem ?_ (args_tuple_getitem _ _)))
 show wpAny _ _ (Builtin.Tuple.tupleItemsOf (.ref t) >>= _) _ _ s
 refine wpAny_bind (tupleItemsOf_ ht ?_)
 refine wpAny_bind (wpAny_typeOf hTs ?_)
 rw [if_pos (by decide)]
 refine wpAny_bind (sliceApplied_gen hs pl pu ?_)
 have hno:¬ ((((sIx items.size 0 lo:Nat):Int) == 0 && (1:Int) == 1 && (sIx items.size items.size hi - sIx items.size 0 lo) == items.size)=true):=by
  intro q
  rw [zk,zk] at q
  have q1:((sIx items.size 0 lo:Nat):Int)=0:=eq_of_beq q.1.1
  have q2:sIx items.size items.size hi - sIx items.size 0 lo=items.size:=eq_of_beq q.2
  exact hw ⟨by omega,by omega⟩
 show wpAny _ _ (if (((sIx items.size 0 lo:Nat):Int) == 0 && (1:Int) == 1 && (sIx items.size items.size hi - sIx items.size 0 lo) == items.size)=true then _ else _) _ _ s
 rw [if_neg hno,pick_gen]
 first
  | exact wpAny_bind (m:=Builtin.Tuple.tupleExact _) (wpAny_newObj_type (wpAny_pure ⟨_,rfl,wpAny_pure h⟩) htake)
  | exact wpAny_bind (m:=Builtin.Tuple.tupleExact _) (wpAny_newObj_type (wpAny_bind (wpAny_pure (wpAny_pure ⟨_,rfl,wpAny_pure h⟩))) htake)
  | exact wpAny_bind (wpAny_bind (m:=Builtin.Tuple.tupleExact _) (wpAny_newObj_type (wpAny_pure (wpAny_pure ⟨_,rfl,wpAny_pure h⟩)) htake))
  | exact wpAny_bind (wpAny_bind (m:=Builtin.Tuple.tupleExact _) (wpAny_newObj_type (wpAny_pure ⟨_,rfl,wpAny_pure h⟩) htake))
end
end HT
namespace L2
open PySem PySem.Spec PyProof.Rows
abbrev TO:=St->Hp->(Option Int->Hp->Prop)->Prop
def PO (X:Cx) (e:Option Expr) (t:TO):Prop:=
 ∀ (pins:List (Addr × Obj)) (s:Shared) (σ:St) (H:Hp) (Q:Option Int->Hp->Prop),Inv X pins σ H s->t σ H Q ->
  wpAny (model X.prog X.w) X.A (evalPart e X.env) (fun u s'=>∃ o H',Inv X pins σ H' s'/\IsPart u o/\Q o H') X.xe s
def tNoPart:TO:=fun _ H Q=>Q none H
def tPart (t:TE):TO:=fun σ H Q=>t σ H fun x H1=>∃ i,x=.int i/\Q (some i) H1
section
variable {X:Cx}{e:Expr}{te:TE}{lo hi:Option Expr}{tl th:TO} {pos p2:Pos}
theorem po_none:PO X none tNoPart:=by
 intro pins s σ H Q I h
 rw [evalPart_none]
 exact wpAny_pure ⟨none,H,I,.none,h⟩
theorem po_some (h:PE X e te):PO X (some e) (tPart te):=by
 intro pins s σ H Q I hw
 rw [evalPart_some]
 refine thn (h pins s σ H _ I hw) fun u s1 ⟨x,H1,I1,r1,q1⟩=>?_
 obtain ⟨i,rfl,q⟩:=q1
 obtain ⟨t,rfl⟩:=r1
 exact ⟨some i,H1,I1,.int i t,q⟩
def SlR (X:Cx) (r:V->Option Int->Option Int->Hp->VK->Prop):Prop:=
 ∀ (pins:List (Addr × Obj)) (s:Shared) (σ:St) (H:Hp) (x:V) (v vl vu:Value) (lo hi:Option Int) (sl:Addr) (Q:VK),Inv X pins σ H s->RelV x v->s.heap.IsSliceOf sl vl vu .none->IsPart vl lo->IsPart vu hi->r x lo hi H Q ->
  ∃ T id,typeLookup (.type T) "__getitem__" = pure (some (.builtin id))/\s.TypeIs v T/\wpAny (model X.prog X.w) X.A (getItem v (.ref sl)) (EP X pins σ Q) X.xe s
def tSl (r:V->Option Int->Option Int->Hp->VK->Prop) (te:TE) (tl th:TO):TE:=fun σ H Q=>te σ H fun x H1=>tl σ H1 fun l H2=>th σ H2 fun u H3=>r x l u H3 Q
theorem pe_slice {r:V->Option Int->Option Int->Hp->VK->Prop} (hr:SlR X r) (he:PE X e te) (hl:PO X lo tl) (hu:PO X hi th):PE X (.Subscript e (.Slice lo hi none p2) pos) (tSl r te tl th):=by
 intro pins s σ H Q I h
 refine Subscript_ (thn (he pins s σ H _ I h) fun v s1 ⟨x,H1,I1,r1,q1⟩=>?_)
 refine wpAny_Slice (thn (hl pins s1 σ H1 _ I1 q1) fun vl s2 ⟨l,H2,I2,pl,q2⟩=>thn (hu pins s2 σ H2 _ I2 q2) fun vu s3 ⟨u,H3,I3,pu,q3⟩=>?_)
 rw [evalPart_none]
 refine wpAny_pure ?_
 have I4:Inv X pins σ H3 { s3 with heap:=s3.heap.push { cls:=.type "slice", data:=.fields #[vl,vu,.none] } }:=I3.kept (t':=s3.toks) fun b ob q=>Heap.get?_push_of_some _ q
 obtain ⟨T,id,hT,ht,hg⟩:=hr pins { s3 with heap:=s3.heap.push { cls:=.type "slice", data:=.fields #[vl,vu,.none] } } σ H3 x v vl vu l u s3.heap.objs.size Q I4 r1 (Heap.IsSliceOf.new ..) pl pu q3
 show wpAny (model X.prog X.w) X.A (subscriptTail e (.Slice lo hi none p2) v (.ref s3.heap.objs.size)) (EP X pins σ Q) X.xe { s3 with heap:=s3.heap.push { cls:=.type "slice", data:=.fields #[vl,vu,.none] } }
 exact tail_any (ops:=[.ref s3.heap.objs.size,v]) ht hT hg (by with_unfolding_all rfl)
def cutV (xs:List V) (lo hi:Option Int):List V:=(xs.drop (HT.sIx xs.length 0 lo)).take (HT.sIx xs.length xs.length hi - HT.sIx xs.length 0 lo)
theorem cutV_length (xs:List V) (lo hi:Option Int):(cutV xs lo hi).length<=xs.length:=by
 unfold cutV
 rw [yY,List.length_drop]
 omega
def rSlT (K:PySem.W.Frag):V->Option Int->Option Int->Hp->VK->Prop:=fun x lo hi H Q=>∃ a xs,x=.ref a/\SqT K H a xs /\
 ¬ (HT.sIx xs.length 0 lo=0/\HT.sIx xs.length xs.length hi=xs.length)/\∀ p,H p=none->Q (.ref p) (upd H p (.tup (cutV xs lo hi)))
theorem sl_tup:SlR X (rSlT X.K):=by
 intro pins s σ H x v vl vu lo hi sl Q I rx hs pl pu h
 obtain ⟨a,xs,rfl,hx,hw,q⟩:=h
 cases rx
 obtain ⟨its,r,ht,hz⟩:=I.tuple hx
 have hlen:its.toArray.size=xs.length:=by rw [zQ];exact r.length.symm
 refine ⟨"tuple", _,PyProof.Rows.slot_tuple_getitem.lookup,ht.typeIs,?_⟩
 refine HT.getItem_tuple_cut ht hs pl pu (by rw [hlen];exact hw) ?_ (by rw [hlen];exact hz)
 rw [hlen]
 refine ⟨.ref s.heap.objs.size,_,I.laid (t':=s.toks) (o:=.tup (cutV xs lo hi)) (fun b ob q=>Heap.get?_push_of_some _ q) (zJ _) ?_,rfl,q _ (I.hok.fresh (zJ _))⟩
 exact ⟨zq (cutV_length xs lo hi) hz,_,(r.drop (HT.sIx xs.length 0 lo)).take (HT.sIx xs.length xs.length hi - HT.sIx xs.length 0 lo),IsTup.new _ _⟩
end
end L2
namespace L2
open PySem PySem.Spec PyProof.Rows
def ixN (n:Nat) (i:Int):Option Nat:=if 0<=i then (if i < n then some i.toNat else none) else if -(n:Int)<=i then some (i + n).toNat else none
def atI {α:Type} (xs:List α) (i:Int):Option α:=(ixN xs.length i).bind fun j=>xs[j]?
theorem ixN_seq {n:Nat}{i:Int}{j:Nat} (h:ixN n i=some j):seqIndex? i n=some j/\j < n/\-(n:Int)<=i/\i < n:=by
 unfold ixN at h
 by_cases h0:0<=i
 ·rw [if_pos h0] at h
  by_cases h1:i < n
  ·rw [if_pos h1] at h
   have e:i.toNat=j:=Option.some.inj h
   exact ⟨by rw [seqIndex_of h0 h1,e],by omega,by omega,h1⟩
  ·rw [if_neg h1] at h;cases h
 ·rw [if_neg h0] at h
  by_cases h1:-(n:Int)<=i
  ·rw [if_pos h1] at h
   have e:(i + n).toNat=j:=Option.some.inj h
   exact ⟨by rw [seqIndex_neg (by omega) h1,e],by omega,h1,by omega⟩
  ·rw [if_neg h1] at h;cases h
theorem atI_get {α:Type}{xs:List α}{i:Int}{v:α} (h:atI xs i=some v):∃ j,seqIndex? i xs.length=some j/\xs[j]?=some v/\j < xs.length/\-(xs.length:Int)<=i/\i < xs.length:=by
 unfold atI at h
 cases e:ixN xs.length i with
 | none=>rw [e] at h;cases h
 | some j=>
  rw [e] at h
  obtain ⟨h1,h2,h3,h4⟩:=ixN_seq e
  exact ⟨j,h1,h,h2,h3,h4⟩
theorem xi {α:Type}{xs:List α}{j:Nat}{v:α} (h:xs[j]?=some v):atI xs (j:Int)=some v:=by
 have hj:j < xs.length:=(zB.mp h).1
 have e:ixN xs.length (j:Int)=some j:=by
  unfold ixN
  rw [if_pos (by omega),if_pos (by omega)];simp
 unfold atI;rw [e];exact h
def PlainIx (b:Expr):Prop:=∀ o i,subscripted b false o i=operate [o,i] (getItem o i)
def IxR (X:Cx) (r:R2):Prop:=
 ∀ (value slice:Expr) (pins:List (Addr × Obj)) (s:Shared) (σ:St) (H:Hp) (x y:V) (v u:Value) (Q:VK),Inv X pins σ H s->RelV x v->RelV y u->r x y H Q ->
  subscripted slice false v u=operate [v,u] (getItem v u)->wpAny (model X.prog X.w) X.A (subscriptTail value slice v u) (EP X pins σ Q) X.xe s
def MtR (X:Cx) (id:String) (r:V->List V->Hp->VK->Prop):Prop:=
 ∀ (pins:List (Addr × Obj)) (s:Shared) (σ:St) (H:Hp) (x:V) (xs:List V) (v:Value) (us:List Value) (Q:VK),Inv X pins σ H s->RelV x v->Vals xs us->r x xs H Q ->
  wpAny (model X.prog X.w) X.A (call (.builtin id) (v :: us)) (EP X pins σ Q) X.xe s
section
variable {X:Cx}{a b:Expr}{ta tb:TE}{pos:Pos}
theorem xS {r:R2} (hr:IxR X r) (ha:PE X a ta) (hb:PE X b tb) (hs:PlainIx b):PE X (.Subscript a b pos) (tOp r ta tb):=by
 intro pins s σ H Q I h
 exact Subscript_ (binT ha hb I h fun v u s2 x y H2 I2 rx ry q=>hr a b pins s2 σ H2 x y v u Q I2 rx ry q (hs _ _))
def rIxL (K:PySem.W.Frag):R2:=fun x y H Q=>∃ p xs i v,x=.ref p/\y=.int i/\SqL K H p xs/\atI xs i=some v/\Q v H
def rIxT (K:PySem.W.Frag):R2:=fun x y H Q=>∃ p xs i v,x=.ref p/\y=.int i/\SqT K H p xs/\atI xs i=some v/\Q v H
theorem ix_list:IxR X (rIxL X.K):=by
 intro value slice pins s σ H x y v u Q I rx ry h hs
 obtain ⟨p,xs,i,z,rfl,rfl,hq,he,q⟩:=h
 cases rx
 obtain ⟨t,rfl⟩:=ry
 obtain ⟨its,r,pl,hz⟩:=I.list hq
 obtain ⟨j,h1,h2,h3,h4,h5⟩:=atI_get he
 obtain ⟨w,ew,rw'⟩:=r.get h2
 have hl:=r.length
 have hn:=line63
 have fin:EP X pins σ Q w s:=⟨z,H,I,rw',q⟩
 by_cases h0:0<=i
 ·have hj:i.toNat=j:=by
   rw [seqIndex_of h0 h5] at h1
   exact Option.some.inj h1
  exact item_listR pl.isList h0 (by omega) (by rw [hj];simpa using ew) fin hs
 ·have hj:(i + (its.toArray.size:Int)).toNat=j:=by
   rw [seqIndex_neg (by omega) h4] at h1
   rw [zQ,<- hl]
   exact Option.some.inj h1
  exact subscriptTail_builtinR (x:=w) pl.isList.typeIs slot_list_getitem.lookup
   (wpAny_getItem_list_neg (Q:=fun r s'=>r=w/\EP X pins σ Q r s') pl.isList (by omega) (by rw [zQ] <;> omega) (by omega) (by rw [hj];simpa using ew) ⟨rfl,fin⟩) hs
theorem ix_tup:IxR X (rIxT X.K):=by
 intro value slice pins s σ H x y v u Q I rx ry h hs
 obtain ⟨p,xs,i,z,rfl,rfl,hq,he,q⟩:=h
 cases rx
 obtain ⟨t,rfl⟩:=ry
 obtain ⟨its,r,pl,hz⟩:=I.tuple hq
 obtain ⟨j,h1,h2,h3,h4,h5⟩:=atI_get he
 obtain ⟨w,ew,rw'⟩:=r.get h2
 have hl:=r.length
 have hn:=line63
 have fin:EP X pins σ Q w s:=⟨z,H,I,rw',q⟩
 exact subscriptTail_builtinR (x:=w) pl.typeIs slot_tuple_getitem.lookup
  (getItem_tuple (j:=j) (Q:=fun r s'=>r=w/\EP X pins σ Q r s') pl (by omega) (by omega) (by rw [zQ,<- hl];exact h1) (by simpa using ew) ⟨rfl,fin⟩) hs
theorem mapSeq_set (its:List Value) (n j:Nat) (u:Value):Obj.mapSeq (·.setIfInBounds j u) { cls:=.type "list", data:=.seq its.toArray n }={ cls:=.type "list", data:=.seq (its.set j u).toArray n }:=by
 simp [Obj.mapSeq]
theorem Inv.lst {pins:List (Addr × Obj)}{σ:St}{H:Hp}{s:Shared}{p:Addr}{xs:List V} (I:Inv X pins σ H s) (h:H p=some (.lst xs)) :
  ∃ (its:List Value) (n:Nat),Vals xs its/\s.heap.get? p=some { cls:=.type "list", data:=.seq its.toArray n }/\xs.length<=sizeLine:=by
 obtain ⟨z,its,n,r,e⟩:=I.hok p _ h
 exact ⟨its,n,r,e,z⟩
theorem Inv.lstUpd {pins:List (Addr × Obj)}{σ:St}{H:Hp}{s:Shared}{p:Addr}{xs ys:List V}{its its':List Value}{n n':Nat}{f:Obj->Obj} (I:Inv X pins σ H s) (h:H p=some (.lst xs))
  (ho:s.heap.get? p=some { cls:=.type "list", data:=.seq its.toArray n }) (hf:f { cls:=.type "list", data:=.seq its.toArray n }={ cls:=.type "list", data:=.seq its'.toArray n' }) (r:Vals ys its') (hz:ys.length<=sizeLine) (t:Nat) :
  Inv X pins σ (upd H p (.lst ys)) { s with heap:=s.heap.update p f,toks:=t }:=by
 have e:(s.heap.update p f).get? p=some { cls:=.type "list", data:=.seq its'.toArray n' }:=by
  rw [Heap.get?_update_self f ho (by rw [hf] <;> rfl),hf]
 refine I.write (x:=p) (e:=p) (by rw [h];trivial) (.inl rfl) (fun b u hb q=>(Heap.get?_update_other _ _ (Ne.symm hb)).trans q) ⟨_,e⟩ ?_
 exact ⟨hz,its',n',r,e⟩
def rSetL:V->V->V->Hp->(Hp->Prop)->Prop:=fun o i v H Q=>∃ p xs k j,o=.ref p/\i=.int k/\H p=some (.lst xs)/\ixN xs.length k=some j/\Q (upd H p (.lst (xs.set j v)))
theorem set_list:PSet X rSetL:=by
 intro pins s σ H o i v ov iv u Q I ro ri rv h
 obtain ⟨p,xs,k,j,rfl,rfl,hp,hj,q⟩:=h
 cases ro
 obtain ⟨t,rfl⟩:=ri
 obtain ⟨its,n,r,ho,hz⟩:=I.lst hp
 obtain ⟨h1,h2,h3,h4⟩:=ixN_seq hj
 have hl:=r.length
 have hn:=line63
 have I':Inv X pins σ (upd H p (.lst (xs.set j v))) { s with heap:=s.heap.update p (Obj.mapSeq (·.setIfInBounds j u)) }:=
  I.lstUpd hp ho (mapSeq_set its n j u) (r.set rv j) (by rw [z8];exact hz) s.toks
 by_cases h0:0<=k
 ·have hk:k.toNat=j:=by
   rw [seqIndex_of h0 h4] at h1
   exact Option.some.inj h1
  exact PySem.W.ki_setAt ho h0 (by omega) (by rw [zQ,<- hl];exact h4) (by rw [hk];exact ⟨_,I',q⟩)
 ·have hk:(k + (its.toArray.size:Int)).toNat=j:=by
   rw [seqIndex_neg (by omega) h3] at h1
   rw [zQ,<- hl]
   exact Option.some.inj h1
  exact PySem.W.ki_setBack ho (by omega) (by rw [zQ,<- hl];exact h3) (by omega) (by rw [hk];exact ⟨_,I',q⟩)
def flatV:V->Bool
 | .non=>true
 | .bl _=>true
 | .int _=>true
 | .str _=>true
 | _=>false
def eqV:V->V->Bool
 | .non,.non=>true
 | .bl a,.bl b=>a == b
 | .bl a,.int b=>(if a then 1 else 0) == b
 | .int a,.bl b=>a == (if b then 1 else 0)
 | .int a,.int b=>a == b
 | .str a,.str b=>a == b
 | _,_=>false
theorem eqAt_V {A:Around}{s:Shared}{y x:V}{u v:Value} (ry:RelV y u) (rx:RelV x v) (fy:flatV y=true) (fx:flatV x=true):SeqAt.EqAt A s u v (eqV y x):=by
 cases y with
 | non=>
  cases ry
  cases x with
  | non=>cases rx;exact SeqAt.EqAt.same _
  | bl b=>cases rx;exact SeqAt.EqAt.none_bool b
  | int b=>obtain ⟨t,rfl⟩:=rx;exact SeqAt.EqAt.none_int b t
  | str b=>obtain ⟨t,rfl⟩:=rx;exact SeqAt.EqAt.none_str b t
  | _=>exact absurd (show false=true from fx) zG
 | bl a=>
  cases ry
  cases x with
  | non=>cases rx;exact SeqAt.EqAt.bool_none a
  | bl b=>cases rx;exact SeqAt.EqAt.bool_bool a b
  | int b=>obtain ⟨t,rfl⟩:=rx;exact SeqAt.EqAt.bool_int a b t
  | str b=>obtain ⟨t,rfl⟩:=rx;exact SeqAt.EqAt.bool_str a b t
  | _=>exact absurd (show false=true from fx) zG
 | int a=>
  obtain ⟨t',rfl⟩:=ry
  cases x with
  | non=>cases rx;exact SeqAt.EqAt.int_none a t'
  | bl b=>cases rx;exact SeqAt.EqAt.int_bool a t' b
  | int b=>obtain ⟨t,rfl⟩:=rx;exact SeqAt.EqAt.int_int a t' b t
  | str b=>obtain ⟨t,rfl⟩:=rx;exact SeqAt.EqAt.int_str a t' b t
  | _=>exact absurd (show false=true from fx) zG
 | str a=>
  obtain ⟨t',rfl⟩:=ry
  cases x with
  | non=>cases rx;exact SeqAt.EqAt.str_none a t'
  | bl b=>cases rx;exact SeqAt.EqAt.str_bool a t' b
  | int b=>obtain ⟨t,rfl⟩:=rx;exact SeqAt.EqAt.str_int a t' b t
  | str b=>obtain ⟨t,rfl⟩:=rx;exact SeqAt.EqAt.str_str a t' b t
  | _=>exact absurd (show false=true from fx) zG
 | _=>exact absurd (show false=true from fy) zG
def eqU (x:V) (u:Value):Bool:=match u with
 | .none=>eqV .non x
 | .bool b=>eqV (.bl b) x
 | .int i _=>eqV (.int i) x
 | .str z _=>eqV (.str z) x
 | _=>false
theorem eqU_of {x y:V}{u:Value} (r:RelV y u) (f:flatV y=true):eqU x u=eqV y x:=by
 cases y with
 | non=>cases r;rfl
 | bl b=>cases r;rfl
 | int i=>obtain ⟨t,rfl⟩:=r;rfl
 | str z=>obtain ⟨t,rfl⟩:=r;rfl
 | _=>exact absurd (show false=true from f) zG
theorem any_eqU {x:V}:∀ {xs:List V}{us:List Value},Vals xs us->xs.all flatV=true->us.any (eqU x)=xs.any fun y=>eqV y x
 | _,_,.nil,_=>rfl
 | y :: xs,u :: us,.cons r t,f=>by
  rw [List.all_cons,zk] at f
  rw [yw,yw,eqU_of r f.1,any_eqU t f.2]
theorem mem_eqAt {A:Around}{s:Shared}{x:V}{v:Value} (rx:RelV x v) (fx:flatV x=true):∀ {xs:List V}{us:List Value},Vals xs us->xs.all flatV=true->∀ u ∈ us,SeqAt.EqAt A s u v (eqU x u)
 | _,_,.nil,_=>fun u hu=>by cases hu
 | y :: xs,u :: us,.cons r t,f=>fun u' hu=>by
  rw [List.all_cons,zk] at f
  rcases zR.mp hu with rfl | hu
  ·rw [eqU_of r f.1];exact eqAt_V r rx f.1 fx
  ·exact mem_eqAt rx fx t f.2 u' hu
def inV (x:V) (xs:List V):Bool:=xs.any fun y=>eqV y x
def rIn (K:PySem.W.Frag) (neg:Bool):R2:=fun x y H Q=>∃ p xs,y=.ref p/\(SqL K H p xs\/SqT K H p xs)/\flatV x=true/\xs.all flatV=true/\Q (.bl (if neg then !inV x xs else inV x xs)) H
theorem op_in_seq:OpR X (compareOp .In) (rIn X.K false):=by
 intro pins s σ H x y v u Q I rx ry h
 obtain ⟨p,xs,rfl,hq,fx,fs,q⟩:=h
 cases ry
 rcases hq with hq | hq
 ·obtain ⟨its,r,pl,hz⟩:=I.list hq
  refine SeqAt.in_listAt (eqU x) pl.isList (fun w hw=>mem_eqAt rx fx r fs w (by simpa using hw)) ⟨.bl _,H,I,rfl,?_⟩
  rw [show its.toArray.any (eqU x)=its.any (eqU x) by simp,any_eqU r fs]
  exact q
 ·obtain ⟨its,r,pl,hz⟩:=I.tuple hq
  refine SeqAt.in_tupleAt (eqU x) pl (fun w hw=>mem_eqAt rx fx r fs w (by simpa using hw)) ⟨.bl _,H,I,rfl,?_⟩
  rw [show its.toArray.any (eqU x)=its.any (eqU x) by simp,any_eqU r fs]
  exact q
theorem op_notIn_seq:OpR X (compareOp .NotIn) (rIn X.K true):=by
 intro pins s σ H x y v u Q I rx ry h
 obtain ⟨p,xs,rfl,hq,fx,fs,q⟩:=h
 cases ry
 rcases hq with hq | hq
 ·obtain ⟨its,r,pl,hz⟩:=I.list hq
  refine SeqAt.notIn_listAt (eqU x) pl.isList (fun w hw=>mem_eqAt rx fx r fs w (by simpa using hw)) ⟨.bl _,H,I,rfl,?_⟩
  rw [show its.toArray.any (eqU x)=its.any (eqU x) by simp,any_eqU r fs]
  exact q
 ·obtain ⟨its,r,pl,hz⟩:=I.tuple hq
  refine SeqAt.notIn_tupleAt (eqU x) pl (fun w hw=>mem_eqAt rx fx r fs w (by simpa using hw)) ⟨.bl _,H,I,rfl,?_⟩
  rw [show its.toArray.any (eqU x)=its.any (eqU x) by simp,any_eqU r fs]
  exact q
theorem call_len_seq:CallR X (.builtin "len") (fun xs H Q=>∃ p ys,xs=[.ref p]/\(SqL X.K H p ys\/SqT X.K H p ys)/\Q (.int ys.length) H):=by
 intro pins s σ H xs us Q I r h
 obtain ⟨p,ys,rfl,hq,q⟩:=h
 obtain ⟨u,rfl,rx⟩:=vals1 r
 cases rx
 have hn:=line63
 rcases hq with hq | hq
 ·obtain ⟨its,r',pl,hz⟩:=I.list hq
  have hlen:=r'.length
  exact Calls.call_len_list pl.isList (by simp only [zQ] <;> omega) ⟨.int ys.length,H,I.tok _,⟨s.toks + 1,by rw [zQ,hlen]⟩,q⟩
 ·obtain ⟨its,r',pl,hz⟩:=I.tuple hq
  have hlen:=r'.length
  exact len_tuple pl (by simp only [zQ] <;> omega) ⟨.int ys.length,H,I.tok _,⟨s.toks + 1,by rw [zQ,hlen]⟩,q⟩
theorem call_list_of:CallR X (.type "list") (fun xs H Q=>∃ p ys,xs=[.ref p]/\(SqL X.K H p ys\/SqT X.K H p ys)/\∀ l,H l=none->Q (.ref l) (upd H l (.lst ys))):=by
 intro pins s σ H xs us Q I r h
 obtain ⟨p,ys,rfl,hq,q⟩:=h
 obtain ⟨u,rfl,rx⟩:=vals1 r
 cases rx
 have fin:∀ (its:List Value),Vals ys its->ys.length<=sizeLine->∀ (h':Heap) (c':Nat),(∀ b o',s.heap.get? b=some o'->h'.get? b=some o') ->
   h'.get? s.heap.objs.size=some { cls:=.type "list", dict:=none,data:=.seq its.toArray c',slots:=#[] }->EP X pins σ Q (.ref s.heap.objs.size) { s with heap:=h' }:=fun its r' hz h' c' kp e=>
  ⟨.ref s.heap.objs.size,_,I.laid (t':=s.toks) kp (zJ _) (show ObjOk X.prog X.w _ h' _ (.lst ys) from ⟨hz,its,c',r',e⟩),rfl,q _ (I.hok.fresh (zJ _))⟩
 rcases hq with hq | hq
 ·obtain ⟨its,r',pl,hz⟩:=I.list hq
  have hlen:=r'.length
  obtain ⟨o,ho,hc,n,hd⟩:=pl.isList
  exact call_list_seq p (.inl rfl) ho hc hd (fun h' c' kp e=>fin its r' hz h' c' kp e) (by simp only [zQ] <;> omega)
 ·obtain ⟨its,r',pl,hz⟩:=I.tuple hq
  have hlen:=r'.length
  obtain ⟨o,ho,hc,n,hd⟩:=pl
  exact call_list_seq p (.inr rfl) ho hc hd (fun h' c' kp e=>fin its r' hz h' c' kp e) (by simp only [zQ] <;> omega)
theorem wO:CallR X (.type "tuple") (fun xs H Q=>∃ p ys,xs=[.ref p]/\((SqL X.K H p ys/\∀ l,H l=none->Q (.ref l) (upd H l (.tup ys)))\/(SqT X.K H p ys/\Q (.ref p) H))):=by
 intro pins s σ H xs us Q I r h
 obtain ⟨p,ys,rfl,h⟩:=h
 obtain ⟨u,rfl,rx⟩:=vals1 r
 cases rx
 rcases h with ⟨hq,q⟩ | ⟨hq,q⟩
 ·obtain ⟨its,r',pl,hz⟩:=I.list hq
  have hlen:=r'.length
  refine call_tuple_list pl.isList (fun h' kp=>?_) (by simp only [zQ] <;> omega)
  have I1:Inv X pins σ H { s with heap:=h' }:=I.kept (t':=s.toks) kp
  have I2:Inv X pins σ (upd H h'.objs.size (.tup ys)) { s with heap:=h'.push { cls:=.type "tuple", data:=.seq its.toArray } }:=
   I1.laid (t':=s.toks) (fun b o e=>Heap.get?_push_of_some _ e) (zJ _) (show ObjOk X.prog X.w _ _ _ (.tup ys) from ⟨hz,its,r',IsTup.new _ _⟩)
  exact ⟨.ref h'.objs.size,_,I2,rfl,q _ (I1.hok.fresh (zJ _))⟩
 ·obtain ⟨its,r',pl,hz⟩:=I.tuple hq
  exact call_tuple_same pl ⟨.ref p,H,I,rfl,q⟩
def tyV (K:PySem.W.Frag) (T:String) (x:V) (H:Hp):Prop:=match x with
 | .str _=>T = "str"
 | .int _=>T = "int"
 | .ref p=>(T = "list" /\ ∃ xs,SqL K H p xs)\/(T = "tuple" /\ ∃ o,K.lookup p=some o/\o.cls=.type "tuple" /\ o.dict=none) \/
   (T = "dict" /\ ((∃ kvs,H p=some (.dK kvs))\/∃ kvs,H p=some (.dT kvs)))\/(T = "set" /\ ∃ S n,H p=some (.set S n))
 | _=>False
theorem tyV_is {pins:List (Addr × Obj)}{σ:St}{H:Hp}{s:Shared}{T:String}{x:V}{v:Value} (I:Inv X pins σ H s) (r:RelV x v) (ty:tyV X.K T x H) :
  s.TypeIs v T/\∀ a,v=.ref a->∃ ob,s.heap.get? a=some ob/\ob.dict=none:=by
 cases x with
 | str z=>
  obtain ⟨t,rfl⟩:=r
  cases (show T = "str" from ty)
  exact ⟨typeIs_str s z t,fun _ e=>nomatch e⟩
 | int i=>
  obtain ⟨t,rfl⟩:=r
  cases (show T = "int" from ty)
  exact ⟨typeIs_int s i t,fun _ e=>nomatch e⟩
 | ref p=>
  cases r
  rcases ty with ⟨rfl,xs,hq⟩ | ⟨rfl,o,hk,hc,hd⟩ | ⟨rfl,hk⟩ | ⟨rfl,S,n,hk⟩
  ·obtain ⟨its,_,pl,_⟩:=I.list hq
   refine ⟨pl.isList.typeIs,fun a e=>?_⟩
   cases e
   obtain ⟨o,n,e,c,hd,_⟩:=pl
   exact ⟨o,e,hd⟩
  ·refine ⟨⟨o,I.kIn p o hk,hc⟩,fun a e=>?_⟩
   cases e
   exact ⟨o,I.kIn _ o hk,hd⟩
  ·have z:∃ o,s.heap.get? p=some o/\o.ExactDict:=by
    rcases hk with ⟨kvs,hk⟩ | ⟨kvs,hk⟩
    ·obtain ⟨_,_,_,_,o,_,_,e,ex,_⟩:=I.hok p _ hk
     exact ⟨o,e,ex⟩
    ·obtain ⟨_,_,_,_,o,_,_,e,ex,_⟩:=I.hok p _ hk
     exact ⟨o,e,ex⟩
   obtain ⟨o,e,ex⟩:=z
   refine ⟨⟨o,e,ex.1⟩,fun a e2=>?_⟩
   cases e2
   exact ⟨o,e,ex.2.1⟩
  ·obtain ⟨o,_,_,_,e,ex,_⟩:=I.hok p _ hk
   refine ⟨⟨o,e,ex.1⟩,fun a e2=>?_⟩
   cases e2
   exact ⟨o,e,ex.2.1⟩
 | _=>exact False.elim ty
def tBM0 (K:PySem.W.Frag) (T:String) (r:V->List V->Hp->VK->Prop) (to:TE):TE:=fun σ H Q=>to σ H fun x H1=>tyV K T x H1/\r x [] H1 Q
def tBM (K:PySem.W.Frag) (T:String) (r:V->List V->Hp->VK->Prop) (to:TE) (t:TA):TE:=fun σ H Q=>to σ H fun x H1=>tyV K T x H1/\t σ H1 fun xs H2=>r x xs H2 Q
variable {o e:Expr}{es:List Expr}{to:TE}{t:TA}{name:Str}{apos cpos:Pos}{T id:String}{r:V->List V->Hp->VK->Prop}
theorem pe_bm0 (pa:PlainAttrs T) (slot:Slot T name id) (hty:typeOf (.builtin id)=pure (.type "method_descriptor")) (hm:MtR X id r) (ho:PE X o to)
  (hbase:attributeBase o name X.env (eval o X.env)=eval o X.env:=by rfl) (hline:(apos.endLine == cpos.line)=true:=by rfl):PE X (.Call (.Attribute o name apos) [] [] cpos) (tBM0 X.K T r to):=by
 intro pins s σ H Q I h
 refine wpAny_Call_method0_late hbase hline (thn (ho pins s σ H _ I h) fun v s1 ⟨x,H1,I1,r1,ty,q1⟩=>?_)
 obtain ⟨h1,h2⟩:=tyV_is I1 r1 ty
 exact ⟨T,id,pa,slot,hty,h1,h2,Calls.callWith_builtin rfl (PySem.evalArgs_none (hm pins s1 σ H1 x [] v [] Q I1 r1 .nil q1))⟩
theorem pe_bm (pa:PlainAttrs T) (slot:Slot T name id) (hty:typeOf (.builtin id)=pure (.type "method_descriptor")) (hm:MtR X id r) (ho:PE X o to) (ha:PA X (e :: es) t)
  (hbase:attributeBase o name X.env (eval o X.env)=eval o X.env:=by rfl)
  (hfew:((backTo cpos (starEach (e :: es) X.env)).all (fun x=>!x.1) && (backToKw cpos (keywordEach [] X.env)).all (fun x=>x.1.isSome)
   && decide ((e :: es).length + ([]:List Keyword).length + (if ([]:List Keyword).isEmpty then 0 else 1) < 30))=true:=by rfl)
  (hline:(apos.endLine == cpos.line)=true:=by rfl) (hs:starEach (e :: es) X.env=(false,eval e X.env) :: starEach es X.env:=by rfl) (hplain:(backTo cpos (starEach es X.env)).any (·.1)=false:=by rfl) :
  PE X (.Call (.Attribute o name apos) (e :: es) [] cpos) (tBM X.K T r to t):=by
 intro pins s σ H Q I h
 refine wpAny_Call_method_late hbase hfew hline rfl (thn (ho pins s σ H _ I h) fun v s1 ⟨x,H1,I1,r1,ty,q1⟩=>?_)
 obtain ⟨h1,h2⟩:=tyV_is I1 r1 ty
 refine ⟨T,id,pa,slot,hty,h1,h2,?_⟩
 have hA:=ha cpos pins s1 σ H1 _ I1 q1
 rw [hs] at hA ⊢
 refine Calls.callWith_builtin (by show (false || (backTo cpos (starEach es X.env)).any (·.1))=false;rw [hplain] <;> rfl) (Calls.evalArgs_plain ?_)
 exact thn hA fun us s2 ⟨vs,H2,I2,r2,q2⟩=>hm pins s2 σ H2 x vs v us Q I2 r1 r2 q2
/- xs.append(e),list.index on a module's tuple .. are MtR facts of 06m -/
end
end L2
namespace L2
open PySem PySem.Spec PyProof.Rows
def MtM (X:Cx) (id:String) (r:V->List V->Hp->VK->Prop):Prop:=
 ∀ (pins:List (Addr × Obj)) (s:Shared) (σ:St) (H:Hp) (x:V) (xs:List V) (v:Value) (us:List Value) (Q:VK),Inv X pins σ H s->RelV x v->Vals xs us->r x xs H Q ->
  wpAny (model X.prog X.w) X.A (call (.builtin id) (v :: us)) (EP X pins σ Q) X.xe s
theorem Vals.one:∀ {x:V}{us:List Value},Vals [x] us->∃ u,us=[u]/\RelV x u
 | _,_,.cons r .nil=>⟨_,rfl,r⟩
theorem Vals.rep {xs:List V}{us:List Value} (h:Vals xs us):∀ k:Nat,Vals (List.replicate k xs).flatten (List.replicate k us).flatten
 | 0=>.nil
 | k + 1=>by
  rw [yV,yV,List.flatten_cons,List.flatten_cons]
  exact Vals.append h (Vals.rep h k)
theorem foldl_rep (its:List Value):∀ (k:Nat) (acc:List Value),
  List.foldl (fun x1 x2=>x1 ++ x2) acc.toArray (List.replicate k its.toArray)=(acc ++ (List.replicate k its).flatten).toArray
 | 0,acc=>by simp
 | k + 1,acc=>by
  have e:acc.toArray ++ its.toArray=(acc ++ its).toArray:=by simp
  have e2:(acc ++ its) ++ (List.replicate k its).flatten=acc ++ (List.replicate (k + 1) its).flatten:=by
   rw [yV,List.flatten_cons,List.append_assoc]
  rw [<-e2,<- foldl_rep its k (acc ++ its),<- e,yV,List.foldl_cons]
section
variable {X:Cx}{pins:List (Addr × Obj)}{σ:St}{H:Hp}{s:Shared}{l b:Addr}{xs ys zs:List V}
theorem Inv.lset {its its':List Value}{n:Nat}{f:Array Value->Array Value}{t':Nat} (I:Inv X pins σ H s) (hH:H l=some (.lst xs))
  (e:s.heap.get? l=some { cls:=.type "list", data:=.seq its.toArray n }) (hf:f its.toArray=its'.toArray) (hv:Vals ys its') (hz:ys.length<=sizeLine) :
  Inv X pins σ (upd H l (.lst ys)) { s with heap:=s.heap.update l (Obj.mapSeq f),toks:=t' }:=by
 have q:=PySem.IsL.update e f
 rw [hf] at q
 refine I.write (x:=l) (e:=l) (by rw [hH];exact trivial) (.inl rfl) (fun b' u hb hu=>(Heap.get?_update_other s.heap (Obj.mapSeq f) (Ne.symm hb)).trans hu) ⟨_,q⟩ ?_
 exact ⟨hz,its',_,hv,q⟩
theorem Inv.lnew {its:List Value}{t':Nat} (I:Inv X pins σ H s) (hv:Vals ys its) (hz:ys.length<=sizeLine) :
  Inv X pins σ (upd H s.heap.objs.size (.lst ys)) { s with heap:=s.heap.push { cls:=.type "list", data:=.seq its.toArray },toks:=t' }:=
 I.laid (fun _ _ q=>Heap.get?_push_of_some _ q) (zJ _) ⟨hz,its,0,hv,Heap.get?_push_size _ rfl⟩
theorem Inv.fresh (I:Inv X pins σ H s):H s.heap.objs.size=none:=I.hok.fresh (zJ _)
theorem Inv.lstM (I:Inv X pins σ H s) (hH:H l=some (.lst xs)):xs.length<=sizeLine/\∃ (its:List Value) (n:Nat),Vals xs its/\xs.length=its.length/\s.heap.get? l=some { cls:=.type "list", data:=.seq its.toArray n }:=by
 obtain ⟨z,its,n,r,e⟩:=I.hok l _ hH
 exact ⟨z,its,n,r,r.length,e⟩
theorem notLongL {n:Nat} (h:n<=sizeLine):Builtin.List.listTooLong n=false:=by
 unfold Builtin.List.listTooLong
 exact decide_eq_false (by omega)
end
section
variable {X:Cx}
def rAppend:V->List V->Hp->VK->Prop:=fun x vs H Q=>∃ l xs y,x=.ref l/\vs=[y]/\H l=some (.lst xs)/\xs.length < sizeLine/\Q .non (upd H l (.lst (xs ++ [y])))
theorem mt_append:MtM X "list.append" rAppend:=by
 intro pins s σ H x vs v us Q I rx rv h
 obtain ⟨l,xs,y,rfl,rfl,hH,hz,q⟩:=h
 cases rx
 obtain ⟨u,rfl,ru⟩:=rv.one
 obtain ⟨z,its,n,r,hl,e⟩:=I.lstM hH
 refine call_meets F.slot_list_append ⟨_,e,rfl⟩ F.entry_list_append (F.args_list_append_2 _ _) (PySem.list_append l its.toArray n u (by rw [zQ];omega)) ⟨e,?_⟩
 refine ⟨.non,_,I.lset (its':=its ++ [u]) hH e (by simp) (r.append (.cons ru .nil)) ?_,rfl,q⟩
 rw [zT,List.length_singleton]
 omega
def rCat:R2:=fun x y H Q=>∃ l b xs zs,x=.ref l/\y=.ref b/\H l=some (.lst xs)/\H b=some (.lst zs)/\xs.length + zs.length<=sizeLine/\∀ p,H p=none->Q (.ref p) (upd H p (.lst (xs ++ zs)))
theorem op_cat:OpR X (binaryOp .Add) rCat:=by
 intro pins s σ H x y v u Q I rx ry h
 obtain ⟨l,b,xs,zs,rfl,rfl,hH,hB,hz,q⟩:=h
 cases rx
 cases ry
 obtain ⟨z,its,n,r,hl,e⟩:=I.lstM hH
 obtain ⟨z2,its2,n2,r2,hl2,e2⟩:=I.lstM hB
 refine PySem.P.add_list e e2 ?_ (by rw [zQ,zQ];omega)
 have ea:its.toArray ++ its2.toArray=(its ++ its2).toArray:=by simp
 rw [ea]
 exact ⟨.ref _,_,I.lnew (t':=s.toks) (r.append r2) (by rw [zT];omega),rfl,q _ I.fresh⟩
def rRep:R2:=fun x y H Q=>∃ l k xs,x=.ref l/\y=.int k/\H l=some (.lst xs)/\-(2 ^ 63)<=k/\k < 2 ^ 63/\xs.length * k.toNat<=sizeLine /\
 ∀ p,H p=none->Q (.ref p) (upd H p (.lst (List.replicate k.toNat xs).flatten))
theorem len_rep {α:Type} (xs:List α) (k:Nat):(List.replicate k xs).flatten.length=k * xs.length:=by
 induction k with
 | zero=>simp
 | succ k ih=>rw [yV,List.flatten_cons,zT,ih,Nat.succ_mul,Nat.add_comm]
theorem op_rep:OpR X (binaryOp .Mult) rRep:=by
 intro pins s σ H x y v u Q I rx ry h
 obtain ⟨l,k,xs,rfl,rfl,hH,h1,h2,hz,q⟩:=h
 cases rx
 obtain ⟨t,rfl⟩:=ry
 obtain ⟨z,its,n,r,hl,e⟩:=I.lstM hH
 have hlen:its.toArray.size * k.toNat<=sizeLine:=by rw [zQ,<- hl];exact hz
 have hcap:¬ its.toArray.size * k.toNat > (2 ^ 63 - 1) / 8:=by
  have:(sizeLine:Nat)<=(2 ^ 63 - 1) / 8:=by decide
  omega
 have hfit:¬ (!Builtin.List.listFitsIndex k)=true:=by
  rw [fitsIndex_both h1 h2]
  exact zG
 have hlong:¬ Builtin.List.listTooLong (its.toArray.size * k.toNat)=true:=by
  rw [notLongL hlen]
  exact zG
 have hnew:List.foldl (fun x1 x2=>x1 ++ x2) #[] (List.replicate (if its.toArray.isEmpty=true then 0 else k.toNat) its.toArray)=(List.replicate k.toNat its).flatten.toArray:=by
  have f0:∀ m:Nat,List.foldl (fun x1 x2=>x1 ++ x2) #[] (List.replicate m its.toArray)=(List.replicate m its).flatten.toArray:=fun m=>by
   have:=foldl_rep its m []
   rw [List.nil_append] at this
   exact this
  rw [f0]
  cases its with
  | nil=>simp
  | cons a r'=>rw [if_neg (by simp)]
 refine wpAny_binaryOp_repeat_ref (T := "list") (U := "int") (by decide) ⟨_,e,rfl⟩ (fun s'=>typeIs_int s' k t) noFill_list_mul F.fills_int_mul F.slot_int_rmul repeat_list F.slot_int_index.lookup
  (call_meets F.slot_int_rmul (typeIs_int s k t) F.entry_int_rmul (F.args_int_rmul_2 _ _) (int___rmul___int_list k t l its.toArray n)
   ⟨e,rfl,⟨_,e,rfl⟩,call_meets F.slot_list_mul ⟨_,e,rfl⟩ F.entry_list_mul (F.args_list_mul_2 _ _) (AutoListH.list___mul___list_int_3 l its.toArray n k t hfit hcap hlong) ⟨e,?_⟩⟩)
 rw [hnew]
 exact ⟨.ref _,_,I.lnew (t':=s.toks) (r.rep k.toNat) (by rw [len_rep,Nat.mul_comm];exact hz),rfl,q _ I.fresh⟩
end
section
variable {prog:Program}{w:World}{A:Around}{E:Value->Shared->Prop}{s:Shared}
set_option maxRecDepth 100000 in
end
section
variable {X:Cx}
end
end L2
namespace Att
open PySem PySem.W PySem.Calls PyProof.Rows
theorem ints_of_wellAll {P:Params}{h:Heap}:∀ (ns:List Int) (vs:List Value),WellAll P h vs (ns.map WData.int)->IntsAre vs ns:=by
 intro ns
 induction ns with
 | nil=>
  intro vs w
  rw [xD] at w
  cases w
  exact .nil
 | cons n ns ih=>
  intro vs w
  rw [zj] at w
  cases w with
  | cons a b=>
   cases a
   exact .cons _ _ (ih _ b)
theorem script_of {l:OpenLaw}{n:Nat} (hn:l.most=some n) {P:Params}{h:Heap}{args:List WData}{vals:List Value}
  (hpre:l.row.toRowW.claim.pre args=true) (hwl:WellAll P h vals args) :
  ∃ a vs ns,vals=[Value.ref a]/\args=[WData.list (ns.map WData.int)]/\h.get? a=some { cls:=.type "list", data:=.seq vs.toArray }/\IntsAre vs ns/\ns.length<=n:=by
 have hsh:WShape.hasAll [] args [.list .int]=true:=(pre_splitW hpre).1
 have hc:l.pre.holds [] { args:=args }=true:=(pre_splitW hpre).2
 obtain ⟨d,r,rfl,h1,h2⟩:=hasAllW_cons hsh
 obtain rfl:=hasAllW_nil h2
 obtain ⟨xs,rfl,h3⟩:=hasW_list h1
 obtain ⟨ns,rfl⟩:=items_int h3
 have hlen:ns.length<=n:=by
  unfold OpenLaw.pre at hc
  have h4:(WTm.not (.lt (.lit (.int (n:Int))) (.len (.arg 0)))).holds [] { args:=[.list (ns.map .int)] }=true:=by
   have h4:=(holds_andW hc).1
   rw [hn] at h4
   exact h4
  have h5:=condW_of h4 (w_not (w_lt w_lit (w_len_list (w_arg rfl))))
  rw [zA] at h5
  refine Nat.le_of_not_lt fun q=>?_
  have q':(n:Int) < ((ns.length:Nat):Int):=by omega
  first
   | (rw [decide_eq_true q'] at h5;exact absurd h5 (by decide))
   | (simp at h5;omega)
 cases hwl with
 | cons w1 w2=>
  cases w2
  cases w1 with
  | list ho hall=>exact ⟨_,_,ns,rfl,rfl,ho,ints_of_wellAll ns _ hall,hlen⟩
theorem post_true (l:OpenLaw) (args:List WData):l.row.toRowW.claim.post args (.bool true) args=true:=
 postW_of (r:=l.row.toRowW) (X:=(true == true))
  (show WShape.has [] (.bool true) .bool=true by first | rfl | decide | simp [WShape.has,WShape.arms,WShape.armsAll])
  (show (WTm.eq .res (.lit (.bool true))).value [] { args:=args,res:=some (.bool true),after:=args }=some (.bool (true == true)) from w_eq_bool (w_res rfl) w_lit) rfl
theorem attach_call {l:OpenLaw}{n:Nat}{q:Program}{loose:List Str}{XP:(Str->Option Value)->Heap->Prop}{YP:World->Heap->Prop}{d:DefRec}
  (hn:l.most=some n) (hdf:d.params.defaults=[])
  (call:∀ (w:World) (s₀ s₁:Shared) (mg mb:Str->Option Value) (fa:Addr) (o:Obj) (pm cd doc:Value) (a:Addr) (vs:List Value) (ns:List Int),
   Ground q loose [] XP w s₀ mg mb s₁.heap->YP w s₁.heap ->
   s₁.heap.get? fa=some o->o.data=.func (docDef d.name d.params d.body d.scope pm cd doc)->s₁.heap.CodeRec cd d.name->mg d.name=some (.ref fa) ->
   s₁.heap.get? a=some { cls:=.type "list", data:=.seq vs.toArray }->IntsAre vs ns->ns.length<=n->s₁.gens=#[] ->
   codeAny (model l.prog w) callerA (.call (.ref fa) ⟨[.ref a],[]⟩) (fun r s'=>r=.ok (.ret (.bool true))/\OldK s₁.heap s'.heap/\s'.os=s₁.os/\AllBare s'.gens) s₁) :
  WalkO q loose XP YP l.row.toRowW d [] (fun f vs=>PySem.call f vs):=by
 intro w s₀ s₁ mg mb G Y fa o pm cd doc dV kV ho hd hcd hD hmg hg args vals as hpre hlay hrd hwl hlo
 obtain rfl:dV=.none:=Dflts.none hD hdf
 obtain rfl:kV=.none:=Dflts.noKw hD
 obtain ⟨a,vs,ns,rfl,rfl,hobj,hints,hlen⟩:=script_of hn hpre hwl
 refine enter_call (codeAny_mono (call w s₀ s₁ mg mb fa o pm cd doc a vs ns G Y ho (fd_plain hd) hcd hmg hobj hints hlen hg) fun r s' hq=>?_)
 obtain ⟨rfl,h2,h3,h4⟩:=hq
 exact ⟨.inl ⟨.bool true,.bool true,[],rfl,fun _=>rfl,.bool true,post_true l _,fun _=>⟨List.Pairwise.nil,fun _ hm=>(nomatch hm)⟩⟩,h2,h3,h4⟩
section
variable {prog:Program}{w:World}{A:Around}{E:Value->Shared->Prop}{s:Shared}{K:Frag}
def ledger (h:Heap) (L d:Addr):List (Addr × Obj):=(List.range h.objs.size).filterMap fun a=>if a=L\/a=d then none else (h.get? a).map fun o=>(a,o)
end
end Att
namespace L2
open PySem PySem.Spec PyProof.Rows
theorem vals_ints:∀ {vs:List Value}{ns:List Int},IntsAre vs ns->Vals (ns.map V.int) vs
 | _,_,.nil=>.nil
 | _,_,.cons n t h=>.cons ⟨t,rfl⟩ (vals_ints h)
def Only (H:Hp):Prop:=∀ b,H b=none\/∃ o xs,H b=some (.frz o (.lst xs))
theorem law_call {P:Program}{w:World}{K:PySem.W.Frag}{mg mb:Str->Option Value}{CX:CXT}{k:Nat}{fa a:Addr}{fd:FuncData}{x:Str}{sp:Sp}{s₁:Shared}{vs:List Value}{ns:List Int}
  (KX:K.In s₁.heap) (hns:s₁.heap.Ns mainGlobals mg) (hb:s₁.heap.Ns builtinsNs mb) (hbb:∀ x:Str,x ≠ "__name__" -> mb x=bootBuiltins x) (hlim:s₁.heap.NoLimit) (hg:s₁.gens=#[])
  (ha:s₁.heap.get? a=some { cls:=.type "list", data:=.seq vs.toArray }) (hi:IntsAre vs ns) (hl:ns.length<=sizeLine) (hr:Room k callerA)
  (F:∀ base:Heap,K.In base->base.Ns mainGlobals mg->FnOk P w K mg base CX k fa fd [x] sp) (hbind:∀ (s:Shared) (u:Value),BindsTo s fd ⟨[u],[]⟩ [(x,u)])
  (hsp:∀ H:Hp,Only H->SqL K H a (ns.map V.int)->sp [.ref a] H (fun v _=>v=.bl true) fun _ _ _=>False)
  (hCX:∀ H e s',CX [] H s₁ (fun _ _ _=>False) e s'->False) :
  codeAny (model P w) callerA (.call (.ref fa) ⟨[.ref a],[]⟩) (fun r s'=>r=.ok (.ret (.bool true))/\OldK s₁.heap s'.heap/\s'.os=s₁.os/\AllBare s'.gens) s₁:=by
 have rv:=vals_ints hi
 have lenV:=hi.length
 -- from an abstract heap in which nothing but the script may be tracked
 have core:∀ H:Hp,Only H->SqL K H a (ns.map V.int)->HOk P w H s₁.heap->(∀ b,H b ≠ none->b=a)->(H a ≠ none->K.lookup a=none) ->
   codeAny (model P w) callerA (.call (.ref fa) ⟨[.ref a],[]⟩) (fun r s'=>r=.ok (.ret (.bool true))/\OldK s₁.heap s'.heap/\s'.os=s₁.os/\AllBare s'.gens) s₁:=by
  intro H hO hS hok hA hK
  have base_of:∀ {b:Addr}{o:Obj},s₁.heap.get? b=some o->H b=none->(hidT s₁.heap H).get? b=some o:=fun e n=>hidT_get e n
  have noA:∀ {b:Addr}{o:Obj}{es:Array DictEntry}{ep:Nat},s₁.heap.get? b=some o->o.data=.dict es ep->H b=none:=fun {b o es ep} e d=>by
   cases q:H b with
   | none=>rfl
   | some u=>
    have e':b=a:=hA b (by rw [q];simp)
    subst e'
    rw [ha] at e;cases e
    have d':Data.seq vs.toArray _=Data.dict es ep:=d
    cases d'
  have nsK:∀ {b:Addr}{m:Str->Option Value},s₁.heap.Ns b m->(hidT s₁.heap H).Ns b m:=fun {b m} ⟨o,es,ep,e,d,r⟩=>⟨o,es,ep,base_of e (noA e d),d,r⟩
  have hKb:K.In (hidT s₁.heap H):=fun b o e=>base_of (KX b o e) (by
   cases q:H b with
   | none=>rfl
   | some u=>
    have e':b=a:=hA b (by rw [q];simp)
    subst e'
    rw [hK (by rw [q];simp)] at e;cases e)
  have hM:Mod K mg (hidT s₁.heap H):=⟨hKb,nsK hns,⟨mb,nsK hb,hbb⟩,let ⟨mc,h1,h2⟩:=hlim;⟨mc,nsK h1,h2⟩⟩
  have e0:Env0 P w K mg (hidT s₁.heap H) callerA [] s₁ H:=⟨rfl,hM,fun b o e=>of_hidT e,Nat.le_of_eq (hidT_size _ _),trivial,fun b hb=>absurd (show b ∈ ([]:List Addr) from hb) (by simp),hok,.of_eq hg⟩
  refine codeAny_mono ((F _ hKb (nsK hns)).run callerA [] s₁ H ⟨[.ref a],[]⟩ [.ref a] [.ref a] _ _ hr e0 (hbind s₁ (.ref a)) (.cons rfl .nil) (hsp H hO hS)) fun r s' h=>?_
  cases r with
  | error e=>exact (hCX H e s' h).elim
  | ok fl=>
   cases fl with
   | next=>exact False.elim h
   | brk=>exact False.elim h
   | cont=>exact False.elim h
   | ret u=>
    obtain ⟨v,H',os,bare,un,hok',r',q⟩:=h
    have q':v=.bl true:=q
    subst q'
    obtain rfl:u=Value.bool true:=r'
    refine ⟨rfl,OldK.of_keep fun b o e=>?_,os,bare⟩
    cases q:H b with
    | none=>exact un.keep b o e q (by intro z;exact absurd (show b ∈ ([]:List Addr) from z) (by simp)) (by simp)
    | some u=>
     rcases hO b with z | ⟨ob,xs,z⟩
     ·rw [q] at z;cases z
     ·have z2:=un.frzs b ob _ z
      obtain ⟨e1,_⟩:=hok b _ z
      obtain ⟨e2,_⟩:=hok' b _ z2
      rw [e] at e1;cases e1
      exact e2
 cases hk:K.lookup a with
 | some o=>
  -- the script is one of the module's own objects
  have e:=KX a o hk
  rw [ha] at e
  cases e
  refine core (fun _=>none) (fun _=>.inl rfl) (.inr ⟨_,vs.toArray,_,hk,rfl,rfl,rfl,by rw [zQ,lenV];exact hl,by simpa using rv⟩) (fun b u z=>by have z':(none:Option HO)=some u:=z;cases z') (fun b z=>absurd rfl z) fun z=>absurd rfl z
 | none=>
  refine core (fun b=>if b=a then some (.frz { cls:=.type "list", data:=.seq vs.toArray } (.lst (ns.map V.int))) else none) (fun b=>?_) (.inl (.inr ⟨{ cls:=.type "list", data:=.seq vs.toArray },if_pos rfl⟩)) (fun b u z=>?_) (fun b z=>?_) fun _=>hk
  ·by_cases hb:b=a
   ·exact .inr ⟨_,_,if_pos hb⟩
   ·exact .inl (if_neg hb)
  ·by_cases hb:b=a
   ·have z':=(if_pos hb).symm.trans z
    cases z'
    subst hb
    exact ⟨ha,by rw [zA];exact hl,vs,_,rv,ha⟩
   ·have z':=(if_neg hb).symm.trans z
    cases z'
  ·by_cases hb:b=a
   ·exact hb
   ·exact absurd (if_neg hb) z
end L2
namespace L2
open PySem PySem.Spec PyProof.Rows
theorem walk_of {l:PySem.W.OpenLaw}{n k:Nat}{q:Program}{loose:List Str}{XP:(Str->Option Value)->Heap->Prop}{YP:World->Heap->Prop}{d:DefRec}{K:Params->PySem.W.Frag}{CX:World->CXT}{sp:World->Sp}{x:Str}
  (hn:l.most=some n) (hn2:n<=sizeLine) (hdf:d.params.defaults=[]) (hr:Room k callerA)
  (hY:∀ (w:World) (h:Heap),YP w h->(K w.params).In h)
  (F:∀ (w:World) (mg:Str->Option Value) (fa:Addr) (h:Heap),(K w.params).In h->h.Ns mainGlobals mg->mg d.name=some (.ref fa) ->
   ∃ fd:FuncData,(∀ (s:Shared) (u:Value),BindsTo s fd ⟨[u],[]⟩ [(x,u)]) /\
    ∀ base:Heap,(K w.params).In base->base.Ns mainGlobals mg->FnOk l.prog w (K w.params) mg base (CX w) k fa fd [x] (sp w))
  (hsp:∀ (w:World) (H:Hp) (a:Addr) (ns:List Int),ns.length<=n->Only H->SqL (K w.params) H a (ns.map V.int)->sp w [.ref a] H (fun v _=>v=.bl true) fun _ _ _=>False)
  (hCX:∀ (w:World) (H:Hp) (s:Shared) (e:Value) (s':Shared),CX w [] H s (fun _ _ _=>False) e s'->False) :
  PySem.W.WalkO q loose XP YP l.row.toRowW d [] (fun f vs=>PySem.call f vs):=by
 refine Att.attach_call hn hdf fun w s₀ s₁ mg mb fa o pm cd doc a vs ns G Y ho hd hcd hmg hobj hints hlen hg=>?_
 have KX:=hY w _ Y
 obtain ⟨fd,hb,hF⟩:=F w mg fa _ KX G.T.g hmg
 exact law_call KX G.T.g G.T.b G.T.builtins G.T.nolimit hg hobj hints (zq hlen hn2) hr hF hb (fun H hO hS=>hsp w H a ns hlen hO hS) fun H e s'=>hCX w H s₁ e s'
end L2
namespace L2
open PySem PySem.Spec PyProof.Rows
def inClass (s:Stmt) (j:Nat):Stmt:=match s with
 | .ClassDef _ _ _ body _ _ _ _ _ _ _=>body.getD j (.Pass ⟨0,0,0,0⟩)
 | _=>.Pass ⟨0,0,0,0⟩
def defArgs (s:Stmt):Arguments:=match s with
 | .FunctionDef _ a _ _ _ _ _ _ _ _=>a
 | _=>{ posonlyargs:=[],args:=[],vararg:=none,kwonlyargs:=[],kw_defaults:=[],kwarg:=none,defaults:=[] }
def defBody (s:Stmt):List Stmt:=match s with
 | .FunctionDef _ _ b _ _ _ _ _ _ _=>b
 | _=>[]
def defScope (s:Stmt):Scope:=match s with
 | .FunctionDef _ _ _ _ _ _ sc _ _ _=>sc
 | _=>{ kind:=.function,names:=[],isGenerator:=false,isCoroutine:=false }
abbrev CX0:CXT:=fun _ _ _ _ _ _=>False
abbrev E0:XK:=fun _ _ _=>False
theorem pass0 {X:Cx}:Passes CX0 X E0:=fun _ _ _ _ _ _ _ h=>h.elim
structure Fun (K:PySem.W.Frag) (x qual:Str) (st:Stmt) (f:Addr) (fd:FuncData):Prop where
 ex:∃ (oc:Value) (od:Option Addr) (kV doc pm:Value) (an:Option Addr) (cdv ct:Value) (osl:Array (Option Value)),
  fd=xC x qual (defArgs st) (defBody st) (defScope st) .none kV doc pm an cdv ct/\K.lookup f=some ⟨oc,od,.func fd,osl⟩/\PySem.W.codeIn K cdv qual=true
 kp:zH K (.ref f)=true
section
variable {P:Program}{w:World}{K:PySem.W.Frag}{mg:Str->Option Value}{base:Heap}
theorem Fun.ok {x qual:Str}{st:Stmt}{f:Addr}{fd:FuncData}{N ps:List Str}{k:Nat}{sp:Sp} (F:Fun K x qual st f fd) (S:FnScope N ps (defScope st)) (len:∀ vs H Q E,sp vs H Q E->vs.length=ps.length)
  (hbody:∀ (cdv:Value) (A:Around) (outer:List Env) (s:Shared) (H:Hp) (vs:List V) (Q:VK) (E:XK),Room k (A.deeper (envOfC qual (defScope st) s.heap.objs.size f cdv))->sp vs H Q E ->
   ∃ t,PSs (cxOf CX0 P w K mg base N qual (defScope st) f cdv A outer s H E).nox (defBody st) t/\t { nx:=fun _ H'=>Q .non H',rt:=Q } (start N vs) H):FnOk P w K mg base CX0 (k + 1) f fd ps sp:=by
 obtain ⟨oc,od,kV,doc,pm,an,cdv,ct,osl,rfl,lk,hcd⟩:=F.ex
 refine fn_of lk hcd S len fun A outer s H vs Q E hr hsp=>?_
 obtain ⟨t,h,q⟩:=hbody cdv A outer s H vs Q E hr hsp
 exact ⟨t,h.nox,q⟩
theorem Fun.binds {x qual:Str}{st:Stmt}{f:Addr}{fd:FuncData}{ps:List Str} (F:Fun K x qual st f fd)
  (h:∀ (kV doc pm:Value) (an:Option Addr) (cdv ct:Value) (us:List Value),us.length=ps.length->bindArgs (xC x qual (defArgs st) (defBody st) (defScope st) .none kV doc pm an cdv ct) ⟨us,[]⟩=pure (ps.zip us)):Binds K fd ps []:=by
 obtain ⟨oc,od,kV,doc,pm,an,cdv,ct,osl,rfl,lk,hcd⟩:=F.ex
 exact .all (h kV doc pm an cdv ct)
theorem fun_mk {x qual:Str}{st:Stmt}{f:Addr}{oc:Value}{od an:Option Addr}{osl:Array (Option Value)}{kV doc pm cdv ct:Value} (l:K.lookup f=some ⟨oc,od,.func (xC x qual (defArgs st) (defBody st) (defScope st) .none kV doc pm an cdv ct),osl⟩)
  (c:PySem.W.codeIn K cdv qual=true) (k:zH K (.ref f)=true):Fun K x qual st f (xC x qual (defArgs st) (defBody st) (defScope st) .none kV doc pm an cdv ct):=⟨⟨oc,od,kV,doc,pm,an,cdv,ct,osl,rfl,l,c⟩,k⟩
end
section
variable {X:Cx}
theorem pv (i:Nat) {x:Str}{pos:Pos} (hN:X.N[i]?=some x:=by rfl) (hv:Vis X.env.scope x:=by first | exact Or.inl rfl | exact Or.inr (Or.inl rfl) | exact Or.inr (Or.inr rfl)) (hd:(x == ("__debug__" : Str))=false:=by decide)
  (hcd:(x == ("__classdict__" : Str))=false:=by decide):PE X (.Name x pos) (tVar i):=pe_var hN hv hd hcd
end
def Same (H H':Hp):Prop:=∀ b o,H b=some o->H' b=some o
theorem Same.refl (H:Hp):Same H H:=fun _ _ h=>h
theorem Same.trans {H H1 H2:Hp} (a:Same H H1) (b:Same H1 H2):Same H H2:=fun c o h=>b c o (a c o h)
theorem Same.free {H H':Hp} (e:Same H H') {l:Addr} (h:H' l=Option.none):H l=Option.none:=by
 cases q:H l with
 | none=>rfl
 | some o=>
  rw [e l o q] at h
  cases h
theorem Same.seq {K:PySem.W.Frag}{H H':Hp}{a:Addr}{xs:List V} (e:Same H H') (h:SqL K H a xs):SqL K H' a xs:=by
 rcases h with (h | ⟨o,h⟩) | h
 ·exact .inl (.inl (e _ _ h))
 ·exact .inl (.inr ⟨o,e _ _ h⟩)
 ·exact .inr h
end L2
set_option Elab.async false
set_option linter.all false
set_option maxRecDepth 100000
set_option maxHeartbeats 4000000
namespace L2
open PySem PySem.Spec PyProof.Rows
theorem loop_comp {prog:Program}{w:World}{A:Around}{R:Result->Shared->Prop}{s:Shared}{elt target iter:Expr}{ifs:List Expr}{scope:Scope}{pos:Pos}{it acc:Value}{env:Env} (I:Nat->Shared->Prop)
  (turn:∀ n s,I n s->wpAny (model prog w) A (pyNext it) (fun r s₁=>match r with
   | none=>R (.ok .next) s₁
   | some v=>wpAny (model prog w) A (letOwnedTupleGo target it v) (fun _ s₁'=>wpAny (model prog w) A (assign target env v) (fun _ s₂=>
     wpAny (model prog w) A (forIn ifs true fun c r=>if r=true then do let ok <- isTrue c env (eval c env);pure (ForInStep.yield ok) else pure (ForInStep.yield r)) (fun ok s₃=>
      if ok=true then wpAny (model prog w) A (eval elt env) (fun x s₄=>
       wpAny (model prog w) A (call (.builtin "list.append") [acc,x]) (fun _ s₅=>∃ m,m < n/\I m s₅) (fun _ _=>False) s₄) (fun _ _=>False) s₃
      else ∃ m,m < n/\I m s₃) (fun _ _=>False) s₂) (fun _ _=>False) s₁') (fun _ _=>False) s₁) (fun _ _=>False) s)
  (n:Nat) (h:I n s) :
  codeAny (model prog w) A (.compLoop (.ListComp elt [⟨target,iter,ifs,0⟩] scope pos) 0 it acc env) R s:=by
 refine codeAny_loop rfl I (fun n s hI=>?_) n h
 show wpAny _ A ((compTurn (.ListComp elt [⟨target,iter,ifs,0⟩] scope pos) 0 it acc env).onRaise (fun x=>do noteFrame x env;theTreesLotGoes x)) _ _ s
 refine wpAny_noted ?_
 rw [compTurn_list]
 refine wpAny_bind (wpAny_standAt (wpAny_bind (wpAny_mono (turn n s hI) (fun r s₁ h₁=>?_) fun _ _ h'=>h'.elim)))
 cases r with
 | none=>exact wpAny_pure h₁
 | some v=>
  refine wpAny_bind (wpAny_mono h₁ (fun _ s₁' h₁'=>?_) fun _ _ h'=>h'.elim)
  refine wpAny_bind (wpAny_mono h₁' (fun _ s₂ h₂=>wpAny_bind (wpAny_mono h₂ (fun ok s₃ h₃=>?_) fun _ _ h'=>h'.elim)) fun _ _ h'=>h'.elim)
  cases ok with
  | false=>exact wpAny_pure ⟨rfl,h₃⟩
  | true=>
   exact wpAny_bind (wpAny_bind (wpAny_mono h₃ (fun x s₄ h₄=>wpAny_bind (wpAny_mono h₄ (fun _ s₅ h₅=>wpAny_pure (wpAny_pure ⟨rfl,h₅⟩)) fun _ _ h'=>h'.elim)) fun _ _ h'=>h'.elim))
def clOf (names:List (Str × NameKind)) (env:Env) (cs:List (Str × Addr)):List (Str × Addr):=
 names.foldl (fun cs p=>if p.2=.free then (match env.cells.lookup p.1 with | some c=>(p.1,c) :: cs | none=>cs) else cs) cs
theorem closure_loop {env:Env}:∀ (names:List (Str × NameKind)) (cs:List (Str × Addr)),(∀ y ∈ names,y.2=.free->∃ c,env.cells.lookup y.1=some c) ->
  (forIn names cs fun x r=>(if (x.2 == NameKind.free)=true then do let a <- cellOf env x.1;pure (ForInStep.yield ((x.1,a) :: r)) else pure (ForInStep.yield r):Sem _))=pure (clOf names env cs)
 | [],cs,_=>by simp [clOf]
 | (n,k) :: r,cs,h=>by
  have ih:=fun cs=>closure_loop r cs fun y hy=>h y (zo _ hy)
  simp only [List.forIn_cons]
  by_cases hk:k=.free
  ·subst hk
   obtain ⟨c,e⟩:=h (n,.free) yb rfl
   have e':env.cells.lookup n=some c:=e
   have ec:cellOf env n=pure c:=by unfold cellOf;rw [e']
   simp only [beq_self_eq_true,if_true,ec,pure_bind]
   rw [ih]
   simp [clOf,e']
  ·have hb:(k == NameKind.free)=false:=by simpa using hk
   simp only [hb,Bool.false_eq_true,if_false,pure_bind]
   rw [ih]
   simp [clOf,hk]
theorem closureFor_eq {scope:Scope}{env:Env} (h:∀ y ∈ scope.names,y.2=.free->∃ c,env.cells.lookup y.1=some c):closureFor scope env=pure (clOf scope.names env []):=by
 unfold closureFor
 have:=closure_loop scope.names [] h
 simp only [bind_pure]
 exact this
theorem clOf_mem {env:Env}:∀ (names:List (Str × NameKind)) (cs:List (Str × Addr)) (x:Str) (c:Addr),(x,c) ∈ clOf names env cs->(x,c) ∈ cs\/env.cells.lookup x=some c
 | [],cs,x,c,h=>.inl h
 | (n,k) :: r,cs,x,c,h=>by
  have h':(x,c) ∈ clOf r env (if k=.free then (match env.cells.lookup n with | some c=>(n,c) :: cs | none=>cs) else cs):=h
  rcases clOf_mem r _ x c h' with q | q
  ·split at q
   ·cases e:env.cells.lookup n with
    | none=>rw [e] at q;exact .inl q
    | some d=>
     rw [e] at q
     rcases zR.mp q with z | z
     ·cases z;exact .inr e
     ·exact .inl z
   ·exact .inl q
  ·exact .inr q
theorem clOf_keep {env:Env}:∀ (names:List (Str × NameKind)) (cs:List (Str × Addr)) (x:Str),(∃ c,(x,c) ∈ cs)->∃ c,(x,c) ∈ clOf names env cs
 | [],cs,x,h=>h
 | (n,k) :: r,cs,x,⟨c,h⟩=>by
  refine clOf_keep r _ x ?_
  dsimp only
  split
  ·split
   ·exact ⟨c,zo _ h⟩
   ·exact ⟨c,h⟩
  ·exact ⟨c,h⟩
theorem clOf_has {env:Env}:∀ (names:List (Str × NameKind)) (cs:List (Str × Addr)) (x:Str),(x,NameKind.free) ∈ names->(∃ c,env.cells.lookup x=some c)->∃ c,(x,c) ∈ clOf names env cs
 | [],_,_,h,_=>by simp at h
 | (n,k) :: r,cs,x,h,⟨c,e⟩=>by
  rcases zR.mp h with z | z
  ·have e1:x=n:=congrArg Prod.fst z
   have e2:NameKind.free=k:=congrArg Prod.snd z
   subst e1 e2
   refine clOf_keep r _ x ⟨c,?_⟩
   dsimp only
   rw [if_pos rfl,e]
   exact yb
  ·exact clOf_has r _ x z ⟨c,e⟩
theorem lookup_of_mem {β:Type}:∀ (l:List (Str × β)) (x:Str) (c:β),(x,c) ∈ l->∃ d,l.lookup x=some d
 | (n,d) :: r,x,c,h=>by
  cases hx:x == n with
  | true=>exact ⟨d,by simp [yZ,hx]⟩
  | false=>
   simp only [yZ,hx]
   rcases zR.mp h with z | z
   ·cases z;simp at hx
   ·exact lookup_of_mem r x c z
theorem xo {names:List (Str × NameKind)}{env:Env}{x:Str}{c:Addr} (h:(clOf names env []).lookup x=some c):env.cells.lookup x=some c:=by
 rcases clOf_mem names [] x c (yE h) with q | q
 ·simp at q
 ·exact q
theorem clOf_some {names:List (Str × NameKind)}{env:Env}{x:Str}{c:Addr} (h:(x,NameKind.free) ∈ names) (e:env.cells.lookup x=some c):(clOf names env []).lookup x=some c:=by
 obtain ⟨d,hd⟩:=clOf_has names [] x h ⟨c,e⟩
 obtain ⟨d',hd'⟩:=lookup_of_mem _ _ _ hd
 have:=xo hd'
 rw [e] at this
 cases this
 exact hd'
theorem lookup_relabel_free {env:Env}:∀ {names:List (Str × NameKind)}{x:Str},names.lookup x=some .free ->
  (names.map fun (n,k)=>if (k == NameKind.free && env.scope.kind == .function && env.kindOf n == some .cell) then (n,NameKind.cell) else (n,k)).lookup x=some .cell \/
  (names.map fun (n,k)=>if (k == NameKind.free && env.scope.kind == .function && env.kindOf n == some .cell) then (n,NameKind.cell) else (n,k)).lookup x=some .free
 | [],_,h=>by simp at h
 | (n,k) :: r,x,h=>by
  have ih:=@lookup_relabel_free env r x
  show yk x ((if (k == NameKind.free && env.scope.kind == .function && env.kindOf n == some .cell)=true then (n,NameKind.cell) else (n,k)) :: _)=_\/yk x ((if (k == NameKind.free && env.scope.kind == .function && env.kindOf n == some .cell)=true then (n,NameKind.cell) else (n,k)) :: _)=_
  by_cases hc:(k == NameKind.free && env.scope.kind == .function && env.kindOf n == some .cell)=true
  ·rw [if_pos hc]
   cases hx:x == n with
   | true=>left;simp [yZ,hx]
   | false=>
    simp only [yZ,hx] at h ⊢
    exact ih h
  ·rw [if_neg hc]
   cases hx:x == n with
   | true=>
    simp only [yZ,hx] at h
    cases h
    right;simp [yZ,hx]
   | false=>
    simp only [yZ,hx] at h ⊢
    exact ih h
structure CompScope (own:List Str) (caps:List Nat) (N:List Str) (sc scope:Scope):Prop where
 kind:scope.kind=.function
 nocell:∀ y ∈ scope.names,y.2 ≠ .cell
 loc:∀ y ∈ scope.names,y.2=.local->scope.names.lookup y.1=some .local
 fr:∀ y ∈ scope.names,y.2=.free->sc.names.lookup y.1=some .cell\/sc.names.lookup y.1=some .free
 cap:∀ i ∈ caps,i < N.length/\scope.names.lookup ((N[i]?).getD Str.empty)=some .free
def cxComp (X:Cx) (own:List Str) (caps:List Nat) (scope:Scope) (s:Shared) (H:Hp) (fp:List Addr) (C:Addr):Cx:=
 { X with N:=own ++ caps.map (fun i=>(X.N[i]?).getD Str.empty),s₀:=s,H₀:=H,env:=compEnvC scope (clOf scope.names X.env []) C X.env,outer:=X.stack,ex:=fp,fn:=fun _=>false,pn:=[],xe:=fun _ _=>False }
def tau0 (n:Nat) (caps:List Nat) (σ:St):St:=List.replicate n none ++ caps.map fun i=>(σ[i]?).join
section
variable {X:Cx}{pins:List (Addr × Obj)}{σ:St}{H:Hp}{s:Shared}
theorem free_of_kind {scope:Scope}{env:Env} (nc:∀ y ∈ scope.names,y.2 ≠ .cell) {x:Str}{k:NameKind} (hk:k=.cell\/k=.free) (h:(relabel scope env).names.lookup x=some k):(x,NameKind.free) ∈ scope.names:=by
 have hm:=yE h
 obtain ⟨⟨n,k0⟩,hy,e⟩:=zM.mp hm
 dsimp only at e
 split at e
 ·rename_i hc
  simp only [zk,beq_iff_eq] at hc
  have e1:n=x:=congrArg Prod.fst e
  subst e1
  rw [hc.1.1] at hy
  exact hy
 ·cases e
  rcases hk with z | z
  ·subst z;exact absurd rfl (nc _ hy)
  ·subst z;exact hy
theorem inv_comp {own:List Str}{caps:List Nat}{scope:Scope}{fp:List Addr}{D C:Addr}{o:Obj} {h1:Heap}{tk:Nat} (I:Inv X pins σ H s) (S:CompScope own caps X.N X.env.scope scope)
  (f:∀ b ∈ fp,FpOk X pins H b) (fl:∀ b ∈ fp,b < s.heap.objs.size) (hD:s.heap.objs.size<=D) (hC:s.heap.objs.size<=C) (hDC:D ≠ C) (keep:∀ b o,s.heap.get? b=some o->h1.get? b=some o)
  (hns:h1.Ns C fun _=>none) (hacc:h1.get? D=some o) (ho:∀ v,o.data ≠ .cell v) :
  Inv (cxComp X own caps scope s H fp C) [(D,o)] (tau0 own.length caps σ) H { s with heap:=h1,toks:=tk }:=by
 have sub:∀ b ∈ frs X.stack,b < s.heap.objs.size:=fun b hb=>by
  rcases zR.mp (I.stkSub b hb) with e | hb
  ·rw [e];exact I.lt
  ·by_cases q:b < s.heap.objs.size
   ·exact q
   ·exact absurd hb (I.nofs (Nat.le_of_not_lt q))
 refine ⟨⟨I.ok.mod,S.kind,I.ok.glob,I.ok.blt,hC,fun x y c h1 h2=>I.ok.inj x y c (xo h1) (xo h2),fun x hx=>?_,fun x c z _=>absurd (show false=true from z) zG,I.ok.hd,I.ok.frames,.inl rfl,
   fun b hb=>⟨zU (zV (fl b hb) hC),fun x c e=>(f b hb).2.2.2.2.1 x c (xo e)⟩,I.bs,zq I.ok.bsz I.sz,fun b ob e hb=>?_,fun b hb hs=>?_,I.stack,I.stkFree⟩,
  rfl,I.bare,Un.kept keep,⟨_,hns,fun i x v e1 e2 e3=>?_⟩,fun x c e=>?_,I.hok.fresh hC,fun x c e=>I.freeC x c (xo e),fun p hp=>?_,I.hok.kept keep,?_⟩
 ·have hm:(x,NameKind.free) ∈ scope.names:=by
   rcases hx with hx | hx
   ·exact free_of_kind S.nocell (.inl rfl) hx
   ·exact free_of_kind S.nocell (.inr rfl) hx
  obtain ⟨c,hc⟩:=I.ok.has x (S.fr _ hm rfl)
  exact ⟨c,clOf_some hm hc⟩
 ·rcases (f b hb).2.2.2.1 with z | z
  ·exact I.ok.noex b ob e z
  ·exact absurd (zV (Heap.lt_size e) (zq I.ok.bsz z)) (ze _)
 ·rcases zR.mp (I.stkSub b hs) with e | e
  ·exact (f b hb).2.1 e
  ·exact (f b hb).2.2.1 e
 ·have e2':(List.replicate own.length (none:Option V) ++ caps.map fun i=>(σ[i]?).join)[i]?=some (some v):=e2
  have e1':(own ++ caps.map (fun i=>(X.N[i]?).getD Str.empty))[i]?=some x:=e1
  have hi:own.length<=i:=by
   by_cases q:i < own.length
   ·rw [List.getElem?_append_left (by simpa using q),yR,if_pos q] at e2'
    cases e2'
   ·exact Nat.le_of_not_lt q
  rw [z6 (by simpa using hi),zY,zC] at e2'
  rw [z6 hi,zC] at e1'
  cases ek:caps[i - own.length]? with
  | none=>rw [ek] at e1';cases e1'
  | some k=>
   rw [ek] at e1' e2'
   have ex:(X.N[k]?).getD Str.empty=x:=Option.some.inj e1'
   have ev:(σ[k]?).join=some v:=Option.some.inj e2'
   have ev':σ[k]?=some (some v):=by
    cases q:σ[k]? with
    | none=>rw [q] at ev;cases ev
    | some y=>rw [q] at ev;exact congrArg some ev
   obtain ⟨hl,hf⟩:=S.cap k (zD ek)
   have eN:X.N[k]?=some x:=by
    rw [zE hl] at ex ⊢
    exact congrArg some ex
   rw [ex] at hf
   have hm:=yE hf
   have hfr:=S.fr _ hm rfl
   obtain ⟨m,_,hl'⟩:=I.loc
   obtain ⟨u,ru,lk⟩:=hl' k x v eN ev' (.inr hfr)
   refine ⟨u,ru,.inr ⟨lookup_relabel_free hf,?_⟩⟩
   rcases lk with ⟨kl,_⟩ | ⟨_,c,hc,ob,hob,hd⟩
   ·have kl':X.env.scope.names.lookup x=some .local:=kl
    rcases hfr with z | z
    ·have z':X.env.scope.names.lookup x=some .cell:=z
     rw [z'] at kl';cases kl'
    ·have z':X.env.scope.names.lookup x=some .free:=z
     rw [z'] at kl';cases kl'
   ·exact ⟨c,clOf_some hm hc,ob,keep c ob hob,hd⟩
 ·obtain ⟨v,ob,hob,hd⟩:=I.cell x c (xo e)
  exact ⟨v,ob,keep c ob hob,hd⟩
 ·have e:p=(D,o):=by simpa using (show p ∈ [] ++ [(D,o)] from hp)
  subst e
  refine ⟨hacc,I.hok.fresh hD,hDC,fun z=>?_,ho⟩
  exact absurd (zV (sub D z) hD) (ze _)
 ·show (tau0 own.length caps σ).length=(own ++ caps.map (fun i=>(X.N[i]?).getD Str.empty)).length
  simp [tau0]
def PTs (X:Cx) (ifs:List Expr) (t:TT):Prop:=
 ∀ (pins:List (Addr × Obj)) (s:Shared) (σ:St) (H:Hp) (Q:Bool->Hp->Prop),Inv X pins σ H s->t σ H Q ->
  wpAny (model X.prog X.w) X.A (forIn ifs true fun c r=>if r=true then do let ok <- isTrue c X.env (eval c X.env);pure (ForInStep.yield ok) else pure (ForInStep.yield r)) (TP X pins σ Q) X.xe s
def tYes:TT:=fun _ H Q=>Q true H
theorem wX:PTs X [] tYes:=fun _ s σ H Q I h=>wpAny_tests_nil ⟨H,I,h⟩
theorem pts_one {c:Expr}{t:TT} (h:PT X c t):PTs X [c] t:=fun pins s σ H Q I q=>wpAny_tests_one (h pins s σ H Q I q)
def tComp (n:Nat) (caps:List Nat) (wi:TI) (g:TG) (tc:TT) (te:TE):TE:=fun σ H Q=>wi σ H fun J H1=>∃ W:Nat->Nat->St->List V->Hp->Prop,(∃ m,W 0 m (tau0 n caps σ) [] H1)/\∀ i m τ acc H,W i m τ acc H ->
 (J.stop i H/\acc.length<=sizeLine/\∀ p,H p=none->Q (.ref p) (upd H p (.lst acc))) \/
 (J.go i H/\acc.length < sizeLine/\∀ x H',J.yld i H x H'->g x τ H' fun τ2 H2=>tc τ2 H2 fun b H3=>if b=true then te τ2 H3 fun y H4=>∃ m',m' < m/\W (i + 1) m' τ2 (acc ++ [y]) H4 else ∃ m',m' < m/\W (i + 1) m' τ2 acc H3)
theorem HOk.track {P:Program}{w:World}{H:Hp}{h:Heap}{a:Addr}{o:HO} (x:HOk P w H h) (hn:H a=none) (new:ObjOk P w (upd H a o) h a o):HOk P w (upd H a o) h:=fun b u e=>by
 by_cases hb:b=a
 ·subst hb;rw [xH] at e;cases e;exact new
 ·rw [xN hb] at e
  exact (x b u e).stay (fun c v _ q=>q) (fun c q=>by rw [xN (xJ q hn)];exact q) fun c xs q=>by rw [xN (xJ q hn)];exact q
theorem pe_comp {own:List Str}{caps:List Nat}{elt tg iter:Expr}{ifs:List Expr}{scope:Scope}{pos:Pos}{wi:TI}{g:TG}{tc:TT}{te:TE} (hc:X.calm=true) (S:CompScope own caps X.N X.env.scope scope) (hi:PI X tg iter wi)
  (hg:∀ s H fp C,PG (cxComp X own caps scope s H fp C) tg g) (ht:∀ s H fp C,PTs (cxComp X own caps scope s H fp C) ifs tc) (he:∀ s H fp C,PE (cxComp X own caps scope s H fp C) elt te)
  (hs:∀ x,foldedSetIterable iter X.env x=pure x:=by intro _;rfl):PE X (.ListComp elt [⟨tg,iter,ifs,0⟩] scope pos) (tComp own.length caps wi g tc te):=by
 intro pins s σ H Q I h
 rw [eval_ListComp]
 refine wpAny_comprehension_free (use:=none) (cl:=clOf scope.names X.env []) rfl hs (closureFor_eq fun y hy e=>I.ok.has y.1 (S.fr y hy e)) S.kind S.loc
  (wpAny_mono (hi pins s σ H _ I h) (fun v s1 h1=>thn h1 fun itv s2 h2=>?_) fun _ _ e=>e)
 obtain ⟨it,fp,tn,J,H2,e,I2,T,st2,f2,W,⟨m0,w0⟩,turn⟩:=h2
 subst e
 refine wpAny_newObj_type (wpAny_newFunctionEnv S.nocell (by intro y hy;simp at hy) (fun h₁ hns₁ hsb₁=>?_) S.kind)
 dsimp only at hns₁ hsb₁ ⊢
 generalize hH2:s2.heap.push { cls:=.type "list", dict:=none,data:=.seq ([]:List Value).toArray }=G at hns₁ hsb₁ ⊢
 have hG:G.objs.size=s2.heap.objs.size + 1:=by rw [<-hH2,Heap.size_push]
 have hDC:s2.heap.objs.size ≠ G.objs.size:=by rw [hG];exact zU (yB _)
 have hCle:s2.heap.objs.size<=G.objs.size:=by rw [hG];exact yl _
 have below:∀ b,b < s2.heap.objs.size->b ≠ G.objs.size:=fun b hb=>by rw [hG];exact zU (Nat.lt_succ_of_lt hb)
 have old:∀ b o,s2.heap.get? b=some o->h₁.get? b=some o:=fun b o e=>hsb₁.extBut b o (below b (Heap.lt_size e)) (Heap.get?_push_of_some _ (hH2 ▸ Heap.get?_push_of_some _ e))
 have hacc:h₁.get? s2.heap.objs.size=some { cls:=.type "list", dict:=none,data:=.seq ([]:List Value).toArray }:=hsb₁.extBut _ _ hDC (Heap.get?_push_of_some _ (hH2 ▸ Heap.get?_push_size _ rfl))
 have fl:∀ b ∈ fp,b < s2.heap.objs.size:=fun b hb=>let ⟨o,e,_⟩:=T.obj _ _ st2 b hb;Heap.lt_size e
 have hns₁':h₁.Ns G.objs.size fun _=>none:=hns₁
 have I4:=inv_comp (tk:=s2.toks + ([]:List (Str × Value)).length) I2 S f2 fl (zJ _) hCle hDC old hns₁' hacc (fun v z=>nomatch z)
 have st4:tn 0 h₁:=T.keep _ _ _ st2 fun b _ o e=>old b o e
 generalize hs4:({ s2 with heap:=h₁,toks:=s2.toks + ([]:List (Str × Value)).length }:Shared)=s4 at I4 ⊢
 have e4:s4.heap=h₁:=by rw [<-hs4]
 rw [<-e4] at st4
 -- the loop
 have loop:codeAny (model X.prog X.w) X.A (.compLoop (.ListComp elt [⟨tg,iter,ifs,0⟩] scope pos) 0 (.ref it) (.ref s2.heap.objs.size) (compEnvC scope (clOf scope.names X.env []) G.objs.size X.env))
   (compPost (model X.prog X.w) X.A X.xe none (EP X pins σ Q) (.ref s2.heap.objs.size) G.objs.size) s4:=by
  let Y:=cxComp X own caps scope s2 H2 fp G.objs.size
  have stat:∀ {H':Hp}{its:List Value}{n:Nat},(∀ b ∈ fp,H' b=none)->∀ b ∈ fp,FpOk Y [(s2.heap.objs.size,({ cls:=.type "list", data:=.seq its.toArray n }:Obj))] H' b:=fun {H' its n} hn b hb=>by
   refine ⟨hn b hb,below b (fl b hb),fun z=>?_,.inl hb,fun x c e=>(f2 b hb).2.2.2.2.1 x c (xo e),fun p hp=>?_⟩
   ·rcases zR.mp (I2.stkSub b z) with e | e
    ·exact (f2 b hb).2.1 e
    ·exact (f2 b hb).2.2.1 e
   ·have e:p=(s2.heap.objs.size,({ cls:=.type "list", data:=.seq its.toArray n }:Obj)):=by simpa using (show p ∈ [] ++ [_] from hp)
    subst e
    exact yz (fl b hb)
  refine loop_comp (fun n s'=>∃ i τ acc its k H',Inv Y [(s2.heap.objs.size,({ cls:=.type "list", data:=.seq its.toArray k }:Obj))] τ H' s'/\tn i s'.heap/\(∀ b ∈ fp,H' b=none)/\Vals acc its/\W i n τ acc H') ?_ m0
   ⟨0,_,[],[],0,H2,I4,st4,fun b hb=>(f2 b hb).1,.nil,w0⟩
  rintro n s5 ⟨i,τ,acc,its,k,H5,I5,st5,fr5,rv5,w5⟩
  rcases turn i n τ acc H5 w5 with ⟨stop,hz,q⟩ | ⟨go,hz,step⟩
  ·refine thn (T.done Y rfl rfl rfl hc i _ s5 τ H5 (fun _ _=>False) I5 (stat fr5) st5 stop) fun r s6 ⟨hr,I6⟩=>?_
   subst hr
   obtain ⟨eD,nD,_,_,_⟩:=I6.pin _ (zS _ (zI.mpr rfl))
   obtain ⟨m6,hm6,_⟩:=I6.loc
   refine ⟨m6,hm6,fun h' hsb=>?_⟩
   have hC6:H5 G.objs.size=none:=I6.free
   have eD':h'.get? s2.heap.objs.size=some { cls:=.type "list", data:=.seq its.toArray k }:=hsb.extBut _ _ hDC eD
   have hok6:HOk X.prog X.w H5 h':=fun b u e=>(I6.hok b u e).stay (fun c v hcv qv=>hsb.extBut c v (by
     rcases hcv with z | z
     ·subst z;exact xJ e hC6
     ·exact xJ z hC6) qv) (fun _ q=>q) fun _ _ q=>q
   refine ⟨.ref s2.heap.objs.size,_,?_,rfl,q _ nD⟩
   have ub:=I6.base
   refine I2.call' (ch:=fp) (s':={ s6 with heap:=h' }) I6.os ⟨fun b o e n' hb hx=>hsb.extBut b o (below b (Heap.lt_size e)) (ub.keep b o e n' hb hx),fun b o e n' hb hx=>?_,fun b o e n' hx=>?_,fun b o e hx=>?_,fun b xs e=>?_,fun b o u e=>?_,fun b ps e=>?_⟩
    (hok6.track nD ⟨hz,its,k,rv5,eD'⟩) I6.bare fun b hb=>⟨(f2 b hb).2.2.2.1,(f2 b hb).2.1,(f2 b hb).2.2.2.2.1,(f2 b hb).2.2.2.2.2⟩
   ·obtain ⟨sl,e'⟩:=ub.slot b o e n' hb hx
    exact ⟨sl,hsb.extBut b _ (below b (Heap.lt_size e)) e'⟩
   ·rw [xN (zU (Heap.lt_size e))]
    exact ub.free b o e n' hx
   ·obtain ⟨o',e'⟩:=ub.there b o e hx
    exact ⟨o',hsb.extBut b _ (below b (Heap.lt_size e)) e'⟩
   ·have z:=ub.tups b xs e
    rw [xN (xJ z nD)];exact z
   ·have z:=ub.frzs b o u e
    rw [xN (xJ z nD)];exact z
   ·obtain ⟨more,z⟩:=ub.tbls b ps e
    exact ⟨more,by rw [xN (xJ z nD)];exact z⟩
  ·refine thn (T.item Y rfl rfl rfl hc i _ s5 τ H5 (fun _ _=>False) I5 (stat fr5) st5 go) fun r s6 ⟨u,hr,h6⟩=>?_
   subst hr
   refine thn h6 fun _ s7 ⟨x,H7,I7,r7,y7,st7,fr7⟩=>?_
   have I7':=I7.pinned (stat fr7) (T.obj _ _ st7)
   refine thn (hg s2 H2 fp G.objs.size _ s7 τ H7 x u _ I7' r7 (step x H7 y7)) fun _ s8 ⟨τ8,H8,I8,q8⟩=>?_
   refine thn (ht s2 H2 fp G.objs.size _ s8 τ8 H8 _ I8 q8) fun ok s9 ⟨H9,I9,q9⟩=>?_
   -- the iterator's state behind the turn
   have back:∀ {s':Shared}{τ':St}{H':Hp},Inv Y ([(s2.heap.objs.size,({ cls:=.type "list", data:=.seq its.toArray k }:Obj))] ++ pinsAt fp s7.heap) τ' H' s'->(tn (i + 1) s'.heap/\∀ b ∈ fp,H' b=none):=fun {s' τ' H'} Ib=>
    ⟨T.keep _ _ _ st7 fun b hb o e=>(Ib.pin (b,o) (zS _ (zS _ (wS hb e)))).1,fun b hb=>by
     obtain ⟨o,e,d⟩:=T.obj _ _ st7 b hb
     exact (Ib.pin (b,o) (zS _ (zS _ (wS hb e)))).2.1⟩
   cases ok with
   | false=>
    obtain ⟨m',hm',w'⟩:=q9
    obtain ⟨sb,fb⟩:=back I9
    exact ⟨m',hm',i + 1,τ8,acc,its,k,H9,I9.unpinned,sb,fb,rv5,w'⟩
   | true=>
    refine thn (he s2 H2 fp G.objs.size _ s9 τ8 H9 _ I9 q9) fun y s10 ⟨yv,H10,I10,r10,q10⟩=>?_
    obtain ⟨m',hm',w'⟩:=q10
    obtain ⟨sb,fb⟩:=back I10
    obtain ⟨eD,nD,neD,nfD,_⟩:=I10.pin (s2.heap.objs.size,_) (zS _ (ye _ (zI.mpr rfl)))
    have hl:acc.length=its.length:=rv5.length
    refine call_meets F.slot_list_append ⟨_,eD,rfl⟩ F.entry_list_append (F.args_list_append_2 _ _) (PySem.list_append s2.heap.objs.size its.toArray k y (by rw [zQ];omega)) ⟨eD,?_⟩
    have q:=PySem.IsL.update eD (fun a:Array Value=>a.push y)
    have Iu:Inv Y [] τ8 H10 s10:=I10.pins_of fun p hp=>nomatch hp
    have It:=Iu.turned (t':=s10.toks) (it:=s2.heap.objs.size) (h':=s10.heap.update s2.heap.objs.size (Obj.mapSeq (fun a:Array Value=>a.push y))) (fun b o hb e=>(Heap.get?_update_other s10.heap _ (Ne.symm hb)).trans e) nD neD (.inr (zJ _))
     (fun x c e z=>by
      obtain ⟨v,ob,hob,_⟩:=I2.cell x c (xo e)
      exact absurd (Heap.lt_size hob) (by rw [z];exact ze _)) (fun p hp=>nomatch hp)
    have It':=It.pins_of (pins':=[(s2.heap.objs.size,({ cls:=.type "list", data:=.seq (its ++ [y]).toArray (k + 1) }:Obj))]) fun p hp=>by
     have e:p=_:=zI.mp hp
     subst e
     exact ⟨by simpa using q,nD,neD,nfD,fun v z=>nomatch z⟩
    refine ⟨m',hm',i + 1,τ8,acc ++ [yv],its ++ [y],_,H10,It',T.keep _ _ _ sb fun b hb o e=>(Heap.get?_update_other s10.heap _ (yz (fl b hb))).trans e,fb,rv5.append (.cons r10 .nil),w'⟩
 exact codeAny_compStart_list loop (T.self _ 0 s4 _ _ st4 loop)
end
end L2
set_option Elab.async false
set_option linter.all false
set_option maxRecDepth 100000
set_option maxHeartbeats 4000000
namespace L2
open PySem PySem.Spec PyProof.Rows
open AutoSeq1 (wpAny_loadPart')
section
variable {prog:Program}{w:World}{A:Around}{E:Value->Shared->Prop}{s:Shared}
end
section
variable {prog:Program}{w:World}{A:Around}{E:Value->Shared->Prop}{s:Shared}
end
def IteL (K:PySem.W.Frag) (a:Addr):It:=
 ⟨fun i H=>∃ xs x,SqL K H a xs/\xs[i]?=some x,fun i H y H'=>∃ p x,H p=none/\y=.ref p/\H'=upd H p (.tup [.int i,x])/\∀ xs,SqL K H a xs->xs[i]?=some x,fun i H=>∃ xs,SqL K H a xs/\xs.length<=i⟩
theorem turn_enumL {P:Program}{w:World}{K:PySem.W.Frag}{es:List Expr}{k:Nat}{pos:Pos} (a e it:Addr) (hne:e ≠ it) :
  Turn P w K (.Tuple es k pos) (IteL K a) [e,it] e (fun i h=>(∃ old,IsEnum h e it i old)/\h.IsListIter it a i) where
 mem:=by simp
 obj:=fun i h st b hb=>by
  obtain ⟨⟨old,he⟩,o,hi,c,d⟩:=st
  rcases zR.mp hb with z | z
  ·subst z;exact ⟨_,he,fun v q=>nomatch q⟩
  ·have z':b=it:=by simpa using z
   subst z'
   exact ⟨o,hi,fun v q=>by rw [d] at q;cases q⟩
 keep:=fun i h h' st q=>by
  obtain ⟨⟨old,he⟩,o,hi,r⟩:=st
  exact ⟨⟨old,q e (by simp) _ he⟩,o,q it (by simp) o hi,r⟩
 item:=by
  intro X hP hw hK hc i pins s σ H E I hf st hg
  subst hP hw hK
  obtain ⟨xs,x,hq,hx⟩:=hg
  obtain ⟨its,rv,p,hz⟩:=I.list hq
  obtain ⟨u,hu,ru⟩:=rv.get hx
  obtain ⟨⟨old,he⟩,hi⟩:=st
  obtain ⟨e0,e1,e2,e3,e4,e5⟩:=hf e (by simp)
  obtain ⟨f0,f1,f2,f3,f4,f5⟩:=hf it (by simp)
  have el:e < s.heap.objs.size:=Heap.lt_size he
  have il:it < s.heap.objs.size:=let ⟨_,z,_⟩:=hi;Heap.lt_size z
  refine wpAny_pyNext_enum_item he hi p.isList (x:=u) (by simpa using hu) hne fun h1 ho hi1 hT hsz hk=>?_
  obtain ⟨tk,htk⟩:∃ tk,tk=s.toks:=⟨_,rfl⟩
  rw [<-htk] at hT ⊢
  refine ⟨_,rfl,?_⟩
  refine wpAny_letOwnedTupleGo_enum ho fun h2 he2 hs2=>?_
  have hs2':Heap.SameBut e h1 h2:=hs2
  have old2:∀ b o,b ≠ e->b ≠ it->s.heap.get? b=some o->h2.get? b=some o:=fun b o hb hb' q=>hs2'.extBut b o hb (hk b o hb hb' q)
  have hT2:h2.get? s.heap.objs.size=some { cls:=.type "tuple", data:=.seq #[.int i tk,u] }:=hs2'.extBut _ _ (yz el) hT
  have nT:H s.heap.objs.size=none:=I.hok.fresh (zJ _)
  refine ⟨.ref s.heap.objs.size,upd H s.heap.objs.size (.tup [.int i,x]),?_,rfl,⟨_,x,nT,rfl,rfl,fun ys hy=>by rw [I.list_inj hy hq];exact hx⟩,⟨⟨u,by simpa using he2⟩,?_⟩,fun b hb=>?_⟩
  ·have nch:∀ b,b ∉ [e,it]->b ≠ e/\b ≠ it:=fun b hb=>⟨fun z=>hb (by simp [z]),fun z=>hb (by simp [z])⟩
   refine Inv.step (s:=s) (h':=h2) (g':=s.gens) (d':=s.drawn) (t':=tk + 1) (ch:=[e,it]) I (fun b hb=>?_) (fun b o _ _ hb q _=>old2 b o (nch b hb).1 (nch b hb).2 q) (fun b o _ _ hb q _=>⟨o.slots,old2 b o (nch b hb).1 (nch b hb).2 q⟩)
    (fun b o _ q n=>by rw [xN (zU (Heap.lt_size q))];exact n) (fun b o hb q=>⟨o,old2 b o (nch b hb).1 (nch b hb).2 q⟩)
    (fun b ys q=>by rw [xN (xJ q nT)];exact q) (fun b o v q=>by rw [xN (xJ q nT)];exact q) (fun b ps q=>⟨#[],by rw [xN (xJ q nT),q];simp⟩)
    (fun m hm=>by
     obtain ⟨o,es',ep,q,r⟩:=hm
     exact ⟨o,es',ep,old2 _ o (Ne.symm e1) (Ne.symm f1) q,r⟩) (fun b v q=>?_) I.bare
   ·rcases zR.mp hb with z | z
    ·subst z;exact ⟨e3,e1,e4,e5⟩
    ·have z':b=it:=by simpa using z
     subst z';exact ⟨f3,f1,f4,f5⟩
   ·by_cases hb:b=s.heap.objs.size
    ·subst hb
     rw [xH] at q
     cases q
     exact ⟨by show 2<=sizeLine;rw [sizeLine_eq];decide,[.int i tk,u],.cons ⟨_,rfl⟩ (.cons ru .nil),⟨_,hT2,rfl,_,rfl⟩⟩
    ·rw [xN hb] at q
     refine (I.hok b v q).stay (fun c ob hc qc=>old2 c ob ?_ ?_ qc) (fun c qc=>by rw [xN (xJ qc nT)];exact qc) fun c ys qc=>by rw [xN (xJ qc nT)];exact qc
     ·rcases hc with z | z
      ·subst z;exact xJ q e0
      ·exact xJ z e0
     ·rcases hc with z | z
      ·subst z;exact xJ q f0
      ·exact xJ z f0
  ·obtain ⟨o,q,r⟩:=hi1
   exact ⟨o,hs2'.extBut it o (Ne.symm hne) q,r⟩
  ·rcases zR.mp hb with z | z
   ·subst z;rw [xN (zU el)];exact e0
   ·have z':b=it:=by simpa using z
    subst z';rw [xN (zU il)];exact f0
 done:=by
  intro X hP hw hK hc i pins s σ H E I hf st hg
  subst hP hw hK
  obtain ⟨xs,hq,hx⟩:=hg
  obtain ⟨its,rv,p,hz⟩:=I.list hq
  obtain ⟨⟨old,he⟩,hi⟩:=st
  obtain ⟨f0,f1,f2,f3,f4,f5⟩:=hf it (by simp)
  have hl:=rv.length
  exact wpAny_pyNext_enum_end (I.ok.hd hc) he hi p.isList (by simp;omega) fun h' eb=>⟨rfl,I.turned (t':=s.toks) (fun b o hb e=>eb b o hb e) f0 f1 f3 f4 f5⟩
 self:=fun _ _ _ _ _ st h=>let ⟨⟨_,he⟩,_⟩:=st;wpAny_pyIter_enum he h
def iEnumL (K:PySem.W.Frag) (ta:TA):TI:=fun σ H R=>ta σ H fun vs H1=>∃ a,vs=[.ref a]/\(∃ xs,SqL K H1 a xs)/\R (IteL K a) H1
theorem pi_enumL {X:Cx}{a:Expr}{ta:TA} {p pos pos2:Pos}{es:List Expr}{k:Nat}{K:PySem.W.Frag} (hK:X.K=K) (hg:Gl X "enumerate") (hm:X.mg "enumerate" = none) (ha:PA X [a] ta) (hs:starEach [a] X.env=[(false,eval a X.env)]:=by rfl) :
  PI X (.Tuple es k pos2) (.Call (.Name "enumerate" p) [a] [] pos) (iEnumL K ta):=by
 subst hK
 intro pins s σ H R I h
 refine Call_ (ld_blt I hg hm boot_enumerate (PyProof.Rows.callWith_type1 (thn (ha pos pins s σ H _ I h) fun us s1 ⟨vs,H1,I1,r1,q1⟩=>?_) hs rfl))
 obtain ⟨l,e,⟨xs,hq⟩,q⟩:=q1
 subst e
 cases r1 with
 | cons r rr=>
  cases rr
  cases r
  obtain ⟨its,rv,p,hz⟩:=I1.list hq
  refine call_enumerate_list p.isList fun h' he hi hsz hk=>?_
  refine wpAny_pyIter_enum he ?_
  have I2:Inv X pins σ H1 { s1 with heap:=h' }:=I1.kept (t':=s1.toks) hk
  refine ⟨s1.heap.objs.size + 1,[s1.heap.objs.size + 1,s1.heap.objs.size],_,_,H1,rfl,I2,turn_enumL l _ _ (Nat.succ_ne_self _),⟨⟨_,he⟩,hi⟩,fun b hb=>?_,q⟩
  have hb':s1.heap.objs.size<=b:=by
   rcases zR.mp hb with z | z
   ·subst z;exact yl _
   ·have z':b=s1.heap.objs.size:=by simpa using z
    subst z';exact zJ _
  exact I1.fpOk hb' (I1.hok.fresh hb')
end L2
set_option Elab.async false
set_option linter.all false
set_option maxRecDepth 100000
set_option maxHeartbeats 4000000
namespace L2
open PySem PySem.Spec PyProof.Rows
def tyS (H:Hp):V->Option String
 | .non=>some "NoneType"
 | .bl _=>some "bool"
 | .int _=>some "int"
 | .str _=>some "str"
 | .ref a=>match H a with
  | some (.lst _)=>some "list"
  | some (.frz _ (.lst _))=>some "list"
  | some (.tup _)=>some "tuple"
  | some (.dK _)=>some "dict"
  | _=>none
 | _=>none
theorem tyS_of {K:PySem.W.Frag}{H:Hp}{x:V}{t:String} (h:tyS H x=some t):TyOf K H x (.type t):=by
 cases x with
 | non=>cases h;exact .non
 | bl b=>cases h;exact .bl b
 | int i=>cases h;exact .int i
 | str x=>cases h;exact .str x
 | ref a=>
  unfold tyS at h
  dsimp only at h
  split at h
  ·rename_i e;cases h;exact .lst e
  ·rename_i e;cases h;exact .frz e
  ·rename_i e;cases h;exact .tup e
  ·rename_i e;cases h;exact .dK e
  ·cases h
 | _=>cases h
theorem tyS_six {H:Hp}{x:V}{t:String} (h:tyS H x=some t):t = "NoneType" \/ t = "bool" \/ t = "int" \/ t = "str" \/ t = "list" \/ t = "tuple" \/ t = "dict" := by
 cases x with
 | ref a=>
  unfold tyS at h
  dsimp only at h
  split at h <;> cases h <;> simp
 | _=>cases h <;> simp
def isSub (t T:String):Bool:=t == T || (t == "bool" && T == "int")
theorem kit_of {K:PySem.W.Frag}{t T:String} (h:t = "NoneType" \/ t = "bool" \/ t = "int" \/ t = "str" \/ t = "list" \/ t = "tuple" \/ t = "dict") (hT:T = "int" \/ T = "bool" \/ T = "list" \/ T = "tuple"):yN K (.type t) (.type T)=some (isSub t T):=by
 rcases h with rfl | rfl | rfl | rfl | rfl | rfl | rfl <;> rcases hT with rfl | rfl | rfl | rfl <;> first | rfl | decide +kernel
section
variable {X:Cx}
theorem wU:CallR X (.builtin "isinstance") (fun xs H Q=>∃ x t T,xs=[x,.ty T]/\tyS H x=some t/\(T = "int" \/ T = "bool" \/ T = "list" \/ T = "tuple")/\Q (.bl (isSub t T)) H):=by
 intro pins s σ H xs us Q I r h
 obtain ⟨x,t,T,rfl,ht,hT,q⟩:=h
 obtain ⟨u,w',rfl,r1,r2⟩:=vals2 r
 cases r2
 exact isinst_ok I r1 (tyS_of ht) (kit_of (tyS_six ht) hT) fun tk=>⟨.bl _,H,I.tok tk,rfl,q⟩
theorem wY:OpR X (binaryOp .FloorDiv) (rI (fun _ j=>0 < j/\j < 2 ^ 200) fun i j=>.int (i / j)):=opI fun i j _ _ _ _ _ hc q=>by
 have e:i.fdiv j=i / j:=Int.fdiv_eq_ediv_of_nonneg _ (by omega)
 rw [<-e] at q
 refine floordiv_int (by omega) q (.inl (PyProof.noPylong_of_log2 ?_))
 have h0:j.natAbs ≠ 0:=by omega
 have h1:j.natAbs < 2 ^ 200:=by omega
 have:=(Nat.log2_lt h0).mpr h1
 omega
theorem op_neNil (hu:X.A.units + 64 < cLine):OpR X (compareOp .NotEq) (fun x y H Q=>∃ a b xs,x=.ref a/\y=.ref b/\SqL X.K H a xs/\SqL X.K H b []/\Q (.bl (!xs.isEmpty)) H):=by
 intro pins s σ H x y v u Q I rx ry h
 obtain ⟨a,b,xs,rfl,rfl,ha,hb,q⟩:=h
 cases rx;cases ry
 obtain ⟨its,r,p,_⟩:=I.list ha
 obtain ⟨its2,r2,p2,_⟩:=I.list hb
 cases r2
 cases r with
 | nil=>exact SeqAt.RcNeAt.lists (e:=fun _=>true) p.isList p2.isList rfl (by omega) (fun j h1=>absurd h1 (yq _)) _ _ _ _ ⟨.bl _,H,I,rfl,q⟩
 | cons r1 rr=>exact SeqAt.RcNeAt.lists_lengths p.isList p2.isList (by simp) (by omega) _ _ _ _ ⟨.bl _,H,I,rfl,q⟩
theorem op_eqUnit (hu:X.A.units + 64 < cLine):OpR X (compareOp .Eq) (fun x y H Q=>∃ a b xs,x=.ref a/\y=.ref b/\SqT X.K H a xs/\SqT X.K H b []/\Q (.bl xs.isEmpty) H):=by
 intro pins s σ H x y v u Q I rx ry h
 obtain ⟨a,b,xs,rfl,rfl,ha,hb,q⟩:=h
 cases rx;cases ry
 obtain ⟨its,r,p,_⟩:=I.tuple ha
 obtain ⟨its2,r2,p2,_⟩:=I.tuple hb
 cases r2
 have q':Q (.bl ((List.range (min its.toArray.size ([]:List Value).toArray.size)).all (fun _=>true) && its.toArray.size == ([]:List Value).toArray.size)) H:=by
  cases r with
  | nil=>simpa using q
  | cons r1 rr=>simpa using q
 exact SeqAt.RcAt.tuples (e:=fun _=>true) p p2 (by omega) (fun j h1 h2=>absurd h2 (yq _)) _ _ _ _ ⟨.bl _,H,I,rfl,q'⟩
variable {K:PySem.W.Frag}
theorem xw {es:List Expr}{k:Nat}{t:TGs}{n:Nat}{pos:Pos} (hK:X.K=K) (hc:X.calm=true) (h:PGs X es t)
  (hn:(assignEach es X.env).length=n:=by rfl) (hst:(assignEach es X.env).findIdx? (·.1)=none:=by rfl):PG X (.Tuple es k pos) (gTup K n t):=by subst hK;exact pg_tup hc h hn hst
theorem pi_list' {tg l:Expr}{tl:TE} (hK:X.K=K) (hl:PE X l tl):PI X tg l (iList K tl):=by subst hK;exact pi_list hl
theorem pi_tup'' {tg l:Expr}{tl:TE} (hK:X.K=K) (hl:PE X l tl):PI X tg l (iTup K tl):=by subst hK;exact pi_tup hl
theorem xY (hK:X.K=K):IxR X (rIxL K):=by subst hK;exact ix_list
theorem xT (hK:X.K=K):IxR X (rIxT K):=by subst hK;exact ix_tup
theorem sl_tup' (hK:X.K=K):SlR X (rSlT K):=by subst hK;exact sl_tup
theorem op_in_seq' (hK:X.K=K):OpR X (compareOp .In) (rIn K false):=by subst hK;exact op_in_seq
theorem xR (hK:X.K=K):CallR X (.builtin "len") (fun xs H Q=>∃ p ys,xs=[.ref p]/\(SqL K H p ys\/SqT K H p ys)/\Q (.int ys.length) H):=by subst hK;exact call_len_seq
theorem call_list_of' (hK:X.K=K):CallR X (.type "list") (fun xs H Q=>∃ p ys,xs=[.ref p]/\(SqL K H p ys\/SqT K H p ys)/\∀ l,H l=none->Q (.ref l) (upd H l (.lst ys))):=by subst hK;exact call_list_of
end
end L2
namespace L2
open PySem PySem.Spec PyProof.Rows
theorem get_list {X:Cx}{K:PySem.W.Frag} (hK:X.K=K):PGet X (fun o i H Q=>∃ p xs v,∃ k:Nat,o=.ref p/\i=.int k/\SqL K H p xs/\xs[k]?=some v/\Q v H):=by
 subst hK
 intro pins s σ H o i ov iv Q I ro ri h
 obtain ⟨p,xs,v,k,rfl,rfl,hq,hv,q⟩:=h
 cases ro
 obtain ⟨t,rfl⟩:=ri
 obtain ⟨its,r,pl,hz⟩:=I.list hq
 obtain ⟨w,ew,rw'⟩:=r.get hv
 have hk:k < xs.length:=(zB.mp hv).1
 have hn:=line63
 exact wpAny_getItem_list pl.isList (by omega) (by omega) (by simpa using ew) ⟨v,H,I,rw',q⟩
end L2
set_option Elab.async false
set_option linter.all false
set_option maxRecDepth 100000
set_option maxHeartbeats 4000000
namespace SmSort
open PySem PySem.W PyProof.Rows
def KOK {α:Type} (n:Nat) (c:Nat->Nat->Bool):KasT α->(α->Prop)->Prop
 | .ret a,P=>P a
 | .ask i j k,P=>i < n/\j < n/\KOK n c (k (c i j)) P
theorem KOK.bind {α β:Type}{n:Nat}{c:Nat->Nat->Bool}{f:α->KasT β}{P:β->Prop}:∀ (t:KasT α),KOK n c t (fun a=>KOK n c (f a) P)->KOK n c (t.bind f) P
 | .ret a,h=>h
 | .ask i j k,h=>⟨h.1,h.2.1,KOK.bind (k (c i j)) h.2.2⟩
theorem KOK.mono {α:Type}{n:Nat}{c:Nat->Nat->Bool}{P P':α->Prop} (hp:∀ a,P a->P' a):∀ (t:KasT α),KOK n c t P->KOK n c t P'
 | .ret a,h=>hp a h
 | .ask i j k,h=>⟨h.1,h.2.1,KOK.mono hp (k (c i j)) h.2.2⟩
theorem KOK.wp {α:Type}{n:Nat}{c:Nat->Nat->Bool}{P:α->Prop}{Q:α->Shared->Prop}{cmp:Nat->Nat->(Bool->Shared->Prop)->Shared->Prop}{s:Shared}
  (hc:∀ i j C,i < n->j < n->C (c i j) s->cmp i j C s) (hq:∀ a,P a->Q a s):∀ (t:KasT α),KOK n c t P->t.kasWp cmp Q s
 | .ret a,h=>hq a h
 | .ask i j k,h=>hc i j _ h.1 h.2.1 (KOK.wp hc hq (k (c i j)) h.2.2)
section
variable {n:Nat}{f:Nat->Int}
def at' (p:Array Nat) (i:Nat):Nat:=(p[i]?).getD 0
theorem xy (p:Array Nat) (i:Nat):p.getD i 0=at' p i:=by unfold at';simp
def g (f:Nat->Int) (p:Array Nat) (i:Nat):Int:=f (at' p i)
def Pm (n:Nat) (p:Array Nat):Prop:=p.Perm (List.toArray (List.range n))
theorem Pm.size {p:Array Nat} (h:Pm n p):p.size=n:=by rw [Array.Perm.size_eq h];simp
theorem Pm.lt {p:Array Nat} (h:Pm n p) {i:Nat} (hi:i < n):at' p i < n:=by
 have hs:=h.size
 have e:at' p i=p[i]'(by omega):=by unfold at';simp [hs,hi]
 have hm:p[i]'(by omega) ∈ p:=Array.getElem_mem _
 have hm':=(Array.Perm.mem_iff h).mp hm
 rw [e]
 simpa using hm'
theorem Pm.rev {p:Array Nat} (h:Pm n p) (i j:Nat):Pm n (kas_rev p i j):=(mirror_perm p i j _).trans h
theorem Pm.bub {p:Array Nat} (h:Pm n p) (k d:Nat):Pm n (bubble p k d):=(bubble_perm p k d).trans h
theorem g_rev {p:Array Nat}{i j:Nat} (hj:j<=p.size) (k:Nat):g f (kas_rev p i j) k=if i<=k/\k < j then g f p (i + j - 1 - k) else g f p k:=by
 unfold g at' kas_rev
 rw [getElem?_mirror_all hj k]
 split <;> rfl
theorem g_bub {p:Array Nat}{src d:Nat} (hs:src < p.size) (hd:d<=src) (k:Nat):g f (bubble p src d) k=if k=src - d then g f p src else if src - d < k/\k<=src then g f p (k - 1) else g f p k:=by
 unfold g at'
 rw [getElem?_bubble hs d hd k]
 split
 ·rfl
 ·split <;> rfl
def Up (f:Nat->Int) (p:Array Nat) (k:Nat):Prop:=∀ i j,i<=j->j < k->g f p i<=g f p j
def Dn (f:Nat->Int) (p:Array Nat) (k:Nat):Prop:=∀ i j,i<=j->j < k->g f p j<=g f p i
def cf (f:Nat->Int) (i j:Nat):Bool:=decide (f i < f j)
theorem asc_ok {p:Array Nat} (hp:Pm n p):∀ (q m:Nat),1<=m->m + q<=n->Up f p m->KOK n (cf f) (kas_asc p q m) (fun m'=>m<=m'/\m'<=m + q/\Up f p m'/\(m' < m + q->g f p m' < g f p (m' - 1)))
 | 0,m,_,_,hu=>⟨zJ _,zJ _,hu,fun h=>absurd h (ze _)⟩
 | q + 1,m,h1,h2,hu=>by
  unfold kas_asc
  refine ⟨by rw [xy];exact hp.lt (by omega),by rw [xy];exact hp.lt (by omega),?_⟩
  rw [xy,xy]
  by_cases hc:g f p m < g f p (m - 1)
  ·have e:cf f (at' p m) (at' p (m - 1))=true:=decide_eq_true hc
   rw [e];dsimp only;rw [if_pos rfl]
   exact ⟨zJ _,by omega,hu,fun _=>hc⟩
  ·have e:cf f (at' p m) (at' p (m - 1))=false:=decide_eq_false hc
   rw [e];dsimp only;rw [if_neg zG]
   refine KOK.mono (fun m' h=>⟨by omega,by omega,h.2.2.1,fun z=>h.2.2.2 (by omega)⟩) _ (asc_ok hp q (m + 1) (by omega) (by omega) fun i j hij hj=>?_)
   by_cases hjm:j < m
   ·exact hu i j hij hjm
   ·have ej:j=m:=by omega
    subst ej
    by_cases hi:i=j
    ·subst hi;omega
    ·have:=hu i (j - 1) (by omega) (by omega)
     omega
def Blk (f:Nat->Int) (p:Array Nat) (m q:Nat):Prop:=∀ i,m<=i + (q + 1)->i < m->g f p i=g f p (m - 1)
theorem rev_same {p:Array Nat} (hp:Pm n p) {m q:Nat} (hm:m<=n) (hq:q + 1<=m) (hb:Blk f p m q) (k:Nat):g f (kas_rev p (m - (q + 1)) m) k=g f p k:=by
 rw [g_rev (by rw [hp.size];exact hm)]
 split
 ·rename_i h
  rw [hb _ (by omega) (by omega),hb k (by omega) (by omega)]
 ·rfl
theorem desc_ok:∀ (t:Nat) (p:Array Nat) (m q:Nat),Pm n p->1<=m->m + t<=n->q + 1<=m->Dn f p m->Blk f p m q ->
  KOK n (cf f) (kas_desc t p m q) (fun r=>Pm n r.1/\m<=r.2.1/\r.2.1<=n/\r.2.2 + 1<=r.2.1/\Dn f r.1 r.2.1/\Blk f r.1 r.2.1 r.2.2)
 | 0,p,m,q,hp,h1,h2,h3,hd,hb=>⟨hp,zJ _,by simpa using h2,h3,hd,hb⟩
 | t + 1,p,m,q,hp,h1,h2,h3,hd,hb=>by
  unfold kas_desc
  refine ⟨by rw [xy];exact hp.lt (by omega),by rw [xy];exact hp.lt (by omega),?_⟩
  rw [xy,xy]
  by_cases hc:g f p m < g f p (m - 1)
  ·have e:cf f (at' p m) (at' p (m - 1))=true:=decide_eq_true hc
   rw [e];dsimp only;rw [if_pos rfl]
   have step:∀ p':Array Nat,Pm n p'->(∀ k,g f p' k=g f p k)->KOK n (cf f) (kas_desc t p' (m + 1) 0) (fun r=>Pm n r.1/\m<=r.2.1/\r.2.1<=n/\r.2.2 + 1<=r.2.1/\Dn f r.1 r.2.1/\Blk f r.1 r.2.1 r.2.2):=fun p' hp' hg=>by
    refine KOK.mono (fun r h=>⟨h.1,by omega,h.2.2⟩) _ (desc_ok t p' (m + 1) 0 hp' (by omega) (by omega) (by omega) (fun i j hij hj=>?_) fun i hi hi'=>?_)
    ·rw [hg,hg]
     by_cases hjm:j < m
     ·exact hd i j hij hjm
     ·have ej:j=m:=by omega
      subst ej
      by_cases hi:i=j
      ·subst hi;omega
      ·have:=hd i (j - 1) (by omega) (by omega)
       omega
    ·have:i=m + 1 - 1:=by omega
     rw [this]
   split
   ·exact step _ (hp.rev _ _) (rev_same hp (by omega) h3 hb)
   ·exact step _ hp fun _=>rfl
  ·have e:cf f (at' p m) (at' p (m - 1))=false:=decide_eq_false hc
   rw [e];dsimp only;rw [if_neg zG]
   refine ⟨hp.lt (by omega),hp.lt (by omega),?_⟩
   by_cases hc2:g f p (m - 1) < g f p m
   ·have e2:cf f (at' p (m - 1)) (at' p m)=true:=decide_eq_true hc2
    rw [e2];dsimp only;rw [if_pos rfl]
    exact ⟨hp,zJ _,by show m<=n;omega,h3,hd,hb⟩
   ·have e2:cf f (at' p (m - 1)) (at' p m)=false:=decide_eq_false hc2
    rw [e2];dsimp only;rw [if_neg zG]
    have eq:g f p m=g f p (m - 1):=by omega
    refine KOK.mono (fun r h=>⟨h.1,by omega,h.2.2⟩) _ (desc_ok t p (m + 1) (q + 1) hp (by omega) (by omega) (by omega) (fun i j hij hj=>?_) fun i hi hi'=>?_)
    ·by_cases hjm:j < m
     ·exact hd i j hij hjm
     ·have ej:j=m:=by omega
      subst ej
      by_cases hi:i=j
      ·subst hi;omega
      ·have:=hd i (j - 1) (by omega) (by omega)
       omega
    ·rw [show m + 1 - 1=m from rfl]
     by_cases hi2:i=m
     ·rw [hi2]
     ·rw [hb i (by omega) (by omega),eq]
theorem tail3_ok {p:Array Nat}{m:Nat} (hp:Pm n p) (h1:1<=m) (hm:m<=n) (hd:Dn f p m):KOK n (cf f) (kas_tail3 m n p) (fun r=>Pm n r.2/\r.1<=n/\1<=r.1/\Up f r.2 r.1):=by
 unfold kas_tail3
 have hp':=hp.rev 0 m
 refine KOK.bind _ (KOK.mono (fun m' h=>⟨hp',by omega,by omega,h.2.2.1⟩) _ (asc_ok hp' (n - m) m h1 (by omega) fun i j hij hj=>?_))
 rw [g_rev (by rw [hp.size];exact hm),g_rev (by rw [hp.size];exact hm),if_pos ⟨by omega,by omega⟩,if_pos ⟨by omega,by omega⟩]
 exact hd _ _ (by omega) (by omega)
theorem descPart_ok {p:Array Nat}{m:Nat} (hp:Pm n p) (h1:1<=m) (hm:m < n) (hd:Dn f p (m + 1)):KOK n (cf f) (kas_descPart m n p) (fun r=>Pm n r.2/\r.1<=n/\1<=r.1/\Up f r.2 r.1):=by
 unfold kas_descPart
 refine KOK.bind _ (KOK.mono (fun r h=>?_) _ (desc_ok (n - (m + 1)) p (m + 1) 0 hp (by omega) (by omega) (by omega) hd fun i hi hi'=>by rw [show i=m + 1 - 1 by omega]))
 obtain ⟨a1,a2,a3,a4,a5,a6⟩:=h
 split
 ·exact tail3_ok (a1.rev _ _) (by omega) a3 fun i j hij hj=>by
   rw [rev_same a1 a3 a4 a6,rev_same a1 a3 a4 a6]
   exact a5 i j hij hj
 ·exact tail3_ok a1 (by omega) a3 a5
theorem count_ok {p:Array Nat} (hn:1<=n) (hp:Pm n p):KOK n (cf f) (kas_count n p) (fun r=>Pm n r.2/\r.1<=n/\1<=r.1/\Up f r.2 r.1):=by
 unfold kas_count
 refine KOK.bind _ (KOK.mono (fun m h=>?_) _ (asc_ok hp (n - 1) 1 (zJ _) (by omega) fun i j hij hj=>by rw [show i=j by omega];omega))
 obtain ⟨a1,a2,a3,a4⟩:=h
 split
 ·exact ⟨hp,by omega,a1,a3⟩
 ·rename_i hne
  have hlt:m < n:=by
   have:¬ m=n:=by simpa using hne
   omega
  have a4':=a4 (by omega)
  split
  ·rename_i hm1
   refine ⟨by rw [xy];exact hp.lt (by omega),by rw [xy];exact hp.lt (by omega),?_⟩
   rw [xy,xy]
   by_cases hc:g f p 0 < g f p (m - 1)
   ·have e:cf f (at' p 0) (at' p (m - 1))=true:=decide_eq_true hc
    rw [e];dsimp only;rw [if_pos rfl]
    exact ⟨hp,by omega,a1,a3⟩
   ·have e:cf f (at' p 0) (at' p (m - 1))=false:=decide_eq_false hc
    rw [e];dsimp only;rw [if_neg zG]
    have all:∀ k,k < m->g f p k=g f p 0:=fun k hk=>by
     have:=a3 0 k (by omega) hk
     have:=a3 k (m - 1) (by omega) (by omega)
     omega
    have gr:∀ k,g f (kas_rev p 0 m) k=g f p k:=fun k=>by
     rw [g_rev (by rw [hp.size];omega)]
     split
     ·rw [all _ (by omega),all k (by omega)]
     ·rfl
    refine descPart_ok (hp.rev _ _) a1 hlt fun i j hij hj=>?_
    rw [gr,gr]
    by_cases hjm:j < m
    ·rw [all i (by omega),all j hjm];omega
    ·have ej:j=m:=by omega
     subst ej
     by_cases hi:i=j
     ·subst hi;omega
     ·have:=all i (by omega)
      have:=all (j - 1) (by omega)
      omega
  ·refine descPart_ok hp a1 hlt fun i j hij hj=>?_
   have em:m=1:=by omega
   subst em
   by_cases hi:i=j
   ·subst hi;omega
   ·have e1:i=0:=by omega
    have e2:j=1:=by omega
    subst e1 e2
    have:g f p 1 < g f p 0:=a4'
    omega
theorem place_ok {p:Array Nat}{k:Nat} (hp:Pm n p) (hk:k < n) (hu:Up f p k):∀ (t l r:Nat),l<=r->r<=k->r<=l + t->(∀ i,i < l->g f p i<=g f p k)->(∀ i,r<=i->i < k->g f p k < g f p i) ->
  KOK n (cf f) (kas_place p k t l r) (fun l'=>l'<=k/\(∀ i,i < l'->g f p i<=g f p k)/\∀ i,l'<=i->i < k->g f p k < g f p i)
 | 0,l,r,h1,h2,h3,ha,hb=>⟨by omega,ha,fun i hi hi'=>hb i (by omega) hi'⟩
 | t + 1,l,r,h1,h2,h3,ha,hb=>by
  unfold kas_place
  split
  ·exact ⟨by omega,ha,fun i hi hi'=>hb i (by omega) hi'⟩
  ·rename_i hlr
   refine ⟨by rw [xy];exact hp.lt hk,by rw [xy];exact hp.lt (by omega),?_⟩
   rw [xy,xy]
   by_cases hc:g f p k < g f p ((l + r) / 2)
   ·have e:cf f (at' p k) (at' p ((l + r) / 2))=true:=decide_eq_true hc
    rw [e];dsimp only;rw [if_pos rfl]
    refine place_ok hp hk hu t l ((l + r) / 2) (by omega) (by omega) (by omega) ha fun i hi hi'=>?_
    have:=hu ((l + r) / 2) i (by omega) hi'
    omega
   ·have e:cf f (at' p k) (at' p ((l + r) / 2))=false:=decide_eq_false hc
    rw [e];dsimp only;rw [if_neg zG]
    refine place_ok hp hk hu t ((l + r) / 2 + 1) r (by omega) (by omega) (by omega) (fun i hi=>?_) hb
    have:=hu i ((l + r) / 2) (by omega) (by omega)
    omega
theorem bin_ok:∀ (t:Nat) (p:Array Nat) (k:Nat),Pm n p->k + t=n->Up f p k->KOK n (cf f) (kas_bin t p k) (fun p'=>Pm n p'/\Up f p' n)
 | 0,p,k,hp,hk,hu=>⟨hp,by rw [<-hk];exact hu⟩
 | t + 1,p,k,hp,hk,hu=>by
  unfold kas_bin
  refine KOK.bind _ (KOK.mono (fun l h=>?_) _ (place_ok hp (by omega) hu k 0 k (by omega) (by omega) (by omega) (fun i hi=>absurd hi (yq _)) fun i hi hi'=>absurd hi' (by omega)))
  obtain ⟨a1,a2,a3⟩:=h
  refine bin_ok t _ (k + 1) (hp.bub _ _) (by omega) fun i j hij hj=>?_
  have hs:k < p.size:=by rw [hp.size];omega
  rw [g_bub hs (by omega),g_bub hs (by omega)]
  have el:k - (k - l)=l:=by omega
  rw [el]
  by_cases hil:i=l
  ·rw [if_pos hil]
   by_cases hjl:j=l
   ·rw [if_pos hjl];omega
   ·rw [if_neg hjl,if_pos ⟨by omega,by omega⟩]
    have:=a3 (j - 1) (by omega) (by omega)
    omega
  ·rw [if_neg hil]
   by_cases hi2:l < i/\i<=k
   ·rw [if_pos hi2]
    rw [if_neg (by omega),if_pos ⟨by omega,by omega⟩]
    exact hu _ _ (by omega) (by omega)
   ·rw [if_neg hi2]
    have hi3:i < l:=by omega
    by_cases hjl:j=l
    ·rw [if_pos hjl];exact a2 i hi3
    ·rw [if_neg hjl]
     by_cases hj2:l < j/\j<=k
     ·rw [if_pos hj2];exact hu _ _ (by omega) (by omega)
     ·rw [if_neg hj2];exact hu _ _ hij (by omega)
theorem sort_ok (hn:1<=n):KOK n (cf f) (kas_sort n) (fun p=>Pm n p/\Up f p n):=by
 unfold kas_sort
 refine KOK.bind _ (KOK.mono (fun r h=>?_) _ (count_ok hn (show Pm n (List.toArray (List.range n)) from Array.Perm.refl _)))
 obtain ⟨a1,a2,a3,a4⟩:=h
 split
 ·have e:max r.1 1=r.1:=by omega
  rw [e]
  exact bin_ok _ _ _ a1 (by omega) a4
 ·have e:r.1=n:=by omega
  exact ⟨a1,by rw [<-e];exact a4⟩
end
end SmSort
set_option Elab.async false
set_option linter.all false
set_option maxRecDepth 100000
set_option maxHeartbeats 4000000
namespace SmSort
def lx:List Int->List Int->Bool
 | [],[]=>false
 | [],_ :: _=>true
 | _ :: _,[]=>false
 | x :: xs,y :: ys=>if x=y then lx xs ys else decide (x < y)
theorem lx_irr:∀ r:List Int,lx r r=false
 | []=>rfl
 | x :: xs=>by unfold lx;rw [if_pos rfl];exact lx_irr xs
theorem lx_tr:∀ {a b c:List Int},lx a b=true->lx b c=true->lx a c=true
 | [],[],_,h,_=>by cases h
 | [],_ :: _,[],_,h=>by cases h
 | [],_ :: _,_ :: _,_,_=>rfl
 | _ :: _,[],_,h,_=>by cases h
 | _ :: _,_ :: _,[],_,h=>by cases h
 | x :: xs,y :: ys,z :: zs,h,h'=>by
  unfold lx at h h' ⊢
  split at h
  ·split at h'
   ·rename_i e1 e2;rw [if_pos (e1.trans e2)];exact lx_tr h h'
   ·rename_i e1 e2
    simp only [decide_eq_true_eq] at h'
    rw [if_neg (by omega)];simp only [decide_eq_true_eq];omega
  ·simp only [decide_eq_true_eq] at h
   split at h'
   ·rename_i e1 e2
    rw [if_neg (by omega)];simp only [decide_eq_true_eq];omega
   ·simp only [decide_eq_true_eq] at h'
    rw [if_neg (by omega)];simp only [decide_eq_true_eq];omega
theorem lx_tot:∀ {a b:List Int},lx a b=false->lx b a=false->a=b
 | [],[],_,_=>rfl
 | [],_ :: _,h,_=>by cases h
 | _ :: _,[],_,h=>by cases h
 | x :: xs,y :: ys,h,h'=>by
  unfold lx at h h'
  split at h
  ·rename_i e;subst e;rw [if_pos rfl] at h';rw [lx_tot h h']
  ·rename_i e
   rw [if_neg fun z=>e z.symm] at h'
   simp only [decide_eq_false_iff_not] at h h'
   omega
def rk (rs:List (List Int)) (r:List Int):Int:=((rs.countP fun x=>lx x r:Nat):Int)
theorem countP_lt {α:Type}{p q:α->Bool}{a:α}:∀ {l:List α},(∀ x,p x=true->q x=true)->a ∈ l->p a=false->q a=true->l.countP p < l.countP q
 | [],_,h,_,_=>by cases h
 | x :: l,hpq,h,h1,h2=>by
  have hm:l.countP p<=l.countP q:=List.countP_mono_left fun x _=>hpq x
  rcases zR.mp h with rfl | h
  ·rw [List.countP_cons_of_neg (by rw [h1];exact zG),List.countP_cons_of_pos h2];omega
  ·have:=countP_lt hpq h h1 h2
   rw [List.countP_cons,List.countP_cons]
   cases e:p x with
   | true=>rw [hpq x e];simp;omega
   | false=>cases e2:q x <;> simp <;> omega
theorem rk_lt {rs:List (List Int)}{a b:List Int} (ha:a ∈ rs):decide (rk rs a < rk rs b)=lx a b:=by
 unfold rk
 cases h:lx a b with
 | true=>
  have:=countP_lt (p:=fun x=>lx x a) (q:=fun x=>lx x b) (fun x hx=>lx_tr hx h) ha (lx_irr a) h
  simp only [decide_eq_true_eq];omega
 | false=>
  have hm:rs.countP (fun x=>lx x b)<=rs.countP (fun x=>lx x a):=List.countP_mono_left fun x _ hx=>by
   cases h':lx b a with
   | true=>exact lx_tr hx h'
   | false=>rw [lx_tot h h'];exact hx
  simp only [decide_eq_false_iff_not];omega
end SmSort
namespace L2
open PySem PySem.Spec PyProof.Rows PySem.W SmSort
theorem ObjOk.at {P:Program}{w:World}{H:Hp}{h:Heap}{a:Addr}{o:HO} (x:ObjOk P w H h a o):∃ ob,h.get? a=some ob:=by
 cases o with
 | lst xs=>obtain ⟨_,_,_,_,e⟩:=x;exact ⟨_,e⟩
 | tup xs=>obtain ⟨_,_,_,ob,e,_⟩:=x;exact ⟨_,e⟩
 | dK kvs=>obtain ⟨_,_,_,_,o,_,_,e,_⟩:=x;exact ⟨_,e⟩
 | dT kvs=>obtain ⟨_,_,_,_,o,_,_,e,_⟩:=x;exact ⟨_,e⟩
 | set S n=>obtain ⟨o,_,_,_,e,_⟩:=x;exact ⟨_,e⟩
 | ins C dx fs=>obtain ⟨_,_,_,e,_⟩:=x;exact ⟨_,e⟩
 | own y=>obtain ⟨_,e⟩:=x;exact ⟨_,e⟩
 | xd fs=>obtain ⟨_,⟨_,_,_,e,_⟩,_⟩:=x;exact ⟨_,e⟩
 | rng lo hi=>obtain ⟨_,_,_,e⟩:=x;exact ⟨_,e⟩
 | frz ob u=>obtain ⟨e,_⟩:=x;exact ⟨_,e⟩
 | tbl ps=>exact ⟨_,(show h.get? a=some _ from x)⟩
 | met f y=>exact ⟨_,(show h.get? a=some _ from x)⟩
 | ext φ=>obtain ⟨_,⟨_,e⟩,_⟩:=x;exact ⟨_,e⟩
section
variable {X:Cx}{pins:List (Addr × Obj)}{σ:St}{H:Hp}{s:Shared}
theorem Inv.sortedTo {m:Str->Option Value}{h':Heap}{D:Addr}{its:List Value}{c:Nat}{xs:List V} (I:Inv X pins σ H s) (F0:Fr X.base X.env.locals s.heap m) (F:Fr X.base X.env.locals h' m)
  (N:News X.base X.env.locals h' ((D,listOf its.toArray c) :: allNews X.base s.heap X.env.locals)) (lt:∀ q ∈ allNews X.base s.heap X.env.locals,q.1 < D) (hv:Vals xs its) (hz:xs.length<=sizeLine) :
  Inv X pins σ (upd H D (.lst xs)) { s with heap:=h' }/\H D=none:=by
 obtain ⟨eD,nL,nb⟩:=N (D,listOf its.toArray c) (.head _)
 have oldD:s.heap.get? D=none:=by
  cases q:s.heap.get? D with
  | none=>rfl
  | some o=>exact absurd (lt (D,o) (mem_allNews nL nb q)) (ze _)
 have hD:H D=none:=by
  cases q:H D with
  | none=>rfl
  | some u=>
   obtain ⟨ob,e⟩:=(I.hok D u q).at
   rw [oldD] at e;cases e
 have keep:∀ b o,b ≠ X.env.locals->s.heap.get? b=some o->h'.get? b=some o:=fun b o hb e=>by
  cases q:X.base.get? b with
  | some u=>
   have:=I.bk b u q
   rw [e] at this;cases this
   exact F.keep b _ q
  | none=>exact (N (b,o) (.tail _ (mem_allNews hb q e))).1
 have neD:∀ b o,s.heap.get? b=some o->b ≠ D:=fun b o e z=>by rw [z,oldD] at e;cases e
 have neT:∀ b u,H b=some u->b ≠ D:=fun b u e z=>by rw [z,hD] at e;cases e
 refine ⟨I.step (g':=s.gens) (t':=s.toks) (d':=s.drawn) (ch:=[]) (fun _ z=>nomatch z) (fun b o hb _ _ e _=>keep b o hb e) (fun b o hb _ _ e _=>⟨o.slots,keep b o hb e⟩) (fun b o _ e n=>by rw [xN (neD b o e)];exact n) (fun b o _ e=>?_)
  (fun b ys e=>by rw [xN (neT b _ e)];exact e) (fun b o u e=>by rw [xN (neT b _ e)];exact e) (fun b ps e=>⟨#[],by rw [xN (neT b _ e),e,Array.append_empty]⟩) (fun m' hm=>?_) (fun b u e=>?_) I.bare,hD⟩
 ·by_cases hb:b=X.env.locals
  ·obtain ⟨o',_,_,q,_⟩:=F.ns
   exact ⟨o',by rw [hb];exact q⟩
  ·exact ⟨o,keep b o hb e⟩
 ·obtain ⟨o1,es1,ep1,e1,d1,k1,f1⟩:=hm
  obtain ⟨o2,es2,ep2,e2,d2,k2,f2⟩:=F0.ns
  rw [e1] at e2;cases e2
  rw [d1] at d2;cases d2
  obtain ⟨o3,es3,ep3,e3,d3,k3,f3⟩:=F.ns
  exact ⟨o3,es3,ep3,e3,d3,k3,fun name=>(f3 name).trans ((f2 name).symm.trans (f1 name))⟩
 ·by_cases hb:b=D
  ·subst hb;rw [xH] at e;cases e
   exact ⟨hz,its,c,hv,eD⟩
  ·rw [xN hb] at e
   refine (I.hok b u e).stay (fun c v hc q=>keep c v (fun z=>?_) q) (fun c q=>by rw [xN (neT c _ q)];exact q) fun c ys q=>by rw [xN (neT c _ q)];exact q
   rcases hc with rfl | hc
   ·rw [z,I.free] at e;cases e
   ·rw [z,I.free] at hc;cases hc
end
section
variable {prog:Program}{w:World}{A:Around}{E:Value->Shared->Prop}{s:Shared}
theorem sort_short {a:Addr}{its:List Value}{k:Nat}{P:PySem.Fin->Shared->Prop} (hx:s.heap.get? a=some (seqObj "list" its.toArray k)) (few:its.length < 2)
  (done:P (.done (.ret .none)) { s with heap:=sortedHeap s.heap a its its.toArray }):wpAny (model prog w) A (Builtin.«list.sort» ⟨[.ref a],[]⟩) P E s:=by
 have here:a < s.heap.objs.size:=Heap.lt_size hx
 have line:its.length<=sizeLine:=by rw [sizeLine_eq];omega
 rw [list_sort_plain]
 obtain ⟨e1,at1⟩:∃ e1,(s.heap.update a (Obj.mapSeq fun _=>(#[]:Array Value))).get? a=some (seqObj "list" #[] e1):=⟨_,get?_update_seq hx (fun _=>#[])⟩
 refine wpAny_bind (listItems_at hx rfl (wpAny_bind (listUpdate_at hx rfl (wpAny_bind (seqEpoch_at at1 rfl (wpAny_bind (wpAny_newTuple (wpAny_bind (wpAny_newList (wpAny_holding ?_) (zb _))) line))))
  (by rw [zQ];exact line) (zb _))))
 have at2:(((s.heap.update a (Obj.mapSeq fun _=>(#[]:Array Value))).push (seqObj "tuple" its.toArray 0)).push (seqObj "list" #[] 0)).get? a=some (seqObj "list" #[] e1):=
  Heap.get?_push_of_some _ (Heap.get?_push_of_some _ at1)
 show wpAny (model prog w) A _ P E { s with heap:=((s.heap.update a (Obj.mapSeq fun _=>(#[]:Array Value))).push (seqObj "tuple" its.toArray 0)).push (seqObj "list" #[] 0) }
 have less:its.toArray.size < 2:=by rw [zQ];exact few
 have snds:(arrOf (SortSt.mk' general' (its.toArray.zip its.toArray) #[] 7 none)).map (·.2)=its.toArray:=by
  show (its.toArray.zip its.toArray).map (·.2)=its.toArray
  match its,few with
  | [],_=>simp
  | [_],_=>simp
 dsimp only
 rw [if_pos less,if_pos less]
 refine wpAny_bind (wpAny_pure ?_)
 rw [StateT.run_pure]
 refine wpAny_bind (wpAny_pure ?_)
 dsimp only
 refine wpAny_bind (seqEpoch_at at2 rfl (wpAny_bind (listUpdate_at at2 rfl ?_ (zb _) (by rw [snds,zQ];omega))))
 simp only [bne_self_eq_false,Bool.false_eq_true,if_false]
 rw [snds]
 exact wpAny_pure done
theorem sorted_short {l:Addr}{its:List Value}{Q:Value->Shared->Prop} (hl:s.heap.IsList l its.toArray) (few:its.length < 2)
  (done:Q (.ref (s.heap.objs.size + 1)) { s with heap:=sortedAll s.heap its its.toArray }):wpAny (model prog w) A (call (.builtin "sorted") [.ref l]) Q E s:=by
 have line:its.length<=sizeLine:=by rw [sizeLine_eq];omega
 refine Calls.call_function_entry kind_sorted plain_sorted entry_sorted (args_sorted1 _) ?_
 unfold Builtin.«sorted»
 refine wpAny_bind (m:=checkCount "sorted" 1 1 _) (wpAny_pure (wpAny_bind (collect_list hl (wpAny_bind (wpAny_newList ?_ line)) line)))
 have sz:((s.heap.push (seqObj "list" #[] 0)).update s.heap.objs.size (Obj.mapSeq (· ++ its.toArray))).objs.size=s.heap.objs.size + 1:=by rw [Heap.size_update,size_push']
 have atL:(((s.heap.push (seqObj "list" #[] 0)).update s.heap.objs.size (Obj.mapSeq (· ++ its.toArray))).push (seqObj "list" its.toArray 0)).get? (s.heap.objs.size + 1)=some (seqObj "list" its.toArray 0):=by
  rw [<-sz];exact Heap.get?_push_size _ rfl
 show wpAny _ _ _ _ _ { s with heap:=((s.heap.push (seqObj "list" #[] 0)).update s.heap.objs.size (Obj.mapSeq (· ++ its.toArray))).push (seqObj "list" its.toArray 0) }
 rw [sz]
 exact wpAny_bind (wpAny_holding (wpAny_call_entry slot_list_sort ⟨_,atL,rfl⟩ entry_list_sort (sort_short atL few ⟨_,rfl,wpAny_pure ⟨_,rfl,done⟩⟩) (args_list_sort _)))
end
section
variable {X:Cx}
theorem vals_refs:∀ {ps:List (Addr × List Int)}{us:List Value},Vals (ps.map fun a=>V.ref a.1) us->us=ps.map fun a=>Value.ref a.1
 | [],us,r=>by cases r;rfl
 | a :: ps,us,r=>by
  cases r with
  | cons x y=>rw [vals_refs y];cases x;rfl
def RowAt (h:Heap) (a:Addr) (r:List Int):Prop:=∃ o items n,h.get? a=some o/\o.cls=.type "tuple" /\ o.data=.seq items n/\Vals (r.map V.int) items.toList
theorem vals_lex {prog:Program}{w:World}{A:Around}{s:Shared}{b fin:Bool}{Q:Bool->Shared->Prop}:∀ {r r':List Int}{us us':List Value}{i:Nat},Vals (r.map V.int) us->Vals (r'.map V.int) us'->fin=decide (us.length < us'.length)->Q (lx r r') s ->
  KatLex prog w A b fin Q (us.zip us') i s
 | [],[],us,us',i,ru,ru',hf,q=>by cases ru;cases ru';exact kat_nil (by rw [hf];exact q)
 | [],_ :: _,us,us',i,ru,ru',hf,q=>by
  cases ru;cases ru' with
  | cons _ _=>exact kat_nil (by rw [hf];simpa [lx] using q)
 | _ :: _,[],us,us',i,ru,ru',hf,q=>by
  cases ru';cases ru with
  | cons _ _=>exact kat_nil (by rw [hf];simpa [lx] using q)
 | x :: r,y :: r',us,us',i,ru,ru',hf,q=>by
  cases ru with
  | cons rx ru=>
  cases ru' with
  | cons ry ru'=>
  obtain ⟨t,rfl⟩:=rx
  obtain ⟨t',rfl⟩:=ry
  refine kat_cons (wpAny_eqBool_int ?_)
  unfold lx at q
  by_cases e:x=y
  ·subst e
   rw [if_pos rfl] at q
   rw [show (x == x)=true from by simp]
   exact kat_yes (vals_lex ru ru' (by rw [hf];simp) q)
  ·rw [if_neg e] at q
   rw [show (x == y)=false from by simpa using e]
   refine kat_no ?_
   cases (b && i == 0) with
   | true=>exact oneLt_int q
   | false=>exact kat_one _ _ (lt_int q)
theorem kat_tups {h:Heap}:∀ {ps:List (Addr × List Int)},(∀ a ∈ ps,RowAt h a.1 a.2/\a.2 ≠ [])->∃ fs,KatTups h (ps.map fun a=>Value.ref a.1) fs/\fs.length=ps.length/\∀ v ∈ fs,∃ i t,v=Value.int i t
 | [],_=>⟨[],KatTups.nil,rfl,fun _ z=>nomatch z⟩
 | (a,r) :: ps,hp=>by
  obtain ⟨fs,k,l,f⟩:=kat_tups fun a ha=>hp a (.tail _ ha)
  obtain ⟨⟨o,items,n,ho,hc,hd,hv⟩,hn⟩:=hp (a,r) (.head _)
  match r,hn,hv with
  | x :: r,_,hv=>
   obtain ⟨u,hu,t,e⟩:=Vals.get (i:=0) hv rfl
   refine ⟨u :: fs,KatTups.cons ho hc hd (by rw [<-hu];simp) k,by simp [l],fun v hv=>?_⟩
   rcases zR.mp hv with rfl | hv
   ·exact ⟨x,t,e⟩
   ·exact f v hv
theorem range_map {α:Type} (d:α) (l:List α):(List.range l.length).map (fun i=>l.getD i d)=l:=by
 apply List.ext_getElem
 ·simp
 ·intro i h1 h2
  simp [List.getD,h2]
theorem vals_of_refs:∀ (ps:List (Addr × List Int)),Vals (ps.map fun a=>V.ref a.1) (ps.map fun a=>Value.ref a.1)
 | []=>.nil
 | _ :: ps=>.cons rfl (vals_of_refs ps)
theorem call_sortT:CallR X (.builtin "sorted") (fun xs H Q=>∃ p,∃ ps:List (Addr × List Int),xs=[.ref p]/\SqL X.K H p (ps.map fun a=>V.ref a.1)/\ps.length < 64/\(∀ a ∈ ps,H a.1=some (.tup (a.2.map V.int))/\a.2 ≠ []) /\
  ∀ l qs,H l=none->List.Perm qs ps->qs.Pairwise (fun a b=>lx b.2 a.2=false)->Q (.ref l) (upd H l (.lst (qs.map fun a=>V.ref a.1)))):=by
 intro pins s σ H xs us Q I r h
 obtain ⟨p,ps,rfl,hq,h64,hrow,q⟩:=h
 obtain ⟨u,rfl,rx⟩:=vals1 r
 cases rx
 obtain ⟨its,r',pl,hz⟩:=I.list hq
 have ei:=vals_refs r'
 subst ei
 have hlen:(ps.map fun a=>Value.ref a.1).length=ps.length:=by simp
 by_cases h2:ps.length < 2
 ·refine sorted_short pl.isList (by omega) ?_
  have sz:((s.heap.push (seqObj "list" #[] 0)).update s.heap.objs.size (Obj.mapSeq (· ++ (ps.map fun a=>Value.ref a.1).toArray))).objs.size=s.heap.objs.size + 1:=by rw [Heap.size_update,size_push']
  have kp:∀ b o,s.heap.get? b=some o->(sortedAll s.heap (ps.map fun a=>Value.ref a.1) (ps.map fun a=>Value.ref a.1).toArray).get? b=some o:=fun b o e=>by
   have lb:b < s.heap.objs.size:=Heap.lt_size e
   unfold sortedAll sortedHeap
   rw [Heap.get?_update_ne _ _ _ _ (zU (Nat.lt_succ_of_lt lb))]
   refine Heap.get?_push_of_some _ (Heap.get?_push_of_some _ ?_)
   rw [Heap.get?_update_ne _ _ _ _ (zU (Nat.lt_succ_of_lt lb))]
   refine Heap.get?_push_of_some _ ?_
   rw [Heap.get?_update_ne _ _ _ _ (zU lb)]
   exact Heap.get?_push_of_some _ e
  obtain ⟨c,ec⟩:∃ c,(sortedAll s.heap (ps.map fun a=>Value.ref a.1) (ps.map fun a=>Value.ref a.1).toArray).get? (s.heap.objs.size + 1)=some (seqObj "list" (ps.map fun a=>Value.ref a.1).toArray c):=by
   have e0:=Heap.get?_push_size ((s.heap.push (seqObj "list" #[] 0)).update s.heap.objs.size (Obj.mapSeq (· ++ (ps.map fun a=>Value.ref a.1).toArray))) (o:=seqObj "list" (ps.map fun a=>Value.ref a.1).toArray 0) rfl
   rw [sz] at e0
   unfold sortedAll sortedHeap
   have e1:=get?_update_seq e0 (fun _=>(#[]:Array Value))
   exact ⟨_,get?_update_seq (Heap.get?_push_of_some _ (Heap.get?_push_of_some _ e1)) _⟩
  refine ⟨.ref (s.heap.objs.size + 1),_,I.laid (t':=s.toks) kp (yl _) (show ObjOk X.prog X.w _ _ _ (.lst (ps.map fun a=>V.ref a.1)) from ⟨hz,_,c,r',ec⟩),rfl,q _ ps (I.hok.fresh (yl _)) (List.Perm.refl _) ?_⟩
  match ps,h2 with
  | [],_=>exact .nil
  | [_],_=>exact zt _ _
 ·obtain ⟨m,F⟩:=I.fr
  refine kat_sorted F (news_all (g:=X.base) (h:=s.heap)) pl.isList (by omega) (by omega) fun D e1 h' F' N' lt=>?_
  have keep:∀ b o,b ≠ X.env.locals->s.heap.get? b=some o->h'.get? b=some o:=fun b o hb e=>by
   cases q:X.base.get? b with
   | some u=>
    have:=I.bk b u q
    rw [e] at this;cases this
    exact F'.keep b _ q
   | none=>exact (N' (b,o) (.tail _ (mem_allNews hb q e))).1
  have rowAt:∀ a ∈ ps,RowAt h' a.1 a.2/\a.2 ≠ []:=fun a ha=>by
   obtain ⟨ht,hn⟩:=hrow a ha
   obtain ⟨_,its,rv,o,e,c,n,d⟩:=I.hok a.1 _ ht
   refine ⟨⟨o,_,n,keep a.1 o (fun z=>?_) e,c,d,rv⟩,hn⟩
   rw [z,I.free] at ht;cases ht
  obtain ⟨fs,kt,lf,hf⟩:=kat_tups rowAt
  refine kat_kind (T:=.type "int") kt (by omega) (fun v hv=>?_) (by decide) ?_
  ·obtain ⟨i,t,rfl⟩:=hf v hv
   exact Looks.now
  have n1:1<=(ps.map fun a=>Value.ref a.1).length:=by omega
  refine KOK.wp (c:=cf fun i=>rk (ps.map (·.2)) ((ps.map (·.2)).getD i [])) (fun i j C hi hj hC=>?_) (fun pp hp=>?_) _ (sort_ok (f:=fun i=>rk (ps.map (·.2)) ((ps.map (·.2)).getD i [])) n1)
  ·have hi':i < ps.length:=by omega
   have hj':j < ps.length:=by omega
   obtain ⟨⟨o,items,n,ho,hc,hd,hv⟩,hn⟩:=rowAt ps[i] (zh hi')
   obtain ⟨⟨o',items',n',ho',hc',hd',hv'⟩,hn'⟩:=rowAt ps[j] (zh hj')
   unfold kas_ask
   have ei:(ps.map fun a=>Value.ref a.1).getD i Value.none=.ref ps[i].1:=by simp [hi']
   have ej:(ps.map fun a=>Value.ref a.1).getD j Value.none=.ref ps[j].1:=by simp [hj']
   rw [ei,ej]
   refine kat_lt ho hd ho' hd' (vals_lex hv hv' (by simp) ?_)
   have e:cf (fun i=>rk (ps.map (·.2)) ((ps.map (·.2)).getD i [])) i j=lx ps[i].2 ps[j].2:=by
    unfold cf
    have e1:(ps.map (·.2)).getD i []=ps[i].2:=by simp [hi']
    have e2:(ps.map (·.2)).getD j []=ps[j].2:=by simp [hj']
    simp only [e1,e2]
    exact rk_lt (zM.mpr ⟨ps[i],zh hi',rfl⟩)
   rw [e] at hC
   exact hC
  ·obtain ⟨pm,up⟩:=hp
   refine KasFin.intro F' N' (UpdF.head fun x hx=>zU (lt x hx)) fun h2' c F2 N2=>?_
   have pl:pp.toList.Perm (List.range ps.length):=by
    have:=pm.toList
    rw [hlen] at this
    simpa using this
   have eo:(pp.toList.map fun i=>(ps.map fun a=>Value.ref a.1).getD i Value.none)=(pp.toList.map fun i=>ps.getD i (0,[])).map fun a=>Value.ref a.1:=by
    rw [zX]
    refine yF fun i hi=>?_
    have hi':i < ps.length:=zn.mp (pl.mem_iff.mp hi)
    simp [hi']
   have perm:(pp.toList.map fun i=>ps.getD i (0,[])).Perm ps:=by
    have:=pl.map fun i=>ps.getD i (0,[])
    rwa [range_map] at this
   rw [eo] at N2
   have hzz:((pp.toList.map fun i=>ps.getD i (0,[])).map fun a=>V.ref a.1).length<=sizeLine:=by
    rw [zA,perm.length_eq,sizeLine_eq];omega
   obtain ⟨I2,hD⟩:=I.sortedTo F F2 N2 lt (vals_of_refs _) hzz
   refine ⟨.ref D,_,I2,rfl,q D _ hD perm ?_⟩
   rw [yD]
   intro i j hi hj hij
   simp only [zA,Array.length_toList] at hi hj
   simp only [yC,Array.getElem_toList]
   have hn:pp.size=ps.length:=by rw [pm.size];exact hlen
   have key:=up i j (yy hij) (by omega)
   have a1:pp[i] < ps.length:=zn.mp (pl.mem_iff.mp (by simp))
   have a2:pp[j] < ps.length:=zn.mp (pl.mem_iff.mp (by simp))
   unfold g at'  at key
   simp only [hi,hj,getElem?_pos,Option.getD_some] at key
   have e1:(ps.map (·.2)).getD pp[i] []=ps[pp[i]].2:=by simp [a1]
   have e2:(ps.map (·.2)).getD pp[j] []=ps[pp[j]].2:=by simp [a2]
   rw [e1,e2] at key
   have e3:ps.getD pp[i] (0,[])=ps[pp[i]]:=by simp [a1]
   have e4:ps.getD pp[j] (0,[])=ps[pp[j]]:=by simp [a2]
   rw [e3,e4]
   have:=rk_lt (rs:=ps.map (·.2)) (a:=ps[pp[j]].2) (b:=ps[pp[i]].2) (zM.mpr ⟨_,zh a2,rfl⟩)
   rw [<-this]
   simp only [decide_eq_false_iff_not]
   omega
end
end L2
set_option Elab.async false
set_option linter.all false
set_option maxRecDepth 100000
set_option maxHeartbeats 4000000
namespace L2
open PySem PySem.Spec PyProof.Rows
def notStar:Expr->Bool
 | .Starred _ _=>false
 | _=>true
theorem star_cons {e:Expr}{es:List Expr}{env:Env} (h:notStar e=true):starEach (e :: es) env=(false,eval e env) :: starEach es env:=by
 cases e <;> first | rfl | cases h
@[irreducible] def PA2 (X:Cx) (es:List Expr) (t:TA):Prop:=PA X es t
theorem xF {X:Cx}{es:List Expr}{t:TA} (h:PA2 X es t):PA X es t:=by unfold PA2 at h;exact h
theorem pa_in {X:Cx}{es:List Expr}{t:TA} (h:PA X es t):PA2 X es t:=by unfold PA2;exact h
theorem xM {X:Cx}:PA2 X [] tNil:=pa_in pa_nil
theorem xI {X:Cx}{e:Expr}{es:List Expr}{te:TE}{t:TA} (ha:PE X e te) (hr:PA2 X es t) (hn:notStar e=true):PA2 X (e :: es) (tCons te t):=pa_in (pa_cons ha (xF hr) (star_cons hn))
@[irreducible] def PSs2 (X:Cx) (es:List Stmt) (t:TS):Prop:=PSs X es t
theorem xK {X:Cx}{es:List Stmt}{t:TS} (h:PSs2 X es t):PSs X es t:=by unfold PSs2 at h;exact h
theorem bl_in {X:Cx}{es:List Stmt}{t:TS} (h:PSs X es t):PSs2 X es t:=by unfold PSs2;exact h
theorem xf {X:Cx}{a:Stmt}{t:TS} (h:PS X a t):PSs2 X [a] t:=bl_in (pss_one h)
theorem xW {X:Cx}{a b:Stmt}{rest:List Stmt}{t u:TS} (h:PS X a t) (hr:PSs2 X (b :: rest) u):PSs2 X (a :: b :: rest) (tSeq t u):=bl_in (pss_cons h (xK hr))
end L2
namespace L2
open PySem PySem.Spec PyProof.Rows
section
variable {K:PySem.W.Frag}{a:Addr}{xs:List V}{n:Nat}{caps:List Nat}{g:TG}{tc:TT}{te:TE}{σ:St}{H:Hp}{Qf:Addr->Hp->List V->Prop}
theorem comp_of {J:It} (Pv:Nat->St->List V->Hp->Prop) (len:Nat) (h0:Pv 0 (tau0 n caps σ) [] H) (hn:len<=1000) (hl:∀ i τ acc H,Pv i τ acc H->acc.length<=i)
  (hgo:∀ i τ acc H,i < len->Pv i τ acc H->J.go i H) (hstop:∀ τ acc H,Pv len τ acc H->J.stop len H)
  (hs:∀ i τ acc H (C:St->List V->Hp->Prop),i < len->Pv i τ acc H->(∀ τ acc H,Pv (i + 1) τ acc H->C τ acc H)->∀ x H',J.yld i H x H'->g x τ H' fun τ2 H2=>tc τ2 H2 fun b H3=>if b=true then te τ2 H3 fun y H4=>C τ2 (acc ++ [y]) H4 else C τ2 acc H3)
  (hd:∀ τ acc H,Pv len τ acc H->∀ p,H p=none->Qf p H acc) :
  ∃ W:Nat->Nat->St->List V->Hp->Prop,(∃ m,W 0 m (tau0 n caps σ) [] H)/\∀ i m τ acc H,W i m τ acc H ->
   (J.stop i H/\acc.length<=sizeLine/\∀ p,H p=none->Qf p H acc) \/
   (J.go i H/\acc.length < sizeLine/\∀ x H',J.yld i H x H'->g x τ H' fun τ2 H2=>tc τ2 H2 fun b H3=>if b=true then te τ2 H3 fun y H4=>∃ m',m' < m/\W (i + 1) m' τ2 (acc ++ [y]) H4 else ∃ m',m' < m/\W (i + 1) m' τ2 acc H3):=by
 have line:1001<=sizeLine:=by rw [sizeLine_eq];decide
 refine ⟨fun i m τ acc H=>m=len - i/\i<=len/\Pv i τ acc H,⟨len,by simp,zb _,h0⟩,?_⟩
 rintro i m τ acc H ⟨rfl,hi,p⟩
 have q:=hl i τ acc H p
 by_cases hlt:i < len
 ·exact .inr ⟨hgo i τ acc H hlt p,by omega,fun x H' y=>hs i τ acc H (fun τ acc H=>∃ m',m' < len - i/\m'=len - (i + 1)/\i + 1<=len/\Pv (i + 1) τ acc H) hlt p (fun τ acc H p'=>⟨len - (i + 1),by omega,rfl,hlt,p'⟩) x H' y⟩
 ·have e:i=len:=by omega
  subst e
  exact .inl ⟨hstop τ acc H p,by omega,hd τ acc H p⟩
theorem comp_tup (Pv:Nat->St->List V->Hp->Prop) (h0:Pv 0 (tau0 n caps σ) [] H) (hn:xs.length<=1000) (hl:∀ i τ acc H,Pv i τ acc H->acc.length<=i/\SqT K H a xs)
  (hs:∀ i x τ acc H (C:St->List V->Hp->Prop),xs[i]?=some x->Pv i τ acc H->(∀ τ acc H,Pv (i + 1) τ acc H->C τ acc H)->g x τ H fun τ2 H2=>tc τ2 H2 fun b H3=>if b=true then te τ2 H3 fun y H4=>C τ2 (acc ++ [y]) H4 else C τ2 acc H3)
  (hd:∀ τ acc H,Pv xs.length τ acc H->∀ p,H p=none->Qf p H acc) :
  ∃ W:Nat->Nat->St->List V->Hp->Prop,(∃ m,W 0 m (tau0 n caps σ) [] H)/\∀ i m τ acc H,W i m τ acc H ->
   ((Itt K a).stop i H/\acc.length<=sizeLine/\∀ p,H p=none->Qf p H acc) \/
   ((Itt K a).go i H/\acc.length < sizeLine/\∀ x H',(Itt K a).yld i H x H'->g x τ H' fun τ2 H2=>tc τ2 H2 fun b H3=>if b=true then te τ2 H3 fun y H4=>∃ m',m' < m/\W (i + 1) m' τ2 (acc ++ [y]) H4 else ∃ m',m' < m/\W (i + 1) m' τ2 acc H3):=
 comp_of (J:=Itt K a) Pv xs.length h0 hn (fun i τ acc H p=>(hl i τ acc H p).1) (fun i τ acc H hi p=>⟨xs,xs[i],(hl i τ acc H p).2,by simp [hi]⟩) (fun τ acc H p=>⟨xs,(hl _ τ acc H p).2,zJ _⟩)
  (fun i τ acc H C hi p c x H' y=>by obtain ⟨e,y⟩:=y;subst e;exact hs i x τ acc _ C (y xs (hl i τ acc _ p).2) p c) hd
theorem comp_list (Pv:Nat->St->List V->Hp->Prop) (h0:Pv 0 (tau0 n caps σ) [] H) (hn:xs.length<=1000) (hl:∀ i τ acc H,Pv i τ acc H->acc.length<=i/\SqL K H a xs)
  (hs:∀ i x τ acc H (C:St->List V->Hp->Prop),xs[i]?=some x->Pv i τ acc H->(∀ τ acc H,Pv (i + 1) τ acc H->C τ acc H)->g x τ H fun τ2 H2=>tc τ2 H2 fun b H3=>if b=true then te τ2 H3 fun y H4=>C τ2 (acc ++ [y]) H4 else C τ2 acc H3)
  (hd:∀ τ acc H,Pv xs.length τ acc H->∀ p,H p=none->Qf p H acc) :
  ∃ W:Nat->Nat->St->List V->Hp->Prop,(∃ m,W 0 m (tau0 n caps σ) [] H)/\∀ i m τ acc H,W i m τ acc H ->
   ((Itl K a).stop i H/\acc.length<=sizeLine/\∀ p,H p=none->Qf p H acc) \/
   ((Itl K a).go i H/\acc.length < sizeLine/\∀ x H',(Itl K a).yld i H x H'->g x τ H' fun τ2 H2=>tc τ2 H2 fun b H3=>if b=true then te τ2 H3 fun y H4=>∃ m',m' < m/\W (i + 1) m' τ2 (acc ++ [y]) H4 else ∃ m',m' < m/\W (i + 1) m' τ2 acc H3):=
 comp_of (J:=Itl K a) Pv xs.length h0 hn (fun i τ acc H p=>(hl i τ acc H p).1) (fun i τ acc H hi p=>⟨xs,xs[i],(hl i τ acc H p).2,by simp [hi]⟩) (fun τ acc H p=>⟨xs,(hl _ τ acc H p).2,zJ _⟩)
  (fun i τ acc H C hi p c x H' y=>by obtain ⟨e,y⟩:=y;subst e;exact hs i x τ acc _ C (y xs (hl i τ acc _ p).2) p c) hd
theorem for_enumL {tb:TS}{D:Ends} (Pv:Nat->St->Hp->Prop) (h0:Pv 0 σ H) (hl:∀ i σ H,i<=xs.length->Pv i σ H->SqL K H a xs)
  (hs:∀ i x q σ H,xs[i]?=some x->H q=none->Pv i σ H->g (.ref q) σ (upd H q (.tup [.int i,x])) fun σ2 H2=>tb { D with nx:=Pv (i + 1),ct:=Pv (i + 1),bk:=D.nx } σ2 H2) (hd:∀ σ H,Pv xs.length σ H->D.nx σ H) :
  ∃ W:Nat->Nat->St->Hp->Prop,(∃ m,W 0 m σ H)/\∀ i m σ H,W i m σ H ->
   ((IteL K a).stop i H/\D.nx σ H)\/((IteL K a).go i H/\∃ N:St->Hp->Prop,(∀ σ' H',N σ' H'->∃ m',m' < m/\W (i + 1) m' σ' H')/\∀ x H',(IteL K a).yld i H x H'->g x σ H' fun σ2 H2=>tb { D with nx:=N,ct:=N,bk:=D.nx } σ2 H2):=by
 refine ⟨fun i m σ H=>m=xs.length - i/\i<=xs.length/\Pv i σ H,⟨xs.length,by simp,zb _,h0⟩,?_⟩
 rintro i m σ H ⟨rfl,hi,p⟩
 have q:=hl i σ H hi p
 by_cases hlt:i < xs.length
 ·refine .inr ⟨⟨xs,xs[i],q,by simp [hlt]⟩,Pv (i + 1),fun σ' H' p'=>⟨xs.length - (i + 1),by omega,rfl,hlt,p'⟩,fun x H' y=>?_⟩
  obtain ⟨q',x',hq,e1,e2,y⟩:=y
  subst e1;subst e2
  exact hs i x' q' σ _ (y xs q) hq p
 ·have e:i=xs.length:=by omega
  subst e
  exact .inl ⟨⟨xs,q,zJ _⟩,hd σ H p⟩
end
end L2
namespace Sm
open PySem L2 SmSort
def But (p:Addr) (H H':Hp):Prop:=∀ b u,b ≠ p->H b=some u->H' b=some u
theorem But.refl (p:Addr) (H:Hp):But p H H:=fun _ _ _ h=>h
theorem But.trans {p:Addr} {H H1 H2:Hp} (a:But p H H1) (b:But p H1 H2):But p H H2:=fun c u n h=>b c u n (a c u n h)
theorem But.set {p:Addr}{H:Hp}{o:HO}:But p H (upd H p o):=fun b u n h=>by rw [xN n];exact h
theorem But.new {p l:Addr}{H:Hp}{o:HO} (h:H l=none):But p H (upd H l o):=fun b u n e=>by rw [xN (xJ e h)];exact e
def Purse (H:Hp) (p:Addr):Prop:=∃ a b c:Int,H p=some (.lst [.int a,.int b,.int c])
def Go (p:Addr) (H H':Hp):Prop:=But p H H'/\Purse H' p
theorem Go.trans {p:Addr} {H H1 H2:Hp} (a:Go p H H1) (b:Go p H1 H2):Go p H H2:=⟨a.1.trans b.1,b.2⟩
theorem Go.refl {p:Addr}{H:Hp} (a:Purse H p):Go p H H:=⟨But.refl p H,a⟩
theorem Purse.new {p l:Addr}{H:Hp}{o:HO} (a:Purse H p) (h:H l=none):Purse (upd H l o) p:=by
 obtain ⟨x,y,z,e⟩:=a
 exact ⟨x,y,z,by rw [xN (xJ e h)];exact e⟩
theorem Purse.ne {p l:Addr}{H:Hp} (a:Purse H p) (h:H l=none):l ≠ p:=by
 obtain ⟨x,y,z,e⟩:=a
 exact (xJ e h).symm
theorem Go.new {p l:Addr} {H H1:Hp}{o:HO} (a:Go p H H1) (h:H1 l=none):Go p H (upd H1 l o):=⟨a.1.trans (But.new h),a.2.new h⟩
theorem Purse.tup {p t:Addr}{H:Hp}{xs:List V} (a:Purse H p) (h:H t=some (.tup xs)):t ≠ p:=by
 obtain ⟨x,y,z,e⟩:=a
 exact wK h e (by intro z;cases z)
def Tups (H H':Hp):Prop:=∀ b xs,H b=some (.tup xs)->H' b=some (.tup xs)
theorem Go.tups {p:Addr}{H H':Hp} (a:Go p H H') (h:Purse H p):Tups H H':=fun b xs e=>a.1 b _ (h.tup e) e
theorem Tups.new {l:Addr}{H:Hp}{o:HO} (h:H l=none):Tups H (upd H l o):=fun b u e=>by rw [xN (xJ e h)];exact e
theorem Tups.set {l:Addr}{H:Hp}{xs:List V}{o:HO} (h:H l=some (.lst xs)):Tups H (upd H l o):=fun b u e=>by rw [xN (wK e h (by intro z;cases z))];exact e
theorem Tups.same {H H':Hp} (h:Same H H'):Tups H H':=fun b u e=>h b _ e
structure M4 where
 lo:Int
 hi:Int
 t:Int
 m:Int
def M4.vs (r:M4):List V:=[.int r.lo,.int r.hi,.int r.t,.int r.m]
def apart (a b:M4):Prop:=a.lo ≠ b.lo/\a.lo ≠ b.hi/\a.hi ≠ b.lo/\a.hi ≠ b.hi
structure Good (w:Int) (ms:List M4):Prop where
 few:ms.length<=60
 each:∀ r ∈ ms,0<=r.lo/\r.lo < r.hi/\r.hi < w/\1<=r.t/\r.t<=1000000000/\1<=r.m/\r.m<=99
 order:ms.Pairwise fun a b=>a.t < b.t\/(a.t=b.t/\a.lo < b.lo/\apart a b)
def RowsAt (H:Hp) (ps:List (Addr × M4)):Prop:=∀ a ∈ ps,H a.1=some (.tup a.2.vs)
structure BookAt (H:Hp) (b:Addr) (rooms:List Int) (tr tm:Addr) (ps:List (Addr × M4)):Prop where
 book:H b=some (.tup [.ref tr,.ref tm])
 rooms:H tr=some (.tup (rooms.map V.int))
 meets:H tm=some (.tup (ps.map fun a=>V.ref a.1))
 rows:RowsAt H ps
theorem RowsAt.tups {H H':Hp}{ps:List (Addr × M4)} (a:RowsAt H ps) (t:Tups H H'):RowsAt H' ps:=fun x hx=>t _ _ (a x hx)
theorem BookAt.tups {H H':Hp}{b tr tm:Addr}{rooms:List Int}{ps:List (Addr × M4)} (a:BookAt H b rooms tr tm ps) (t:Tups H H'):BookAt H' b rooms tr tm ps:=
 ⟨t _ _ a.book,t _ _ a.rooms,t _ _ a.meets,a.rows.tups t⟩
def spLaw (K:PySem.W.Frag):Sp:=fun vs H Q _=>∃ (a:Addr) (ns:List Int),vs=[.ref a]/\SqL K H a (ns.map V.int)/\ns.length<=63/\∀ H',Q (.bl true) H'
def spPurse (K:PySem.W.Frag):Sp:=fun vs H Q _=>∃ (a:Addr) (ns:List Int) (k:Nat),vs=[.ref a,.int k]/\SqL K H a (ns.map V.int)/\k < 1000/\∀ p H',H p=none->Purse H' p->Same H H'->Q (.ref p) H'
def spTake:Sp:=fun vs H Q _=>∃ p n,vs=[.ref p,.int n]/\0 < n/\n < 2 ^ 200/\Purse H p/\∀ d H',0<=d->d < n->Go p H H'->Q (.int d) H'
def spFar:Sp:=fun vs H Q _=>∃ p,vs=[.ref p]/\Purse H p/\∀ d H',0<=d->d<=1000000000->Go p H H'->Q (.int d) H'
def spRooms:Sp:=fun vs H Q _=>∃ p,∃ n:Nat,vs=[.ref p,.int n]/\n<=1000/\Purse H p/\∀ (t:Addr) (rooms:List Int) (H':Hp),Go p H H'->H' t=some (.tup (rooms.map V.int))->rooms.length=n->(∀ r ∈ rooms,(0:Int)<=r/\r<=99)->Q (.ref t) H'
def spStep:Sp:=fun vs H Q _=>∃ p,vs=[.ref p]/\Purse H p/\∀ d H',0<=d->d<=16000000->Go p H H'->Q (.int d) H'
def spMeetings:Sp:=fun vs H Q _=>∃ p,∃ w:Int,∃ n:Nat,vs=[.ref p,.int w,.int n]/\n<=60/\w < 1000/\(n=0\/2<=w)/\Purse H p /\
 ∀ (t:Addr) (ps:List (Addr × M4)) (H':Hp),Go p H H'->H' t=some (.tup (ps.map fun a=>V.ref a.1))->RowsAt H' ps->Good w (ps.map (·.2))->ps.length=n->Q (.ref t) H'
def spBook:Sp:=fun vs H Q _=>∃ p,∃ a:Int,∃ n:Nat,vs=[.ref p,.int a,.int n]/\1<=a/\a<=100/\n<=60/\Purse H p /\
 ∀ (b:Addr) (rooms:List Int) (tr tm:Addr) (ps:List (Addr × M4)) (H':Hp),Go p H H'->BookAt H' b rooms tr tm ps->1<=rooms.length->(rooms.length:Int)<=a->(∀ r ∈ rooms,(0:Int)<=r/\r<=99)->Good rooms.length (ps.map (·.2))->ps.length<=n->Q (.ref b) H'
theorem iteD {c A B:Prop} [Decidable c] (h1:c->A) (h2:¬ c->B):if decide c=true then A else B:=by
 by_cases h:c
 ·rw [if_pos (decide_eq_true h)];exact h1 h
 ·rw [if_neg (by simpa using h)];exact h2 h
theorem iteB0 {c:Bool}{A B:Prop} (hc:c=false) (h:B):if c=true then A else B:=by
 rw [if_neg (by rw [hc];exact zG)];exact h
theorem iteB1 {c:Bool}{A B:Prop} (hc:c=true) (h:A):if c=true then A else B:=by
 rw [if_pos hc];exact h
theorem iteB {c:Bool}{A B:Prop} (h1:c=true->A) (h2:c=false->B):if c=true then A else B:=by
 cases c with
 | true=>exact h1 rfl
 | false=>exact h2 rfl
theorem xL {H:Hp}{p:Addr}{o:HO} (h:H p=none):Same H (upd H p o):=fun b u e=>by
 rw [xN (xJ e h)];exact e
def M4.row (r:M4):List Int:=[r.t,r.lo,r.hi,r.m]
structure FOk (w when':Int) (bs:List Int) (fs:List (Addr × M4)):Prop where
 each:∀ a ∈ fs,0<=a.2.lo/\a.2.lo < a.2.hi/\a.2.hi < w/\1<=a.2.t/\a.2.t<=when'/\1<=a.2.m/\a.2.m<=99
 pw:fs.Pairwise fun a b=>a.2.t=b.2.t->apart a.2 b.2
 bz:∀ a ∈ fs,a.2.t=when'->a.2.lo ∈ bs/\a.2.hi ∈ bs
theorem FOk.step {w wh gap one other m:Int}{bs bs':List Int}{fs:List (Addr × M4)}{a:Addr} (F:FOk w wh bs fs) (h1:1<=wh) (g0:0<=gap) (o0:0<=one) (o1:one < w) (p0:0<=other) (p1:other < w) (ne:one ≠ other)
  (m0:1<=m) (m1:m<=99) (hg:gap=0->one ∉ bs/\other ∉ bs) (hb:∀ x ∈ bs,gap=0->x ∈ bs') (hb1:one ∈ bs') (hb2:other ∈ bs') :
  FOk w (wh + gap) bs' (fs ++ [(a,⟨if other < one then other else one,if other > one then other else one,wh + gap,m⟩)]):=by
 refine ⟨fun b hb=>?_,?_,fun b hm e=>?_⟩
 ·rcases zW.mp hb with h | h
  ·obtain ⟨a1,a2,a3,a4,a5,a6,a7⟩:=F.each b h
   exact ⟨a1,a2,a3,a4,by omega,a6,a7⟩
  ·cases zI.mp h
   by_cases c:other < one
   ·rw [if_pos c,if_neg (by omega)];exact ⟨p0,c,o1,by show 1<=wh + gap;omega,yL _,m0,m1⟩
   ·rw [if_neg c,if_pos (by omega)];exact ⟨o0,by show one < other;omega,p1,by show 1<=wh + gap;omega,yL _,m0,m1⟩
 ·rw [yQ]
  refine ⟨F.pw,zt _ _,fun b hb c hc e=>?_⟩
  cases zI.mp hc
  have e':b.2.t=wh + gap:=e
  obtain ⟨a1,a2,a3,a4,a5,a6,a7⟩:=F.each b hb
  have g:gap=0:=by omega
  obtain ⟨x1,x2⟩:=F.bz b hb (by omega)
  obtain ⟨n1,n2⟩:=hg g
  have q1:b.2.lo ≠ one:=fun z=>n1 (z ▸ x1)
  have q2:b.2.lo ≠ other:=fun z=>n2 (z ▸ x1)
  have q3:b.2.hi ≠ one:=fun z=>n1 (z ▸ x2)
  have q4:b.2.hi ≠ other:=fun z=>n2 (z ▸ x2)
  unfold apart
  dsimp only
  by_cases c:other < one
  ·rw [if_pos c,if_neg (by omega)];exact ⟨q2,q1,q4,q3⟩
  ·rw [if_neg c,if_pos (by omega)];exact ⟨q1,q2,q3,q4⟩
 ·rcases zW.mp hm with h | h
  ·obtain ⟨a1,a2,a3,a4,a5,a6,a7⟩:=F.each b h
   obtain ⟨x1,x2⟩:=F.bz b h (by omega)
   exact ⟨hb _ x1 (by omega),hb _ x2 (by omega)⟩
  ·cases zI.mp h
   by_cases c:other < one
   ·rw [if_pos c,if_neg (by omega)];exact ⟨hb2,hb1⟩
   ·rw [if_neg c,if_pos (by omega)];exact ⟨hb1,hb2⟩
def M4.late (l:Int) (r:M4):M4:=⟨r.lo,r.hi,r.t + l,r.m⟩
theorem FOk.good {w wh l:Int}{bs:List Int}{fs qs:List (Addr × M4)} (F:FOk w wh bs fs) (n:fs.length<=60) (l0:0<=l) (l1:fs ≠ []->wh + l<=1000000000) (p:qs.Perm fs) (s:qs.Pairwise fun a b=>lx b.2.row a.2.row=false) :
  Good w (qs.map fun a=>a.2.late l):=by
 refine ⟨by rw [zA,p.length_eq];exact n,fun r hr=>?_,?_⟩
 ·obtain ⟨a,ha,rfl⟩:=zM.mp hr
  have hm:=p.mem_iff.mp ha
  obtain ⟨a1,a2,a3,a4,a5,a6,a7⟩:=F.each a hm
  have:=l1 (List.ne_nil_of_mem hm)
  unfold M4.late
  exact ⟨a1,a2,a3,by show 1<=a.2.t + l;omega,by show a.2.t + l<=1000000000;omega,a6,a7⟩
 ·rw [List.pairwise_map]
  have ap:qs.Pairwise fun a b=>a.2.t=b.2.t->apart a.2 b.2:=(List.Perm.pairwise_iff (fun {x y} h e=>by
   obtain ⟨a1,a2,a3,a4⟩:=h e.symm
   exact ⟨a1.symm,a3.symm,a2.symm,a4.symm⟩) p).mpr F.pw
  refine (s.and ap).imp fun {a b} ⟨h1,h2⟩=>?_
  unfold M4.late
  dsimp only
  unfold M4.row lx at h1
  by_cases e:a.2.t=b.2.t
  ·have q:=h2 e
   rw [if_pos e.symm] at h1
   unfold lx at h1
   rw [if_neg fun z=>q.1 z.symm] at h1
   simp only [decide_eq_false_iff_not] at h1
   refine .inr ⟨by omega,?_,q⟩
   have:=q.1
   omega
  ·rw [if_neg fun z=>e z.symm] at h1
   simp only [decide_eq_false_iff_not] at h1
   exact .inl (by omega)
def toM4 (r:List Int):M4:=⟨r.getD 1 0,r.getD 2 0,r.getD 0 0,r.getD 3 0⟩
theorem rows_back {fs:List (Addr × M4)}{qs:List (Addr × List Int)} (p:qs.Perm (fs.map fun a=>(a.1,a.2.row))) (s:qs.Pairwise fun a b=>lx b.2 a.2=false) :
  ∃ rs:List (Addr × M4),rs.Perm fs/\(rs.Pairwise fun a b=>lx b.2.row a.2.row=false)/\qs=rs.map fun a=>(a.1,a.2.row):=by
 have e:qs=(qs.map fun a=>(a.1,toM4 a.2)).map fun a=>(a.1,a.2.row):=by
  rw [zX]
  refine (List.map_id qs).symm.trans (yF fun x hx=>?_)
  obtain ⟨a,_,rfl⟩:=zM.mp (p.mem_iff.mp hx)
  rfl
 refine ⟨qs.map fun a=>(a.1,toM4 a.2),?_,?_,e⟩
 ·have:=p.map fun a=>(a.1,toM4 a.2)
  rw [zX] at this
  refine this.trans (.of_eq ?_)
  refine (yF fun x _=>?_).trans (List.map_id fs)
  rfl
 ·rw [e,List.pairwise_map] at s
  exact s
theorem flat_ints (bs:List Int):(bs.map V.int).all flatV=true:=by
 rw [List.all_eq_true]
 intro x hx
 obtain ⟨b,_,rfl⟩:=zM.mp hx
 rfl
theorem inV_ints {x:Int}{bs:List Int}:inV (.int x) (bs.map V.int)=decide (x ∈ bs):=by
 unfold inV
 induction bs with
 | nil=>rfl
 | cons b bs ih=>
  rw [zj,yw,ih]
  by_cases h:x=b
  ·subst h;simp [eqV]
  ·have h':¬ b=x:=fun z=>h z.symm
   simp [eqV,h,h']
def PvM (p lf:Addr) (w:Int) (n:Nat) (H:Hp) (i:Nat) (σ:St) (H3:Hp):Prop:=
 ∃ v6 v7 v8 v9 v10 wh lb bs,∃ fs:List (Addr × M4),σ=[some (.ref p),some (.int w),some (.int n),some (.ref lf),some (.int wh),some (.ref lb),v6,v7,v8,v9,v10,none] /\
  H3 lf=some (.lst (fs.map fun a=>V.ref a.1))/\H3 lb=some (.lst (List.map V.int bs))/\lb ≠ lf/\lb ≠ p/\(∀ a ∈ fs,H3 a.1=some (.tup (a.2.row.map V.int)))/\FOk w wh bs fs/\fs.length=i/\bs.length<=2 * i/\1<=wh/\wh<=10000000 + 16000000 * i/\Go p H H3
theorem PvM.step {p lf lb t:Addr}{w wh gap one other m:Int}{n i:Nat}{H Hx:Hp}{bs bs':List Int}{fs:List (Addr × M4)} {v6 v7 v8 v9 v10:Option V} (npf:lf ≠ p) (hlf:H lf=none)
  (F:FOk w wh bs fs) (lenf:fs.length=i) (lenb:bs'.length<=2 * i + 2) (wh1:1<=wh) (wh2:wh<=10000000 + 16000000 * i) (hf:Hx lf=some (.lst (fs.map fun a=>V.ref a.1))) (hb:Hx lb=some (.lst (List.map V.int bs'))) (nb:lb ≠ lf) (nbp:lb ≠ p)
  (rows:∀ a ∈ fs,Hx a.1=some (.tup (a.2.row.map V.int))) (go:Go p H Hx) (ht:Hx t=none)
  (g0:0<=gap) (g1:gap<=16000000) (o0:0<=one) (o1:one < w) (p0:0<=other) (p1:other < w) (ne:one ≠ other) (m0:1<=m) (m1:m<=99) (hg:gap=0->one ∉ bs/\other ∉ bs) (hb0:∀ x ∈ bs,gap=0->x ∈ bs') (hb1:one ∈ bs') (hb2:other ∈ bs') :
  PvM p lf w n H (i + 1) [some (.ref p),some (.int w),some (.int n),some (.ref lf),some (.int (wh + gap)),some (.ref lb),v6,v7,v8,v9,v10,none]
   (upd (upd Hx t (.tup [.int (wh + gap),.int (if other < one then other else one),.int (if other > one then other else one),.int m])) lf (.lst ((fs.map fun a=>V.ref a.1) ++ [.ref t]))):=by
 have ntf:t ≠ lf:=(xJ hf ht).symm
 refine ⟨v6,v7,v8,v9,v10,wh + gap,lb,bs',fs ++ [(t,⟨if other < one then other else one,if other > one then other else one,wh + gap,m⟩)],rfl,by rw [xH,zN];rfl,?_,nb,nbp,fun a ha=>?_,F.step wh1 g0 o0 o1 p0 p1 ne m0 m1 hg hb0 hb1 hb2,by rw [zT,lenf];rfl,by omega,by omega,by omega,fun b u nb e=>?_,?_⟩
 ·rw [xN nb,xN (xJ hb ht)];exact hb
 ·rcases zW.mp ha with h | h
  ·have:=rows a h
   rw [xN (wK this hf (by intro z;cases z)),xN (xJ this ht)];exact this
  ·cases zI.mp h
   rw [xN ntf,xH];rfl
 ·rw [xN (xJ e hlf),xN (xJ (go.1 b u nb e) ht)];exact go.1 b u nb e
 ·have:=go.2.new (o:=.tup [.int (wh + gap),.int (if other < one then other else one),.int (if other > one then other else one),.int m]) ht
  obtain ⟨x,y,z,e⟩:=this
  exact ⟨x,y,z,by rw [xN npf.symm];exact e⟩
theorem oth_ok {one x w:Int} (o0:0<=one) (o1:one < w) (x0:0<=x) (x1:x < w - 1):0<=(one + 1 + x) % w/\(one + 1 + x) % w < w/\one ≠ (one + 1 + x) % w:=by
 refine ⟨yr _ (by omega),yc _ (by omega),?_⟩
 by_cases h:one + 1 + x < w
 ·rw [Int.emod_eq_of_lt (by omega) h];omega
 ·have e:(one + 1 + x) % w=(one + 1 + x - w) % w:=by
   have:one + 1 + x=(one + 1 + x - w) + w:=by omega
   rw [this,Int.add_emod_right];congr 1;omega
  rw [e,Int.emod_eq_of_lt (by omega) (by omega)];omega
theorem Go.same {p:Addr} {H H1 H2:Hp} (a:Go p H H1) (s:Same H1 H2):Go p H H2:=⟨fun b u n e=>s b u (a.1 b u n e),by obtain ⟨x,y,z,e⟩:=a.2;exact ⟨x,y,z,s _ _ e⟩⟩
theorem xz {α:Type}{f:α->V}{l:List α}{i:Nat}{x:V} (h:(l.map f)[i]?=some x):∃ r,l[i]?=some r/\x=f r:=by
 rw [zC] at h
 cases e:l[i]? with
 | none=>rw [e] at h;cases h
 | some r=>rw [e] at h;exact ⟨r,rfl,(Option.some.inj h).symm⟩
theorem wI {α:Type}{l:List α}{i:Nat}{r:α} (h:l[i]?=some r):l.take (i + 1)=l.take i ++ [r]:=by
 rw [List.take_add_one,h];rfl
theorem But.same {p:Addr} {H H1 H2:Hp} (hp:H p=none) (s:Same H H1) (g:But p H1 H2):Same H H2:=fun b u e=>g b u (xJ e hp) (s b u e)
theorem Same.put {l:Addr}{H H':Hp}{o:HO} (h:H l=none) (s:Same H H'):Same H (upd H' l o):=fun b u e=>by rw [xN (xJ e h)];exact s b u e
theorem BookAt.same {H H':Hp}{b tr tm:Addr}{rooms:List Int}{ps:List (Addr × M4)} (a:BookAt H b rooms tr tm ps) (t:Same H H'):BookAt H' b rooms tr tm ps:=a.tups (Tups.same t)
theorem tyS_lst {H:Hp}{l:Addr}{xs:List V} (h:H l=some (.lst xs)):tyS H (.ref l)=some "list" := by simp only [tyS,h]
def spWhole:Sp:=fun vs H Q _=>∃ x t,vs=[x]/\tyS H x=some t/\Q (.bl (t == "int")) H
def inB (lo hi:Int):V->Bool
 | .int i=>decide (lo<=i) && decide (i<=hi)
 | _=>false
def spWithin:Sp:=fun vs H Q _=>∃ x t lo hi,vs=[x,.int lo,.int hi]/\tyS H x=some t/\Q (.bl (inB lo hi x)) H
theorem tyS_int {H:Hp}{x:V} (h:tyS H x=some "int"):∃ i,x=.int i:=by
 cases x with
 | int i=>exact ⟨i,rfl⟩
 | ref a=>
  unfold tyS at h
  dsimp only at h
  split at h <;> simp at h
 | _=>simp [tyS] at h
theorem inB_no {H:Hp}{x:V}{t:String}{lo hi:Int} (h:tyS H x=some t) (n:¬ t = "int"):inB lo hi x=false:=by
 cases x with
 | int i=>simp [tyS] at h;exact absurd h.symm n
 | _=>rfl
def hasW (w:Int) (r:M4):Bool:=decide (r.lo=w) || decide (r.hi=w)
def numsTo (ms:List M4) (w:Int):Nat->List Int
 | 0=>[]
 | i + 1=>numsTo ms w i ++ (if (ms[i]?).any (hasW w)=true then [(i:Int)] else [])
theorem inV_two {w a b:Int}:inV (.int w) [.int a,.int b]=(decide (a=w) || decide (b=w)):=by
 simp only [inV,eqV,yw,List.any_nil,Bool.or_false]
 rfl
end Sm
namespace Sm
open PySem L2 SmSort
def spTimeOf:Sp:=fun vs H Q _=>∃ p b j rooms tr tm ps,vs=[.ref p,.ref b,.int j]/\(j=0\/j=1)/\BookAt H b rooms tr tm ps/\Good rooms.length (ps.map (·.2))/\Purse H p/\∀ d H',0<=d->d<=1000000000->Go p H H'->Q (.int d) H'
def spLetter:Sp:=fun vs H Q _=>∃ p b rooms tr tm ps,vs=[.ref p,.ref b]/\BookAt H b rooms tr tm ps/\1<=rooms.length/\rooms.length<=1000/\Good rooms.length (ps.map (·.2))/\Purse H p /\
 ∀ t (s a w z:Int) H',Go p H H'->H' t=some (.tup [.int s,.int a,.int w,.int z])->0<=s->s < rooms.length->0<=w->w < rooms.length->0<=a->a<=1000000000->0<=z->z<=1000000000->Q (.ref t) H'
theorem Good.len {w:Int}{ps:List (Addr × M4)} (g:Good w (ps.map (·.2))):ps.length<=60:=by simpa using g.few
theorem Good.at {w:Int}{ps:List (Addr × M4)} (g:Good w (ps.map (·.2))) {r:Addr × M4} (h:r ∈ ps):0<=r.2.lo/\r.2.lo < r.2.hi/\r.2.hi < w/\1<=r.2.t/\r.2.t<=1000000000/\1<=r.2.m/\r.2.m<=99:=g.each _ (zM.mpr ⟨r,h,rfl⟩)
end Sm
namespace L2
open PySem PySem.Spec PyProof.Rows
end L2
set_option Elab.async false
set_option linter.all false
namespace Sm
open PySem L2 SmSort
theorem ixt {K:PySem.W.Frag}{H:Hp}{a:Addr}{xs:List V}{i:Int}{v:V}{Q:V->Prop} (h:H a=some (.tup xs)) (hi:atI xs i=some v) (q:Q v):∃ p xs' i' v',V.ref a=.ref p/\V.int i=.int i'/\SqT K H p xs'/\atI xs' i'=some v'/\Q v':=⟨a,xs,i,v,rfl,rfl,SqT.of h,hi,q⟩
theorem ixl {K:PySem.W.Frag}{H:Hp}{a:Addr}{xs:List V}{i:Int}{v:V}{Q:V->Prop} (h:H a=some (.lst xs)) (hi:atI xs i=some v) (q:Q v):∃ p xs' i' v',V.ref a=.ref p/\V.int i=.int i'/\SqL K H p xs'/\atI xs' i'=some v'/\Q v':=⟨a,xs,i,v,rfl,rfl,SqL.of h,hi,q⟩
theorem us1 {fd:FuncData}{ps:List Str}{us:List Value} (h:us.length=1) (q:∀ a,bindArgs fd ⟨[a],[]⟩=pure (ps.zip [a])):bindArgs fd ⟨us,[]⟩=pure (ps.zip us):=match us,h with | [a],_=>q a
theorem us2 {fd:FuncData}{ps:List Str}{us:List Value} (h:us.length=2) (q:∀ a b,bindArgs fd ⟨[a,b],[]⟩=pure (ps.zip [a,b])):bindArgs fd ⟨us,[]⟩=pure (ps.zip us):=match us,h with | [a,b],_=>q a b
theorem us3 {fd:FuncData}{ps:List Str}{us:List Value} (h:us.length=3) (q:∀ a b c,bindArgs fd ⟨[a,b,c],[]⟩=pure (ps.zip [a,b,c])):bindArgs fd ⟨us,[]⟩=pure (ps.zip us):=match us,h with | [a,b,c],_=>q a b c
theorem us4 {fd:FuncData}{ps:List Str}{us:List Value} (h:us.length=4) (q:∀ a b c d,bindArgs fd ⟨[a,b,c,d],[]⟩=pure (ps.zip [a,b,c,d])):bindArgs fd ⟨us,[]⟩=pure (ps.zip us):=match us,h with | [a,b,c,d],_=>q a b c d
theorem us5 {fd:FuncData}{ps:List Str}{us:List Value} (h:us.length=5) (q:∀ a b c d e,bindArgs fd ⟨[a,b,c,d,e],[]⟩=pure (ps.zip [a,b,c,d,e])):bindArgs fd ⟨us,[]⟩=pure (ps.zip us):=match us,h with | [a,b,c,d,e],_=>q a b c d e
theorem ex4 {α0 α1 α2 α3:Type}{P:α0->α1->α2->α3->Prop} (x0:α0) (x1:α1) (x2:α2) (x3:α3) (h:P x0 x1 x2 x3):∃ y0:α0,∃ y1:α1,∃ y2:α2,∃ y3:α3,P y0 y1 y2 y3:=⟨x0,x1,x2,x3,h⟩
theorem ex5 {α0 α1 α2 α3 α4:Type}{P:α0->α1->α2->α3->α4->Prop} (x0:α0) (x1:α1) (x2:α2) (x3:α3) (x4:α4) (h:P x0 x1 x2 x3 x4):∃ y0:α0,∃ y1:α1,∃ y2:α2,∃ y3:α3,∃ y4:α4,P y0 y1 y2 y3 y4:=⟨x0,x1,x2,x3,x4,h⟩
theorem ex6 {α0 α1 α2 α3 α4 α5:Type}{P:α0->α1->α2->α3->α4->α5->Prop} (x0:α0) (x1:α1) (x2:α2) (x3:α3) (x4:α4) (x5:α5) (h:P x0 x1 x2 x3 x4 x5):∃ y0:α0,∃ y1:α1,∃ y2:α2,∃ y3:α3,∃ y4:α4,∃ y5:α5,P y0 y1 y2 y3 y4 y5:=⟨x0,x1,x2,x3,x4,x5,h⟩
theorem ex7 {α0 α1 α2 α3 α4 α5 α6:Type}{P:α0->α1->α2->α3->α4->α5->α6->Prop} (x0:α0) (x1:α1) (x2:α2) (x3:α3) (x4:α4) (x5:α5) (x6:α6) (h:P x0 x1 x2 x3 x4 x5 x6):∃ y0:α0,∃ y1:α1,∃ y2:α2,∃ y3:α3,∃ y4:α4,∃ y5:α5,∃ y6:α6,P y0 y1 y2 y3 y4 y5 y6:=⟨x0,x1,x2,x3,x4,x5,x6,h⟩
theorem ex8 {α0 α1 α2 α3 α4 α5 α6 α7:Type}{P:α0->α1->α2->α3->α4->α5->α6->α7->Prop} (x0:α0) (x1:α1) (x2:α2) (x3:α3) (x4:α4) (x5:α5) (x6:α6) (x7:α7) (h:P x0 x1 x2 x3 x4 x5 x6 x7):∃ y0:α0,∃ y1:α1,∃ y2:α2,∃ y3:α3,∃ y4:α4,∃ y5:α5,∃ y6:α6,∃ y7:α7,P y0 y1 y2 y3 y4 y5 y6 y7:=⟨x0,x1,x2,x3,x4,x5,x6,x7,h⟩
theorem ex9 {α0 α1 α2 α3 α4 α5 α6 α7 α8:Type}{P:α0->α1->α2->α3->α4->α5->α6->α7->α8->Prop} (x0:α0) (x1:α1) (x2:α2) (x3:α3) (x4:α4) (x5:α5) (x6:α6) (x7:α7) (x8:α8) (h:P x0 x1 x2 x3 x4 x5 x6 x7 x8):∃ y0:α0,∃ y1:α1,∃ y2:α2,∃ y3:α3,∃ y4:α4,∃ y5:α5,∃ y6:α6,∃ y7:α7,∃ y8:α8,P y0 y1 y2 y3 y4 y5 y6 y7 y8:=⟨x0,x1,x2,x3,x4,x5,x6,x7,x8,h⟩
theorem ex11 {α0 α1 α2 α3 α4 α5 α6 α7 α8 α9 α10:Type}{P:α0->α1->α2->α3->α4->α5->α6->α7->α8->α9->α10->Prop} (x0:α0) (x1:α1) (x2:α2) (x3:α3) (x4:α4) (x5:α5) (x6:α6) (x7:α7) (x8:α8) (x9:α9) (x10:α10) (h:P x0 x1 x2 x3 x4 x5 x6 x7 x8 x9 x10):∃ y0:α0,∃ y1:α1,∃ y2:α2,∃ y3:α3,∃ y4:α4,∃ y5:α5,∃ y6:α6,∃ y7:α7,∃ y8:α8,∃ y9:α9,∃ y10:α10,P y0 y1 y2 y3 y4 y5 y6 y7 y8 y9 y10:=⟨x0,x1,x2,x3,x4,x5,x6,x7,x8,x9,x10,h⟩
theorem un2 {K:PySem.W.Frag}{H:Hp}{a:Addr} {v0 v1:V}{Q:V->V->Prop} (h:H a=some (.tup [v0,v1])) (q:Q v0 v1):∃ a' xs,V.ref a=.ref a'/\SqT K H a' xs/\xs.length=2/\∃ w0 r0,xs=w0 :: r0/\∃ w1 r1,r0=w1 :: r1/\r1=[]/\Q w0 w1:=⟨a,_,rfl,SqT.of h,rfl,_,_,rfl,_,_,rfl,rfl,q⟩
theorem un3 {K:PySem.W.Frag}{H:Hp}{a:Addr} {v0 v1 v2:V}{Q:V->V->V->Prop} (h:H a=some (.tup [v0,v1,v2])) (q:Q v0 v1 v2):∃ a' xs,V.ref a=.ref a'/\SqT K H a' xs/\xs.length=3/\∃ w0 r0,xs=w0 :: r0/\∃ w1 r1,r0=w1 :: r1/\∃ w2 r2,r1=w2 :: r2/\r2=[]/\Q w0 w1 w2:=⟨a,_,rfl,SqT.of h,rfl,_,_,rfl,_,_,rfl,_,_,rfl,rfl,q⟩
theorem un4 {K:PySem.W.Frag}{H:Hp}{a:Addr} {v0 v1 v2 v3:V}{Q:V->V->V->V->Prop} (h:H a=some (.tup [v0,v1,v2,v3])) (q:Q v0 v1 v2 v3):∃ a' xs,V.ref a=.ref a'/\SqT K H a' xs/\xs.length=4/\∃ w0 r0,xs=w0 :: r0/\∃ w1 r1,r0=w1 :: r1/\∃ w2 r2,r1=w2 :: r2/\∃ w3 r3,r2=w3 :: r3/\r3=[]/\Q w0 w1 w2 w3:=⟨a,_,rfl,SqT.of h,rfl,_,_,rfl,_,_,rfl,_,_,rfl,_,_,rfl,rfl,q⟩
theorem zr {α:Sort _}{A Q:α->Prop}{x:α} (a:A x) (q:Q x):∃ y,A y/\Q y:=⟨x,a,q⟩
theorem zr1 {α β:Sort _}{A Q:α->β->Prop}{x:α}{y:β} (a:A x y) (q:Q x y):∃ x y,A x y/\Q x y:=⟨x,y,a,q⟩
theorem zr2 {α β:Sort _}{A B Q:α->β->Prop}{x:α}{y:β} (a:A x y) (b:B x y) (q:Q x y):∃ x y,A x y/\B x y/\Q x y:=⟨x,y,a,b,q⟩
end Sm
set_option Elab.async false
set_option linter.all false
set_option maxRecDepth 100000
set_option maxHeartbeats 4000000
namespace L2
open PySem PySem.Spec PyProof.Rows
section
variable {X:Cx}
def oV:Option Int->V
 | none=>.non
 | some i=>.int i
theorem oV_flat (o:Option Int):flatV (oV o)=true:=by cases o <;> rfl
theorem oV_eq (a b:Option Int):eqV (oV a) (oV b)=decide (a=b):=by
 cases a <;> cases b <;> simp [oV,eqV]
 rfl
theorem all_range {n:Nat}{e:Nat->Bool}{b:Bool} (h:(∀ j,j < n->e j=true) ↔ b=true):(List.range n).all e=b:=by
 cases b with
 | true=>rw [List.all_eq_true];intro j hj;exact h.mpr rfl j (zn.mp hj)
 | false=>
  cases c:(List.range n).all e with
  | false=>rfl
  | true=>exact absurd (h.mp fun j hj=>List.all_eq_true.mp c j (zn.mpr hj)) (by simp)
theorem eqO_items {A:Around}{s:Shared}{os ps:List (Option Int)}{us ws:List Value} (r:Vals (os.map oV) us) (r2:Vals (ps.map oV) ws) (hl:us.length=ws.length) :
  (∀ j (h1:j < us.toArray.size) (h2:j < ws.toArray.size),SeqAt.EqAt A s us.toArray[j] ws.toArray[j] (decide (os[j]?=ps[j]?)))/\(List.range us.toArray.size).all (fun j=>decide (os[j]?=ps[j]?))=decide (os=ps):=by
 have l1:os.length=us.length:=by have:=r.length;simpa using this
 have l2:ps.length=ws.length:=by have:=r2.length;simpa using this
 refine ⟨fun j h1 h2=>?_,all_range ?_⟩
 ·simp only [zQ] at h1 h2
  have a1:j < os.length:=by omega
  have a2:j < ps.length:=by omega
  obtain ⟨u,eu,ru⟩:=r.get (i:=j) (x:=oV os[j]) (by simp [a1])
  obtain ⟨w,ew,rw'⟩:=r2.get (i:=j) (x:=oV ps[j]) (by simp [a2])
  have e1:us.toArray[j]=u:=by rw [List.getElem_toArray];exact Option.some.inj ((zE h1).symm.trans eu)
  have e2:ws.toArray[j]=w:=by rw [List.getElem_toArray];exact Option.some.inj ((zE h2).symm.trans ew)
  rw [e1,e2]
  have:=eqAt_V (A:=A) (s:=s) ru rw' (oV_flat _) (oV_flat _)
  rw [oV_eq] at this
  simpa [a1,a2] using this
 ·simp only [zQ,decide_eq_true_eq]
  constructor
  ·intro h
   apply yg
   intro j
   by_cases hj:j < us.length
   ·exact h j hj
   ·rw [zp (by omega),zp (by omega)]
  ·rintro rfl j _;rfl
theorem op_neO (hu:X.A.units + 64 < cLine):OpR X (compareOp .NotEq) (fun x y H Q=>∃ (a b:Addr) (os ps:List (Option Int)),x=.ref a/\y=.ref b/\SqL X.K H a (os.map oV)/\SqL X.K H b (ps.map oV)/\Q (.bl (!decide (os=ps))) H):=by
 intro pins s σ H x y v u Q I rx ry h
 obtain ⟨a,b,os,ps,rfl,rfl,ha,hb,q⟩:=h
 cases rx;cases ry
 obtain ⟨its,r,p,_⟩:=I.list ha
 obtain ⟨its2,r2,p2,_⟩:=I.list hb
 have l1:os.length=its.length:=by have:=r.length;simpa using this
 have l2:ps.length=its2.length:=by have:=r2.length;simpa using this
 by_cases hl:its.length=its2.length
 ·obtain ⟨e1,e2⟩:=eqO_items (A:=X.A.in1) (s:=s) r r2 hl
  exact SeqAt.RcNeAt.lists p.isList p2.isList (by simpa using hl) (by omega) e1 _ _ _ _ ⟨.bl _,H,I,by rw [e2];rfl,q⟩
 ·have e:decide (os=ps)=false:=by
   rw [decide_eq_false_iff_not];rintro rfl;omega
  rw [e] at q
  exact SeqAt.RcNeAt.lists_lengths p.isList p2.isList (by simpa using hl) (by omega) _ _ _ _ ⟨.bl _,H,I,rfl,q⟩
end
end L2
namespace Sm
open PySem L2 SmSort
def spIsWalker:Sp:=fun vs H Q _=>∃ b x t rooms tr tm ps,vs=[.ref b,x]/\BookAt H b rooms tr tm ps/\tyS H x=some t/\Q (.bl (inB 0 ((rooms.length:Int) - 1) x)) H
theorem tyS_tup {H:Hp}{l:Addr}{xs:List V} (h:H l=some (.tup xs)):tyS H (.ref l)=some "tuple" := by simp only [tyS,h]
end Sm
set_option Elab.async false
set_option linter.all false
set_option maxRecDepth 100000
set_option maxHeartbeats 4000000
namespace Sm
open PySem L2 SmSort
abbrev Fn:=Nat->Option Int
def put (f:Fn) (k:Nat) (x:Option Int):Fn:=fun i=>if i=k then x else f i
theorem put_same {f:Fn}{k:Nat}{x:Option Int}:put f k x k=x:=by unfold put;rw [if_pos rfl]
theorem put_ne {f:Fn}{k i:Nat}{x:Option Int} (h:i ≠ k):put f k x i=f i:=by unfold put;rw [if_neg h]
def lone (k:Nat) (x:Int):Fn:=fun i=>if i=k then some x else none
def below (o:Option Int) (t:Int):Bool:=match o with
 | some y=>decide (y < t)
 | none=>false
theorem below_iff {o:Option Int}{t:Int}:below o t=true ↔ ∃ y,o=some y/\y < t:=by
 cases o <;> simp [below]
def upto (o:Option Int) (t:Int):Bool:=match o with
 | some y=>decide (y<=t)
 | none=>false
structure W3 where
 g:Nat
 o:Nat
 t:Int
def two (m:M4):List W3:=[⟨m.lo.toNat,m.hi.toNat,m.t⟩,⟨m.hi.toNat,m.lo.toNat,m.t⟩]
def ways2 (ms:List M4):List W3:=ms.flatMap two
def fstep (st:Fn) (x:W3):Fn:=if st x.o=none/\below (st x.g) x.t=true then put st x.o (some x.t) else st
def fwd (ms:List M4) (st:Fn):Fn:=(ways2 ms).foldl fstep st
theorem fstep_some {st:Fn}{x:W3}{i:Nat}{y:Int} (h:st i=some y):fstep st x i=some y:=by
 unfold fstep
 split
 ·rename_i c
  by_cases e:i=x.o
  ·rw [e,c.1] at h;cases h
  ·rw [put_ne e];exact h
 ·exact h
def Ord (t:Int) (ms:List M4):Prop:=(∀ m ∈ ms,t<=m.t/\m.lo.toNat ≠ m.hi.toNat)/\ms.Pairwise fun a b=>a.t<=b.t
theorem Good.ord {w:Int}{ms:List M4} (g:Good w ms):Ord 1 ms:=by
 refine ⟨fun m hm=>?_,g.order.imp fun h=>?_⟩
 ·obtain ⟨a1,a2,a3,a4,_⟩:=g.each m hm
  exact ⟨a4,by omega⟩
 ·rcases h with h | h
  ·omega
  ·omega
def rep (n:Nat) (f:Fn):List (Option Int):=(List.range n).map f
theorem rep_len (n:Nat) (f:Fn):(rep n f).length=n:=by simp [rep]
def spBelow:Sp:=fun vs H Q _=>∃ o t,vs=[oV o,.int t]/\Q (.bl (below o t)) H
def spLone:Sp:=fun vs H Q _=>∃ b,∃ k:Nat,∃ x rooms tr tm ps,vs=[.ref b,.int k,.int x]/\BookAt H b rooms tr tm ps/\rooms.length<=1000/\∀ l H',H l=none->Same H H'->H' l=some (.lst ((rep rooms.length (lone k x)).map oV))->Q (.ref l) H'
end Sm
namespace L2
open PySem PySem.Spec PyProof.Rows
section
variable {n:Nat}{caps:List Nat}{g:TG}{tc:TT}{te:TE}{σ:St}{H:Hp}{Qf:Addr->Hp->List V->Prop}
theorem comp_range {lo:Int}{m:Nat} (Pv:Nat->St->List V->Hp->Prop) (h0:Pv 0 (tau0 n caps σ) [] H) (hn:m<=1000) (hl:∀ i τ acc H,Pv i τ acc H->acc.length<=i)
  (hs:∀ i τ acc H (C:St->List V->Hp->Prop),i < m->Pv i τ acc H->(∀ τ acc H,Pv (i + 1) τ acc H->C τ acc H)->g (.int (lo + i)) τ H fun τ2 H2=>tc τ2 H2 fun b H3=>if b=true then te τ2 H3 fun y H4=>C τ2 (acc ++ [y]) H4 else C τ2 acc H3)
  (hd:∀ τ acc H,Pv m τ acc H->∀ p,H p=none->Qf p H acc) :
  ∃ W:Nat->Nat->St->List V->Hp->Prop,(∃ m,W 0 m (tau0 n caps σ) [] H)/\∀ i m' τ acc H,W i m' τ acc H ->
   ((Itr lo m).stop i H/\acc.length<=sizeLine/\∀ p,H p=none->Qf p H acc) \/
   ((Itr lo m).go i H/\acc.length < sizeLine/\∀ x H',(Itr lo m).yld i H x H'->g x τ H' fun τ2 H2=>tc τ2 H2 fun b H3=>if b=true then te τ2 H3 fun y H4=>∃ m'',m'' < m'/\W (i + 1) m'' τ2 (acc ++ [y]) H4 else ∃ m'',m'' < m'/\W (i + 1) m'' τ2 acc H3):=
 comp_of (J:=Itr lo m) Pv m h0 hn hl (fun i τ acc H hi p=>hi) (fun τ acc H p=>zJ _)
  (fun i τ acc H C hi p c x H' y=>by obtain ⟨e1,e2⟩:=y;subst e1;subst e2;exact hs i τ acc _ C hi p c) hd
end
end L2
set_option Elab.async false
set_option linter.all false
set_option maxRecDepth 100000
set_option maxHeartbeats 4000000
namespace Sm
open PySem L2 SmSort
def run (ws:List W3) (st:Fn):Fn:=ws.foldl fstep st
theorem run_keep:∀ {ws:List W3}{st:Fn}{i:Nat}{y:Int},st i=some y->run ws st i=some y
 | [],_,_,_,h=>h
 | w :: ws,st,i,y,h=>run_keep (ws:=ws) (fstep_some h)
theorem run_from:∀ {ws:List W3}{st:Fn}{i:Nat}{t:Int},run ws st i=some t->st i=none->∃ x ∈ ws,x.o=i/\x.t=t/\∃ y,run ws st x.g=some y/\y < t
 | [],st,i,t,h,h0=>by
  have:st i=some t:=h
  rw [h0] at this;cases this
 | w :: ws,st,i,t,h,h0=>by
  have h':run ws (fstep st w) i=some t:=h
  cases e:fstep st w i with
  | none=>
   obtain ⟨x,hx,a,b,y,hy,lt⟩:=run_from h' e
   exact ⟨x,.tail _ hx,a,b,y,hy,lt⟩
  | some z=>
   have z':=run_keep (ws:=ws) e
   rw [h'] at z';cases z'
   unfold fstep at e
   split at e
   ·rename_i c
    by_cases io:i=w.o
    ·subst io
     rw [put_same] at e;cases e
     obtain ⟨y,hy,lt⟩:=below_iff.mp c.2
     exact ⟨w,.head _,rfl,rfl,y,run_keep (ws:=w :: ws) hy,lt⟩
    ·rw [put_ne io,h0] at e;cases e
   ·rw [h0] at e;cases e
end Sm
set_option Elab.async false
set_option linter.all false
set_option maxRecDepth 100000
set_option maxHeartbeats 4000000
namespace L2
open PySem PySem.Spec PyProof.Rows
section
variable {X:Cx}{pins:List (Addr × Obj)}{σ:St}{H:Hp}{s:Shared}
theorem Inv.keptAll {m:Str->Option Value}{h':Heap}{tk:Nat} (I:Inv X pins σ H s) (F0:Fr X.base X.env.locals s.heap m) (F:Fr X.base X.env.locals h' m)
  (N:News X.base X.env.locals h' (allNews X.base s.heap X.env.locals)):Inv X pins σ H { s with heap:=h',toks:=tk }:=by
 have keep:∀ b o,b ≠ X.env.locals->s.heap.get? b=some o->h'.get? b=some o:=fun b o hb e=>by
  cases q:X.base.get? b with
  | some u=>
   have:=I.bk b u q
   rw [e] at this;cases this
   exact F.keep b _ q
  | none=>exact (N (b,o) (mem_allNews hb q e)).1
 refine I.step (g':=s.gens) (t':=tk) (d':=s.drawn) (ch:=[]) (fun _ z=>nomatch z) (fun b o hb _ _ e _=>keep b o hb e) (fun b o hb _ _ e _=>⟨o.slots,keep b o hb e⟩) (fun b o _ e n=>n) (fun b o _ e=>?_)
  (fun b ys e=>e) (fun b o u e=>e) (fun b ps e=>⟨#[],by rw [e,Array.append_empty]⟩) (fun m' hm=>?_) (fun b u e=>?_) I.bare
 ·by_cases hb:b=X.env.locals
  ·obtain ⟨o',_,_,q,_⟩:=F.ns
   exact ⟨o',by rw [hb];exact q⟩
  ·exact ⟨o,keep b o hb e⟩
 ·obtain ⟨o1,es1,ep1,e1,d1,k1,f1⟩:=hm
  obtain ⟨o2,es2,ep2,e2,d2,k2,f2⟩:=F0.ns
  rw [e1] at e2;cases e2
  rw [d1] at d2;cases d2
  obtain ⟨o3,es3,ep3,e3,d3,k3,f3⟩:=F.ns
  exact ⟨o3,es3,ep3,e3,d3,k3,fun name=>(f3 name).trans ((f2 name).symm.trans (f1 name))⟩
 ·refine (I.hok b u e).stay (fun c v hc q=>keep c v (fun z=>?_) q) (fun c q=>q) fun c ys q=>q
  rcases hc with rfl | hc
  ·rw [z,I.free] at e;cases e
  ·rw [z,I.free] at hc;cases hc
theorem bools_of:∀ {bs:List Bool}{us:List Value},Vals (bs.map V.bl) us->LSm.BoolsAre us bs
 | [],us,r=>by cases r;exact .nil
 | b :: bs,us,r=>by
  cases r with
  | cons x y=>
   cases x
   exact .cons b (bools_of y)
theorem call_all {K:PySem.W.Frag} (hK:X.K=K) (hc:X.calm=true):CallR X (.builtin "all") (fun xs H Q=>∃ p,∃ bs:List Bool,xs=[.ref p]/\SqL K H p (bs.map V.bl)/\Q (.bl (bs.all id)) H):=by
 subst hK
 intro pins s σ H xs us Q I r h
 obtain ⟨p,bs,rfl,hq,q⟩:=h
 obtain ⟨u,rfl,rx⟩:=vals1 r
 cases rx
 obtain ⟨its,r',pl,hz⟩:=I.list hq
 obtain ⟨m,F⟩:=I.fr
 exact LSm.all_bools F (news_all (g:=X.base) (h:=s.heap)) (I.ok.hd hc) pl.isList (bools_of r') fun h' tk F' N'=>⟨.bl _,H,I.keptAll F F' N',rfl,q⟩
end
end L2
namespace Sm
open PySem L2 SmSort
end Sm
set_option Elab.async false
set_option linter.all false
set_option maxRecDepth 100000
set_option maxHeartbeats 4000000
namespace Sm
open PySem L2 SmSort
def walkM (ms:List M4):Nat->Int->Int->List Int->Option (Nat × Int)
 | v,t,_,[]=>some (v,t)
 | v,t,a,n :: ns=>match ms[n.toNat]? with
  | none=>none
  | some m=>if a < n/\0<=n/\(v=m.lo.toNat\/v=m.hi.toNat)/\t < m.t then walkM ms (if v=m.lo.toNat then m.hi.toNat else m.lo.toNat) m.t n ns else none
theorem Tups.setD {l:Addr}{H:Hp}{kvs:List (Key × V)}{o:HO} (h:H l=some (.dK kvs)):Tups H (upd H l o):=fun b u e=>by rw [xN (wK e h (by intro z;cases z))];exact e
theorem idx_lt {ms:List M4} (o:ms.Pairwise fun a b=>a.t<=b.t) {i j:Nat}{a b:M4} (hi:ms[i]?=some a) (hj:ms[j]?=some b) (lt:a.t < b.t):i < j:=by
 obtain ⟨h1,e1⟩:=zB.mp hi
 obtain ⟨h2,e2⟩:=zB.mp hj
 rcases Nat.lt_trichotomy i j with h | h | h
 ·exact h
 ·subst h;rw [e1] at e2;rw [e2] at lt;omega
 ·have:=yD.mp o j i h2 h1 h
  rw [e1,e2] at this
  omega
theorem walk_step {ms:List M4}{v:Nat}{t A n:Int}{ns:List Int}{r:Nat × Int} (h:walkM ms v t A (n :: ns)=some r):∃ m,ms[n.toNat]?=some m/\A < n/\0<=n/\(v=m.lo.toNat\/v=m.hi.toNat)/\t < m.t/\walkM ms (if v=m.lo.toNat then m.hi.toNat else m.lo.toNat) m.t n ns=some r:=by
 unfold walkM at h
 cases e:ms[n.toNat]? with
 | none=>rw [e] at h;cases h
 | some m=>
  rw [e] at h
  dsimp only at h
  split at h
  ·rename_i c;exact ⟨m,rfl,c.1,c.2.1,c.2.2.1,c.2.2.2,h⟩
  ·cases h
theorem Purse.same {H H':Hp}{p:Addr} (h:Purse H p) (e:Same H H'):Purse H' p:=by
 obtain ⟨x,y,z,q⟩:=h
 exact ⟨x,y,z,e _ _ q⟩
end Sm
set_option Elab.async false
set_option linter.all false
set_option maxRecDepth 100000
set_option maxHeartbeats 4000000
namespace Sm
open PySem L2 SmSort
def spOtherAt:Sp:=fun vs H Q _=>∃ b,∃ k:Nat,∃ v:Int,∃ rooms tr tm ps,∃ m:M4,vs=[.ref b,.int k,.int v]/\BookAt H b rooms tr tm ps/\(ps.map (·.2))[k]?=some m/\Q (.int (if v=m.lo then m.hi else m.lo)) H
def spIsMeetNo:Sp:=fun vs H Q _=>∃ b x t rooms tr tm ps,vs=[.ref b,x]/\BookAt H b rooms tr tm ps/\tyS H x=some t/\Q (.bl (inB 0 ((ps.length:Int) - 1) x)) H
end Sm
set_option Elab.async false
set_option linter.all false
set_option maxRecDepth 100000
set_option maxHeartbeats 4000000
namespace Sm
open PySem L2 SmSort
end Sm
namespace L2
open PySem
theorem iteN {c:Bool}{A:Prop}{D:Ends}{σ:St}{H:Hp} (Pre:St->Hp->Prop) (k:∀ σ H,Pre σ H->D.nx σ H) (h1:c=true->(∀ σ H,Pre σ H->D.nx σ H)->A) (h2:c=false->Pre σ H):if c=true then A else tNext D σ H:=by
 cases c with
 | true=>exact h1 rfl k
 | false=>exact k _ _ (h2 rfl)
end L2
set_option Elab.async false
set_option linter.all false
namespace Sm
open PySem L2 SmSort
theorem iteO {c:Bool}{A B:Prop}{D:Ends}{σ:St}{H:Hp} (Pre:St->Hp->Prop) (k:∀ σ H,Pre σ H->D.nx σ H) (h1:c=true->(∀ σ H,Pre σ H->D.nx σ H)->A) (h2:c=false->(∀ σ H,Pre σ H->D.nx σ H)->B):if c=true then (if true=true then A else tNext D σ H) else B:=by
 cases c with
 | true=>exact h1 rfl k
 | false=>exact h2 rfl k
theorem iteA {c:Bool} {T2 A:Prop}{D:Ends}{σ:St}{H:Hp} (Pre:St->Hp->Prop) (k:∀ σ H,Pre σ H->D.nx σ H) (h1:c=true->(∀ σ H,Pre σ H->D.nx σ H)->T2) (h2:c=false->Pre σ H):if c=true then T2 else (if false=true then A else tNext D σ H):=by
 cases c with
 | true=>exact h1 rfl k
 | false=>exact k _ _ (h2 rfl)
end Sm
set_option Elab.async false
set_option linter.all false
set_option maxRecDepth 100000
set_option maxHeartbeats 4000000
namespace Sm
open PySem L2 SmSort
def oth (v:Nat) (m:M4):Nat:=if v=m.lo.toNat then m.hi.toNat else m.lo.toNat
end Sm
set_option Elab.async false
set_option linter.all false
set_option maxRecDepth 100000
set_option maxHeartbeats 4000000
namespace Sm
open PySem L2 SmSort
theorem ahead {n:Nat}{ms:List M4}{m:M4} (g:Good n (ms ++ [m])) {v:Nat}{x y:Int}{i:Nat} (hi:i ≠ v) (h:fwd ms (lone v x) i=some y):y<=m.t/\((i=m.lo.toNat\/i=m.hi.toNat)->y < m.t):=by
 obtain ⟨a,ha,ao,at',_⟩:=run_from (ws:=ways2 ms) h (by simp [lone,hi])
 unfold ways2 at ha
 obtain ⟨c,hc,hx⟩:=List.mem_flatMap.mp ha
 have od:=(yQ.mp g.order).2.2 c hc m (by simp)
 obtain ⟨c1,c2,c3,_⟩:=g.each c (by simp [hc])
 obtain ⟨m1,m2,m3,_⟩:=g.each m (by simp)
 unfold two at hx
 simp only [zR,List.not_mem_nil,or_false] at hx
 have ct:c.t=y:=by rcases hx with rfl | rfl <;> exact at'
 have ci:i=c.lo.toNat\/i=c.hi.toNat:=by
  rcases hx with rfl | rfl
  ·exact .inr ao.symm
  ·exact .inl ao.symm
 refine ⟨by rcases od with h | h <;> omega,fun hm=>?_⟩
 rcases od with h | ⟨h1,h2,h3,h4,h5,h6⟩
 ·omega
 ·exfalso
  rcases ci with e | e <;> rcases hm with e' | e' <;> omega
end Sm
set_option Elab.async false
set_option linter.all false
set_option maxRecDepth 100000
set_option maxHeartbeats 4000000
namespace L2
open PySem PySem.Spec PyProof.Rows
section
variable {X:Cx}{pins:List (Addr × Obj)}{σ:St}{H:Hp}{s:Shared}
theorem ps_setComp {ix:Nat}{xn:Str}{pos' spos:Pos}{own:List Str}{caps:List Nat}{elt tg iter:Expr}{ifs:List Expr}{scope:Scope}{pos:Pos}{wi:TI}{g:TG}{tc:TT}{te:TE} (hN:X.N.Nodup) (hix:X.N[ix]?=some xn) (hxl:Loc X.env.scope xn) (hc:X.calm=true) (S:CompScope own caps X.N X.env.scope scope) (hi:PI X tg iter wi)
  (hg:∀ s H fp C,PG (cxComp X own caps scope s H fp C) tg g) (ht:∀ s H fp C,PTs (cxComp X own caps scope s H fp C) ifs tc) (he:∀ s H fp C,PE (cxComp X own caps scope s H fp C) elt te)
  (hs:∀ x,foldedSetIterable iter X.env x=pure x:=by intro _;rfl) (hsw:swapsWith (.ListComp elt [⟨tg,iter,ifs,0⟩] scope pos) (some (.Name xn pos')) spos.line X.env=pure true:=by rfl)
  (hf:X.fn xn=true\/X.env.scope.names.lookup xn=some .local:=by first | exact .inl rfl | exact .inr rfl | assumption) :
  PS X (.Assign [.Name xn pos'] (.ListComp elt [⟨tg,iter,ifs,0⟩] scope pos) spos) (tAsg (tComp own.length caps wi g tc te) (gName ix)):=by
 intro pins s σ H D0 I h
 rw [exec_Assign_Name_used _ _ _ _ hsw,arm_evalThenUse_ListComp]
 suffices main:wpAny (model X.prog X.w) X.A (comprehension (.ListComp elt [⟨tg,iter,ifs,0⟩] scope pos) scope X.env (firstIterPos [⟨tg,iter,ifs,0⟩] pos) (newList []) false (eval iter X.env) (some (assign (.Name xn pos') X.env))) (fun _ s1=>SP X pins D0 .next s1) X.xe s from
  wpAny_bind (wpAny_standAt (wpAny_bind (wpAny_bind (wpAny_mono main (fun _ s1 h=>wpAny_pure (wpAny_pure h)) fun _ _ e=>e))))
 refine wpAny_comprehension_free (use:=some _) (cl:=clOf scope.names X.env []) rfl hs (closureFor_eq fun y hy e=>I.ok.has y.1 (S.fr y hy e)) S.kind S.loc
  (wpAny_mono (hi pins s σ H _ I h) (fun v s1 h1=>thn h1 fun itv s2 h2=>?_) fun _ _ e=>e)
 obtain ⟨it,fp,tn,J,H2,e,I2,T,st2,f2,W,⟨m0,w0⟩,turn⟩:=h2
 subst e
 refine wpAny_newObj_type (wpAny_newFunctionEnv S.nocell (by intro y hy;simp at hy) (fun h₁ hns₁ hsb₁=>?_) S.kind)
 dsimp only at hns₁ hsb₁ ⊢
 generalize hH2:s2.heap.push { cls:=.type "list", dict:=none,data:=.seq ([]:List Value).toArray }=G at hns₁ hsb₁ ⊢
 have hG:G.objs.size=s2.heap.objs.size + 1:=by rw [<-hH2,Heap.size_push]
 have hDC:s2.heap.objs.size ≠ G.objs.size:=by rw [hG];exact zU (yB _)
 have hCle:s2.heap.objs.size<=G.objs.size:=by rw [hG];exact yl _
 have below:∀ b,b < s2.heap.objs.size->b ≠ G.objs.size:=fun b hb=>by rw [hG];exact zU (Nat.lt_succ_of_lt hb)
 have old:∀ b o,s2.heap.get? b=some o->h₁.get? b=some o:=fun b o e=>hsb₁.extBut b o (below b (Heap.lt_size e)) (Heap.get?_push_of_some _ (hH2 ▸ Heap.get?_push_of_some _ e))
 have hacc:h₁.get? s2.heap.objs.size=some { cls:=.type "list", dict:=none,data:=.seq ([]:List Value).toArray }:=hsb₁.extBut _ _ hDC (Heap.get?_push_of_some _ (hH2 ▸ Heap.get?_push_size _ rfl))
 have fl:∀ b ∈ fp,b < s2.heap.objs.size:=fun b hb=>let ⟨o,e,_⟩:=T.obj _ _ st2 b hb;Heap.lt_size e
 have hns₁':h₁.Ns G.objs.size fun _=>none:=hns₁
 have I4:=inv_comp (tk:=s2.toks + ([]:List (Str × Value)).length) I2 S f2 fl (zJ _) hCle hDC old hns₁' hacc (fun v z=>nomatch z)
 have st4:tn 0 h₁:=T.keep _ _ _ st2 fun b _ o e=>old b o e
 generalize hs4:({ s2 with heap:=h₁,toks:=s2.toks + ([]:List (Str × Value)).length }:Shared)=s4 at I4 ⊢
 have e4:s4.heap=h₁:=by rw [<-hs4]
 rw [<-e4] at st4
 -- the loop
 have loop:codeAny (model X.prog X.w) X.A (.compLoop (.ListComp elt [⟨tg,iter,ifs,0⟩] scope pos) 0 (.ref it) (.ref s2.heap.objs.size) (compEnvC scope (clOf scope.names X.env []) G.objs.size X.env))
   (compPost (model X.prog X.w) X.A X.xe (some (assign (.Name xn pos') X.env)) (fun _ s1=>SP X pins D0 .next s1) (.ref s2.heap.objs.size) G.objs.size) s4:=by
  let Y:=cxComp X own caps scope s2 H2 fp G.objs.size
  have stat:∀ {H':Hp}{its:List Value}{n:Nat},(∀ b ∈ fp,H' b=none)->∀ b ∈ fp,FpOk Y [(s2.heap.objs.size,({ cls:=.type "list", data:=.seq its.toArray n }:Obj))] H' b:=fun {H' its n} hn b hb=>by
   refine ⟨hn b hb,below b (fl b hb),fun z=>?_,.inl hb,fun x c e=>(f2 b hb).2.2.2.2.1 x c (xo e),fun p hp=>?_⟩
   ·rcases zR.mp (I2.stkSub b z) with e | e
    ·exact (f2 b hb).2.1 e
    ·exact (f2 b hb).2.2.1 e
   ·have e:p=(s2.heap.objs.size,({ cls:=.type "list", data:=.seq its.toArray n }:Obj)):=by simpa using (show p ∈ [] ++ [_] from hp)
    subst e
    exact yz (fl b hb)
  refine loop_comp (fun n s'=>∃ i τ acc its k H',Inv Y [(s2.heap.objs.size,({ cls:=.type "list", data:=.seq its.toArray k }:Obj))] τ H' s'/\tn i s'.heap/\(∀ b ∈ fp,H' b=none)/\Vals acc its/\W i n τ acc H') ?_ m0
   ⟨0,_,[],[],0,H2,I4,st4,fun b hb=>(f2 b hb).1,.nil,w0⟩
  rintro n s5 ⟨i,τ,acc,its,k,H5,I5,st5,fr5,rv5,w5⟩
  rcases turn i n τ acc H5 w5 with ⟨stop,hz,q⟩ | ⟨go,hz,step⟩
  ·refine thn (T.done Y rfl rfl rfl hc i _ s5 τ H5 (fun _ _=>False) I5 (stat fr5) st5 stop) fun r s6 ⟨hr,I6⟩=>?_
   subst hr
   obtain ⟨eD,nD,_,_,_⟩:=I6.pin _ (zS _ (zI.mpr rfl))
   obtain ⟨m6,hm6,_⟩:=I6.loc
   have hC6:H5 G.objs.size=none:=I6.free
   have hok6:HOk X.prog X.w H5 s6.heap:=I6.hok
   have ub:=I6.base
   have IX:Inv X pins σ (upd H5 s2.heap.objs.size (.lst acc)) s6:=by
    refine I2.call' (ch:=fp) (s':=s6) I6.os ⟨fun b o e n' hb hx=>ub.keep b o e n' hb hx,fun b o e n' hb hx=>?_,fun b o e n' hx=>?_,fun b o e hx=>?_,fun b xs e=>?_,fun b o u e=>?_,fun b ps e=>?_⟩
     (hok6.track nD ⟨hz,its,k,rv5,eD⟩) I6.bare fun b hb=>⟨(f2 b hb).2.2.2.1,(f2 b hb).2.1,(f2 b hb).2.2.2.2.1,(f2 b hb).2.2.2.2.2⟩
    ·exact ub.slot b o e n' hb hx
    ·rw [xN (zU (Heap.lt_size e))]
     exact ub.free b o e n' hx
    ·exact ub.there b o e hx
    ·have z:=ub.tups b xs e
     rw [xN (xJ z nD)];exact z
    ·have z:=ub.frzs b o u e
     rw [xN (xJ z nD)];exact z
    ·obtain ⟨more,z⟩:=ub.tbls b ps e
     exact ⟨more,by rw [xN (xJ z nD)];exact z⟩
   have hCX:(upd H5 s2.heap.objs.size (.lst acc)) G.objs.size=none:=by rw [xN (Ne.symm hDC)];exact hC6
   have fC:FpOk X pins (upd H5 s2.heap.objs.size (.lst acc)) G.objs.size:=I2.fpOk hCle hCX
   obtain ⟨oC,esC,epC,gC,dC,rC⟩:=hm6
   have IP:=IX.pinned (fp:=[G.objs.size]) (fun b hb=>by cases zI.mp hb;exact fC) (fun b hb=>by cases zI.mp hb;exact ⟨oC,gC,fun v z=>by rw [dC] at z;cases z⟩)
   refine wpAny_assign_Name (store_ok IP hN hix hxl (v:=.ref s2.heap.objs.size) rfl (fun s7 I7=>?_) hf)
   have pC:=(I7.pin (G.objs.size,oC) (zS _ (zS _ (wS (zI.mpr rfl) gC)))).1
   refine ⟨m6,⟨oC,esC,epC,pC,dC,rC⟩,fun h' hsb=>?_⟩
   have I8:Inv X pins (σ.set ix (some (.ref s2.heap.objs.size))) (upd H5 s2.heap.objs.size (.lst acc)) { s7 with heap:=h' }:=I7.unpinned.turned (t':=s7.toks) (fun b o hb e=>hsb.extBut b o hb e) fC.1 fC.2.1 fC.2.2.2.1 fC.2.2.2.2.1 fC.2.2.2.2.2
   exact ⟨_,_,I8,q _ nD⟩
  ·refine thn (T.item Y rfl rfl rfl hc i _ s5 τ H5 (fun _ _=>False) I5 (stat fr5) st5 go) fun r s6 ⟨u,hr,h6⟩=>?_
   subst hr
   refine thn h6 fun _ s7 ⟨x,H7,I7,r7,y7,st7,fr7⟩=>?_
   have I7':=I7.pinned (stat fr7) (T.obj _ _ st7)
   refine thn (hg s2 H2 fp G.objs.size _ s7 τ H7 x u _ I7' r7 (step x H7 y7)) fun _ s8 ⟨τ8,H8,I8,q8⟩=>?_
   refine thn (ht s2 H2 fp G.objs.size _ s8 τ8 H8 _ I8 q8) fun ok s9 ⟨H9,I9,q9⟩=>?_
   -- the iterator's state behind the turn
   have back:∀ {s':Shared}{τ':St}{H':Hp},Inv Y ([(s2.heap.objs.size,({ cls:=.type "list", data:=.seq its.toArray k }:Obj))] ++ pinsAt fp s7.heap) τ' H' s'->(tn (i + 1) s'.heap/\∀ b ∈ fp,H' b=none):=fun {s' τ' H'} Ib=>
    ⟨T.keep _ _ _ st7 fun b hb o e=>(Ib.pin (b,o) (zS _ (zS _ (wS hb e)))).1,fun b hb=>by
     obtain ⟨o,e,d⟩:=T.obj _ _ st7 b hb
     exact (Ib.pin (b,o) (zS _ (zS _ (wS hb e)))).2.1⟩
   cases ok with
   | false=>
    obtain ⟨m',hm',w'⟩:=q9
    obtain ⟨sb,fb⟩:=back I9
    exact ⟨m',hm',i + 1,τ8,acc,its,k,H9,I9.unpinned,sb,fb,rv5,w'⟩
   | true=>
    refine thn (he s2 H2 fp G.objs.size _ s9 τ8 H9 _ I9 q9) fun y s10 ⟨yv,H10,I10,r10,q10⟩=>?_
    obtain ⟨m',hm',w'⟩:=q10
    obtain ⟨sb,fb⟩:=back I10
    obtain ⟨eD,nD,neD,nfD,_⟩:=I10.pin (s2.heap.objs.size,_) (zS _ (ye _ (zI.mpr rfl)))
    have hl:acc.length=its.length:=rv5.length
    refine call_meets F.slot_list_append ⟨_,eD,rfl⟩ F.entry_list_append (F.args_list_append_2 _ _) (PySem.list_append s2.heap.objs.size its.toArray k y (by rw [zQ];omega)) ⟨eD,?_⟩
    have q:=PySem.IsL.update eD (fun a:Array Value=>a.push y)
    have Iu:Inv Y [] τ8 H10 s10:=I10.pins_of fun p hp=>nomatch hp
    have It:=Iu.turned (t':=s10.toks) (it:=s2.heap.objs.size) (h':=s10.heap.update s2.heap.objs.size (Obj.mapSeq (fun a:Array Value=>a.push y))) (fun b o hb e=>(Heap.get?_update_other s10.heap _ (Ne.symm hb)).trans e) nD neD (.inr (zJ _))
     (fun x c e z=>by
      obtain ⟨v,ob,hob,_⟩:=I2.cell x c (xo e)
      exact absurd (Heap.lt_size hob) (by rw [z];exact ze _)) (fun p hp=>nomatch hp)
    have It':=It.pins_of (pins':=[(s2.heap.objs.size,({ cls:=.type "list", data:=.seq (its ++ [y]).toArray (k + 1) }:Obj))]) fun p hp=>by
     have e:p=_:=zI.mp hp
     subst e
     exact ⟨by simpa using q,nD,neD,nfD,fun v z=>nomatch z⟩
    refine ⟨m',hm',i + 1,τ8,acc ++ [yv],its ++ [y],_,H10,It',T.keep _ _ _ sb fun b hb o e=>(Heap.get?_update_other s10.heap _ (yz (fl b hb))).trans e,fb,rv5.append (.cons r10 .nil),w'⟩
 exact codeAny_compStart_list loop (T.self _ 0 s4 _ _ st4 loop)
end
end L2
set_option Elab.async false
set_option linter.all false
set_option maxRecDepth 100000
set_option maxHeartbeats 400000
namespace Sm
open PySem L2 SmSort
theorem walk_snoc {n:Nat}{ms:List M4} (g:Good n ms) {m:M4}{k:Nat} (hm:ms[k]?=some m):∀ {ns:List Int}{v v':Nat}{t t' A:Int},walkM ms v t A ns=some (v',t')->(A=-1\/∃ i:Nat,∃ mi,A=i/\ms[i]?=some mi/\mi.t<=t)->(v'=m.lo.toNat\/v'=m.hi.toNat)->t' < m.t->walkM ms v t A (ns ++ [(k:Int)])=some (oth v' m,m.t)
 | [],v,v',t,t',A,h,hA,hv,ht=>by
  have:=Option.some.inj h
  obtain ⟨rfl,rfl⟩:=Prod.mk.inj this
  have an:A < k:=by
   rcases hA with rfl | ⟨k',m',rfl,hm',lt'⟩
   ·omega
   ·have:=idx_lt g.ord.2 hm' hm (by omega)
    omega
  show walkM ms v t A [(k:Int)]=_
  unfold walkM
  rw [zF,hm]
  dsimp only
  rw [if_pos ⟨an,by omega,hv,ht⟩]
  rfl
 | n0 :: ns,v,v',t,t',A,h,hA,hv,ht=>by
  obtain ⟨m0,hm0,h1,h2,h3,h4,wk⟩:=walk_step h
  obtain ⟨j,rfl⟩:=zO h2
  rw [zF] at hm0
  show walkM ms v t A ((j:Int) :: (ns ++ [(k:Int)]))=_
  unfold walkM
  rw [zF,hm0]
  dsimp only
  rw [if_pos ⟨h1,h2,h3,h4⟩]
  exact walk_snoc g hm wk (.inr ⟨j,m0,rfl,hm0,yL _⟩) hv ht
end Sm
set_option Elab.async false
set_option linter.all false
set_option maxRecDepth 100000
set_option maxHeartbeats 400000
namespace Sm
open PySem L2 SmSort
def jstep (row F:Fn) (x:W3):Fn:=if below (row x.g) x.t=true/\upto (F x.o) x.t=false then put F x.o (some x.t) else F
def jac (ws:List W3) (row:Fn):Fn:=ws.foldl (jstep row) row
def jrow (ws:List W3) (row:Fn):Nat->Fn
 | 0=>row
 | k + 1=>jac ws (jrow ws row k)
def rk (ws:List W3):Option Int->Nat
 | none=>ws.length + 1
 | some y=>ws.countP fun x=>decide (x.t < y)
end Sm
set_option Elab.async false
set_option linter.all false
set_option maxRecDepth 100000
set_option maxHeartbeats 400000
namespace Sm
open PySem L2 SmSort
structure Rows (H0 H:Hp) (ms:List M4) (n k:Nat) (x:Int) (as:List Addr):Prop where
 pos:as ≠ []
 few:as.length<=200000
 at':∀ (i:Nat) (a:Addr),as[i]?=some a->H0 a=none/\H a=some (.lst ((rep n (jrow (ways2 ms) (lone k x) i)).map oV))
 ne:∀ i,i + 1 < as.length->rep n (jrow (ways2 ms) (lone k x) (i + 1)) ≠ rep n (jrow (ways2 ms) (lone k x) i)
 last:rep n (jrow (ways2 ms) (lone k x) as.length)=rep n (jrow (ways2 ms) (lone k x) (as.length - 1))
end Sm
namespace L2
open PySem PySem.Spec PyProof.Rows
section
variable {K:PySem.W.Frag}{a:Addr}{xs:List V}{n:Nat}{caps:List Nat}{g:TG}{tc:TT}{te:TE}{σ:St}{H:Hp}{Qf:Addr->Hp->List V->Prop}
end
end L2
namespace Sm
open PySem L2 SmSort
end Sm
namespace Sm
open PySem L2 SmSort
end Sm
namespace Sm
open PySem L2
end Sm
set_option Elab.async false
set_option linter.all false
set_option maxRecDepth 100000
set_option maxHeartbeats 400000
namespace Sm
open PySem L2 SmSort
def again (ms:List M4) (day first:Int):Nat->List M4
 | 0=>[]
 | r + 1=>again ms day first r ++ ms.map (M4.late ((first + r) * day))
end Sm
set_option Elab.async false
set_option linter.all false
set_option maxRecDepth 100000
set_option maxHeartbeats 400000
namespace L2
open PySem PySem.Spec PyProof.Rows
section
variable {X:Cx}{pins:List (Addr × Obj)}{σ:St}{H:Hp}{s:Shared}
theorem wJ {xs:List V}{us:List Value} (r:Vals xs us) {j:Nat} (h:j < us.toArray.size):∃ x,xs[j]?=some x/\RelV x us.toArray[j]:=by
 have hl:=r.length
 simp only [zQ] at h
 have a1:j < xs.length:=by omega
 obtain ⟨u,eu,ru⟩:=r.get (i:=j) (x:=xs[j]) (by simp [a1])
 have e1:us.toArray[j]=u:=by rw [List.getElem_toArray];exact Option.some.inj ((zE h).symm.trans eu)
 exact ⟨xs[j],by simp [a1],by rw [e1];exact ru⟩
end
end L2
set_option Elab.async false
set_option linter.all false
set_option maxRecDepth 100000
set_option maxHeartbeats 400000
namespace Sm
open PySem L2 SmSort
def whenOf (ms:List M4) (j:Int):Int:=((ms[j.toNat]?).map (·.t)).getD 0
def whens (ms:List M4) (k:Nat):List Int:=(numsTo ms k ms.length).map (whenOf ms)
section
variable {n k w:Nat}{ms:List M4}{day:Int}
end
end Sm
set_option Elab.async false
set_option linter.all false
set_option maxRecDepth 100000
set_option maxHeartbeats 400000
namespace L2
open PySem PySem.Spec PyProof.Rows
def Eqv (K:PySem.W.Frag) (H:Hp):Nat->V->V->Bool->Prop
 | 0,x,y,b=>(x=y/\(∃ a,x=.ref a)/\b=true)\/(flatV x=true/\flatV y=true/\b=eqV x y)
 | n + 1,x,y,b=>(x=y/\(∃ a,x=.ref a)/\b=true)\/(flatV x=true/\flatV y=true/\b=eqV x y)\/∃ (a c:Addr) (xs ys:List V) (e:Nat->Bool),x=.ref a/\y=.ref c/\((SqL K H a xs/\SqL K H c ys)\/(SqT K H a xs/\SqT K H c ys))/\(a=c->b=true)/\b=(decide (xs.length=ys.length) && (List.range xs.length).all e)/\∀ (i:Nat) (x y:V),xs[i]?=some x->ys[i]?=some y->Eqv K H n x y (e i)
section
variable {X:Cx}{pins:List (Addr × Obj)}{σ:St}{H:Hp}{s:Shared}
theorem eqv_eq (I:Inv X pins σ H s):∀ (n:Nat) {A:Around}{x y:V}{b:Bool}{u v:Value},A.units + n < cLine->Eqv X.K H n x y b->RelV x u->RelV y v->SeqAt.EqAt A s u v b
 | n,A,x,y,b,u,v,hu,h,ru,rv=>by
  have base1:x=y/\(∃ a,x=.ref a)/\b=true->SeqAt.EqAt A s u v b:=by
   rintro ⟨rfl,⟨a,rfl⟩,rfl⟩
   cases ru;cases rv
   exact SeqAt.EqAt.same _
  have base2:flatV x=true/\flatV y=true/\b=eqV x y->SeqAt.EqAt A s u v b:=by
   rintro ⟨h1,h2,rfl⟩
   exact eqAt_V (A:=A) (s:=s) ru rv h1 h2
  cases n with
  | zero=>exact h.elim base1 base2
  | succ n=>
   rcases h with h | h | ⟨a,c,xs,ys,e,rfl,rfl,h,hs,hb,hi⟩
   ·exact base1 h
   ·exact base2 h
   ·cases ru;cases rv
    by_cases ne:a=c
    ·rw [hs ne,ne];exact SeqAt.EqAt.same _
    refine SeqAt.EqAt.of_refs ne ?_
    rcases h with ⟨h1,h2⟩ | ⟨h1,h2⟩
    ·obtain ⟨its,r1,p1,_⟩:=I.list h1
     obtain ⟨its2,r2,p2,_⟩:=I.list h2
     have l1:=r1.length
     have l2:=r2.length
     by_cases hl:xs.length=ys.length
     ·have:=SeqAt.RcAt.lists (A:=A) (e:=e) p1.isList p2.isList (by simp;omega) (by omega) fun j h1 h2=>by
       obtain ⟨x,ex,rx⟩:=wJ r1 h1
       obtain ⟨y,ey,ry⟩:=wJ r2 h2
       exact eqv_eq I n (by show A.units + 1 + n < cLine;omega) (hi j x y ex ey) rx ry
      rw [hb,decide_eq_true hl,yh,l1]
      simpa using this
     ·rw [hb,decide_eq_false hl,yP]
      exact SeqAt.RcAt.lists_lengths (A:=A) p1.isList p2.isList (by simp;omega) (by omega)
    ·obtain ⟨its,r1,p1,_⟩:=I.tuple h1
     obtain ⟨its2,r2,p2,_⟩:=I.tuple h2
     have l1:=r1.length
     have l2:=r2.length
     have:=SeqAt.RcAt.tuples (A:=A) (e:=e) p1 p2 (by omega) fun j h1 h2=>by
      obtain ⟨x,ex,rx⟩:=wJ r1 h1
      obtain ⟨y,ey,ry⟩:=wJ r2 h2
      exact eqv_eq I n (by show A.units + 1 + n < cLine;omega) (hi j x y ex ey) rx ry
     by_cases hl:xs.length=ys.length
     ·rw [hb,decide_eq_true hl,yh,l1]
      have e1:its2.length=its.length:=by omega
      simpa [e1] using this
     ·rw [hb,decide_eq_false hl,yP]
      have e1:¬ its.length=its2.length:=by omega
      have e2:(its.toArray.size == its2.toArray.size)=false:=by simp [e1]
      rw [e2,Bool.and_false] at this
      exact this
def rEqv (K:PySem.W.Frag) (neg:Bool):R2:=fun x y H Q=>∃ (n:Nat) (a c:Addr) (xs ys:List V) (e:Nat->Bool) (b:Bool),n<=20/\x=.ref a/\y=.ref c/\((SqL K H a xs/\SqL K H c ys)\/(SqT K H a xs/\SqT K H c ys))/\b=(decide (xs.length=ys.length) && (List.range xs.length).all e)/\(∀ (i:Nat) (x y:V),xs[i]?=some x->ys[i]?=some y->Eqv K H n x y (e i))/\Q (.bl (if neg then !b else b)) H
theorem op_eqE (hu:X.A.units + 64 < cLine):OpR X (compareOp .Eq) (rEqv X.K false):=by
 intro pins s σ H x y v u Q I rx ry h
 obtain ⟨n,a,c,xs,ys,e,b,hn,rfl,rfl,h,hb,hi,q⟩:=h
 cases rx;cases ry
 rw [if_neg (by decide),hb] at q
 rcases h with ⟨h1,h2⟩ | ⟨h1,h2⟩
 ·obtain ⟨its,r1,p1,_⟩:=I.list h1
  obtain ⟨its2,r2,p2,_⟩:=I.list h2
  have l1:=r1.length
  have l2:=r2.length
  by_cases hl:xs.length=ys.length
  ·rw [decide_eq_true hl,yh,l1] at q
   exact SeqAt.RcAt.lists (e:=e) p1.isList p2.isList (by simp;omega) (by omega) (fun j h1 h2=>by
    obtain ⟨x,ex,rx⟩:=wJ r1 h1
    obtain ⟨y,ey,ry⟩:=wJ r2 h2
    exact eqv_eq I n (by show X.A.units + 1 + n < cLine;omega) (hi j x y ex ey) rx ry) _ _ _ _ ⟨.bl _,H,I,rfl,by simpa using q⟩
  ·rw [decide_eq_false hl,yP] at q
   exact SeqAt.RcAt.lists_lengths p1.isList p2.isList (by simp;omega) (by omega) _ _ _ _ ⟨.bl _,H,I,rfl,q⟩
 ·obtain ⟨its,r1,p1,_⟩:=I.tuple h1
  obtain ⟨its2,r2,p2,_⟩:=I.tuple h2
  have l1:=r1.length
  have l2:=r2.length
  have key:((List.range (min its.toArray.size its2.toArray.size)).all e && its.toArray.size == its2.toArray.size)=(decide (xs.length=ys.length) && (List.range xs.length).all e):=by
   by_cases hl:xs.length=ys.length
   ·have e1:its2.length=its.length:=by omega
    rw [decide_eq_true hl,yh,l1];simp [e1]
   ·have e1:¬ its.length=its2.length:=by omega
    rw [decide_eq_false hl,yP];simp [e1]
  rw [<-key] at q
  exact SeqAt.RcAt.tuples (e:=e) p1 p2 (by omega) (fun j h1 h2=>by
   obtain ⟨x,ex,rx⟩:=wJ r1 h1
   obtain ⟨y,ey,ry⟩:=wJ r2 h2
   exact eqv_eq I n (by show X.A.units + 1 + n < cLine;omega) (hi j x y ex ey) rx ry) _ _ _ _ ⟨.bl _,H,I,rfl,q⟩
theorem op_neE (hu:X.A.units + 64 < cLine):OpR X (compareOp .NotEq) (rEqv X.K true):=by
 intro pins s σ H x y v u Q I rx ry h
 obtain ⟨n,a,c,xs,ys,e,b,hn,rfl,rfl,h,hb,hi,q⟩:=h
 cases rx;cases ry
 rw [if_pos rfl,hb] at q
 rcases h with ⟨h1,h2⟩ | ⟨h1,h2⟩
 ·obtain ⟨its,r1,p1,_⟩:=I.list h1
  obtain ⟨its2,r2,p2,_⟩:=I.list h2
  have l1:=r1.length
  have l2:=r2.length
  by_cases hl:xs.length=ys.length
  ·rw [decide_eq_true hl,yh,l1] at q
   exact SeqAt.RcNeAt.lists (e:=e) p1.isList p2.isList (by simp;omega) (by omega) (fun j h1 h2=>by
    obtain ⟨x,ex,rx⟩:=wJ r1 h1
    obtain ⟨y,ey,ry⟩:=wJ r2 h2
    exact eqv_eq I n (by show X.A.units + 1 + n < cLine;omega) (hi j x y ex ey) rx ry) _ _ _ _ ⟨.bl _,H,I,rfl,by simpa using q⟩
  ·rw [decide_eq_false hl,yP] at q
   exact SeqAt.RcNeAt.lists_lengths p1.isList p2.isList (by simp;omega) (by omega) _ _ _ _ ⟨.bl _,H,I,rfl,q⟩
 ·obtain ⟨its,r1,p1,_⟩:=I.tuple h1
  obtain ⟨its2,r2,p2,_⟩:=I.tuple h2
  have l1:=r1.length
  have l2:=r2.length
  have key:((List.range (min its.toArray.size its2.toArray.size)).all e && its.toArray.size == its2.toArray.size)=(decide (xs.length=ys.length) && (List.range xs.length).all e):=by
   by_cases hl:xs.length=ys.length
   ·have e1:its2.length=its.length:=by omega
    rw [decide_eq_true hl,yh,l1];simp [e1]
   ·have e1:¬ its.length=its2.length:=by omega
    rw [decide_eq_false hl,yP];simp [e1]
  rw [<-key] at q
  exact SeqAt.RcNeAt.tuples (e:=e) p1 p2 (by omega) (fun j h1 h2=>by
   obtain ⟨x,ex,rx⟩:=wJ r1 h1
   obtain ⟨y,ey,ry⟩:=wJ r2 h2
   exact eqv_eq I n (by show X.A.units + 1 + n < cLine;omega) (hi j x y ex ey) rx ry) _ _ _ _ ⟨.bl _,H,I,rfl,q⟩
end
theorem Eqv.rows {α:Type} [DecidableEq α] {f:α->V} (hf:∀ x,flatV (f x)=true) (he:∀ x y,eqV (f x) (f y)=decide (x=y)) {K:PySem.W.Frag}{H:Hp}{n:Nat}{a c:Addr}{xs ys:List α} (h:(H a=some (.lst (xs.map f))/\H c=some (.lst (ys.map f)))\/(H a=some (.tup (xs.map f))/\H c=some (.tup (ys.map f)))):Eqv K H (n + 1) (.ref a) (.ref c) (decide (xs=ys)):=by
 have fi:∀ x y,f x=f y->x=y:=fun x y e=>by
  have:=he x y
  rw [e,he y y] at this
  simpa using this.symm
 have inj:∀ {l m:List α},l.map f=m.map f->l=m:=fun {l m} e=>List.map_inj_right (fun x y=>fi x y) |>.mp e
 refine .inr (.inr ⟨a,c,xs.map f,ys.map f,fun i=>decide (xs[i]?=ys[i]?),rfl,rfl,h.imp (fun h=>⟨SqL.of h.1,SqL.of h.2⟩) (fun h=>⟨SqT.of h.1,SqT.of h.2⟩),fun e=>?_,?_,fun i x y hx hy=>?_⟩)
 ·subst e
  rw [decide_eq_true_eq]
  rcases h with ⟨h1,h2⟩ | ⟨h1,h2⟩
  ·rw [h1] at h2
   injection h2 with h2;injection h2 with h2;exact inj h2
  ·rw [h1] at h2
   injection h2 with h2;injection h2 with h2;exact inj h2
 ·rw [zA,zA]
  by_cases hl:xs.length=ys.length
  ·rw [decide_eq_true hl,yh]
   symm
   refine all_range ?_
   simp only [decide_eq_true_eq]
   constructor
   ·intro h
    apply yg
    intro j
    by_cases hj:j < xs.length
    ·exact h j hj
    ·rw [zp (by omega),zp (by omega)]
   ·rintro rfl j _;rfl
  ·rw [decide_eq_false hl,yP,decide_eq_false_iff_not]
   rintro rfl;exact hl rfl
 ·rw [zC] at hx hy
  cases e1:xs[i]? with
  | none=>rw [e1] at hx;cases hx
  | some p=>
   cases e2:ys[i]? with
   | none=>rw [e2] at hy;cases hy
   | some q=>
    rw [e1] at hx;rw [e2] at hy
    cases hx;cases hy
    have key:flatV (f p)=true/\flatV (f q)=true/\decide (some p=some q)=eqV (f p) (f q):=⟨hf p,hf q,by
     rw [he]
     simp⟩
    cases n with
    | zero=>exact .inr (by simpa only [e1,e2] using key)
    | succ n=>exact .inr (.inl (by simpa only [e1,e2] using key))
theorem eqV_int (x y:Int):eqV (.int x) (.int y)=decide (x=y):=rfl
end L2
set_option Elab.async false
set_option linter.all false
set_option maxRecDepth 100000
set_option maxHeartbeats 400000
namespace SmSet
open PySem
def adv (m:Nat) (p:SetTable.Probe):SetTable.Probe:=
 if p.more > 0 then { p with j:=p.j + 1,more:=p.more - 1 } else
 { p with j:=(SetTable.leap m p.i p.perturb).1,more:=SetTable.runEnd m (SetTable.leap m p.i p.perturb).1 - (SetTable.leap m p.i p.perturb).1,i:=(SetTable.leap m p.i p.perturb).1,perturb:=(SetTable.leap m p.i p.perturb).2 }
def run (m i u:Nat):SetTable.Probe:={ j:=i,more:=SetTable.runEnd m i - i,i,perturb:=u,dummy:=none }
def start (m:Nat) (h:Int):SetTable.Probe:=run m (SetTable.bits h % (m + 1)) (SetTable.bits h)
def ad (m:Nat):Nat->SetTable.Probe->SetTable.Probe
 | 0,p=>p
 | n + 1,p=>ad m n (adv m p)
def at' (m:Nat) (h:Int) (n:Nat):Nat:=(ad m n (start m h)).j
def runs (m:Nat):Nat->Nat->Nat->Nat × Nat
 | 0,i,u=>(i,u)
 | r + 1,i,u=>runs m r ((i * 5 + 1 + u / 32) % (m + 1)) (u / 32)
theorem runs_add {m:Nat}:∀ (a b i u:Nat),runs m (a + b) i u=runs m b (runs m a i u).1 (runs m a i u).2
 | 0,b,i,u=>by rw [Nat.zero_add];rfl
 | a + 1,b,i,u=>by rw [Nat.succ_add];exact runs_add a b _ _
theorem runs_perturb {m:Nat}:∀ (r i u:Nat),(runs m r i u).2=u / 32 ^ r
 | 0,i,u=>by simp [runs]
 | r + 1,i,u=>by
  show (runs m r _ (u / 32)).2=_
  rw [runs_perturb r,Nat.div_div_eq_div_mul,Nat.pow_succ,Nat.mul_comm]
theorem runs_small {m:Nat}:∀ (r i u:Nat),i<=m->(runs m r i u).1<=m
 | 0,i,u,h=>h
 | r + 1,i,u,h=>runs_small r _ _ (Nat.lt_succ_iff.mp (Nat.mod_lt _ (by omega)))
def f5 (m:Nat):Nat->Nat->Nat
 | 0,i=>i
 | s + 1,i=>f5 m s ((i * 5 + 1) % (m + 1))
theorem runs_f5 {m:Nat}:∀ (s i:Nat),(runs m s i 0).1=f5 m s i
 | 0,i=>rfl
 | s + 1,i=>by
  show (runs m s ((i * 5 + 1 + 0 / 32) % (m + 1)) (0 / 32)).1=f5 m s ((i * 5 + 1) % (m + 1))
  rw [Nat.zero_div,Nat.add_zero]
  exact runs_f5 s _
theorem f5_add {m:Nat}:∀ (a b i:Nat),f5 m (a + b) i=f5 m b (f5 m a i)
 | 0,b,i=>by rw [Nat.zero_add];rfl
 | a + 1,b,i=>by rw [Nat.succ_add];exact f5_add a b _
def bitsOf (m:Nat):Nat->Nat->Nat->Nat
 | 0,_,acc=>acc
 | s + 1,i,acc=>bitsOf m s ((i * 5 + 1) % (m + 1)) (acc ||| (2 ^ i))
theorem bitsOf_spec {m j:Nat}:∀ (s i acc:Nat),(bitsOf m s i acc).testBit j=true->acc.testBit j=true\/∃ a,a < s/\f5 m a i=j
 | 0,i,acc,h=>.inl h
 | s + 1,i,acc,h=>by
  rcases bitsOf_spec s _ _ h with h | ⟨a,ha,e⟩
  ·rw [Nat.testBit_or,Bool.or_eq_true] at h
   rcases h with h | h
   ·exact .inl h
   ·rw [Nat.testBit_two_pow] at h
    exact .inr ⟨0,by omega,of_decide_eq_true h⟩
  ·exact .inr ⟨a + 1,by omega,e⟩
def Mask (m:Nat):Prop:=m=7\/m=31\/m=127\/m=511
theorem cover0 {m:Nat} (hm:Mask m):f5 m (m + 1) 0=0/\∀ j,j<=m->∃ a,a<=m/\f5 m a 0=j:=by
 have key:f5 m (m + 1) 0=0/\bitsOf m (m + 1) 0 0=2 ^ (m + 1) - 1:=by
  rcases hm with rfl | rfl | rfl | rfl <;> constructor <;> decide +kernel
 refine ⟨key.1,fun j hj=>?_⟩
 have:(bitsOf m (m + 1) 0 0).testBit j=true:=by
  rw [key.2,Nat.testBit_two_pow_sub_one]
  exact decide_eq_true (by omega)
 rcases bitsOf_spec _ _ _ this with h | ⟨a,ha,e⟩
 ·simp at h
 ·exact ⟨a,by omega,e⟩
theorem cover {m i j:Nat} (hm:Mask m) (hi:i<=m) (hj:j<=m):∃ s,s<=m/\f5 m s i=j:=by
 obtain ⟨z,all⟩:=cover0 hm
 obtain ⟨a,ha,rfl⟩:=all i hi
 obtain ⟨b,hb,rfl⟩:=all j hj
 by_cases c:a<=b
 ·exact ⟨b - a,by omega,by rw [<-f5_add];congr 1;omega⟩
 ·refine ⟨b + (m + 1) - a,by omega,?_⟩
  rw [<-f5_add,show a + (b + (m + 1) - a)=(m + 1) + b from by omega,f5_add,z]
theorem reach {m i u j:Nat} (hm:Mask m) (hi:i<=m) (hu:u < 2 ^ 64) (hj:j<=m):∃ r,r<=m + 13/\(runs m r i u).1=j:=by
 have p0:(runs m 13 i u).2=0:=by
  rw [runs_perturb]
  exact Nat.div_eq_of_lt (zV hu (by decide))
 obtain ⟨s,hs,e⟩:=cover hm (runs_small 13 i u hi) hj
 refine ⟨13 + s,by omega,?_⟩
 rw [runs_add,p0,runs_f5,e]
theorem least {P:Nat->Prop}:∀ n,P n->∃ k,k<=n/\P k/\∀ i,i < k->¬ P i:=by
 intro n
 induction n using Nat.strongRecOn with
 | _ n ih=>
  intro h
  by_cases c:∃ i,i < n/\P i
  ·obtain ⟨i,hi,pi⟩:=c
   obtain ⟨k,hk,pk,al⟩:=ih i hi pi
   exact ⟨k,by omega,pk,al⟩
  ·exact ⟨n,zJ _,h,fun i hi pi=>c ⟨i,hi,pi⟩⟩
end SmSet
set_option Elab.async false
set_option linter.all false
set_option maxRecDepth 100000
set_option maxHeartbeats 400000
namespace L2
open PySem PySem.Spec PyProof.Rows
section
variable {K:PySem.W.Frag}{a:Addr}{xs:List V}{n:Nat}{caps:List Nat}{g:TG}{tc:TT}{te:TE}{σ:St}{H:Hp}{Qf:Addr->Hp->List V->Prop}
end
end L2
namespace Sm
open PySem L2 SmSort
abbrev Mk:=Nat->Nat
end Sm
set_option Elab.async false
set_option linter.all false
set_option maxRecDepth 100000
set_option maxHeartbeats 400000
namespace Sm
open PySem L2 SmSort
structure L4 where
 s:Nat
 w:Nat
 a:Int
 z:Int
end Sm
namespace Sm
open PySem L2 SmSort
end Sm
set_option Elab.async false
set_option linter.all false
set_option maxRecDepth 100000
set_option maxHeartbeats 400000
namespace L2
open PySem PySem.Spec PyProof.Rows
section
variable {P:Program}{w:World}{H H':Hp}{h:Heap}{a:Addr}{o:HO}
theorem ObjOk.has (x:ObjOk P w H h a o):∃ u,h.get? a=some u:=by
 cases o with
 | lst xs=>obtain ⟨_,_,_,_,e⟩:=x;exact ⟨_,e⟩
 | tup xs=>obtain ⟨_,_,_,u,e,_⟩:=x;exact ⟨u,e⟩
 | dK kvs=>obtain ⟨_,_,_,_,u,_,_,e,_⟩:=x;exact ⟨u,e⟩
 | dT kvs=>obtain ⟨_,_,_,_,u,_,_,e,_⟩:=x;exact ⟨u,e⟩
 | set S n=>obtain ⟨u,_,_,_,e,_⟩:=x;exact ⟨u,e⟩
 | ins C dx fs=>obtain ⟨_,_,_,e,_⟩:=x;exact ⟨_,e⟩
 | own y=>exact x
 | xd fs=>obtain ⟨_,⟨u,_,_,e,_⟩,_⟩:=x;exact ⟨u,e⟩
 | rng lo hi=>obtain ⟨_,_,_,e⟩:=x;exact ⟨_,e⟩
 | frz ob u=>obtain ⟨e,_⟩:=x;exact ⟨_,e⟩
 | tbl ps=>exact ⟨_,(show h.get? a=some _ from x)⟩
 | met f y=>exact ⟨_,(show h.get? a=some _ from x)⟩
 | ext φ=>exact x.2.1
end
structure XL (P:Program) (w:World) (l:List Env) (H:Hp) (s:Shared) (H':Hp) (B:Heap) (s':Shared):Prop where
 os:s'.os=s.os
 bare:AllBare s'.gens
 keepB:∀ b o,s.heap.get? b=some o->H b=none->b ∉ frs l->B.get? b=some o
 allB:∀ b o,s.heap.get? b=some o->b ∉ frs l->∃ o',B.get? b=some o'
 trkB:∀ b u,H' b=some u->∃ o,B.get? b=some o
 frm:∀ b o,s.heap.get? b=some o->b ∈ frs l->∃ sl,s'.heap.get? b=some { o with slots:=sl }
 free:∀ b o,s.heap.get? b=some o->H b=none->H' b=none
 tups:∀ b xs,H b=some (.tup xs)->H' b=some (.tup xs)
 frzs:∀ b o u,H b=some (.frz o u)->H' b=some (.frz o u)
 tbls:∀ b ps,H b=some (.tbl ps)->∃ more,H' b=some (.tbl (ps ++ more))
 hok:HOk P w H' s'.heap
 stays:B.StaysIn s'.heap
section
variable {P:Program}{w:World}{l:List Env}{H H':Hp}{s s':Shared}{B base:Heap}
theorem XL.un (x:XL P w l H s H' B s'):Un (frs l) [] H H' s.heap s'.heap where
 keep:=fun b o e n hb _=>x.stays _ _ (x.keepB b o e n hb)
 slot:=fun b o e n hb _=>x.frm b o e hb
 free:=fun b o e n _=>x.free b o e n
 there:=fun b o e _=>by
  by_cases hb:b ∈ frs l
  ·obtain ⟨sl,q⟩:=x.frm b o e hb;exact ⟨_,q⟩
  ·obtain ⟨o',q⟩:=x.allB b o e hb;exact ⟨o',x.stays _ _ q⟩
 tups:=x.tups
 frzs:=x.frzs
 tbls:=x.tbls
theorem XL.step {h2:Heap} (x:XL P w l H s H' B s') (ff:s.heap.FunFrames base l) (k:B.StaysIn h2) (u:s'.heap.UpToSlots h2):XL P w l H s H' B { s' with heap:=h2 } where
 os:=x.os
 bare:=x.bare
 keepB:=x.keepB
 allB:=x.allB
 trkB:=x.trkB
 frm:=fun b o e hb=>by
  obtain ⟨sl,q⟩:=x.frm b o e hb
  obtain ⟨_,o1,e1,nf⟩:=ff.mem hb
  rw [e] at e1;cases e1
  obtain ⟨sl2,q2⟩:=u b _ q nf
  exact ⟨sl2,q2⟩
 free:=x.free
 tups:=x.tups
 frzs:=x.frzs
 tbls:=x.tbls
 hok:=fun a o e=>by
  have st:∀ b v,H' b=some v->∀ ob,s'.heap.get? b=some ob->h2.get? b=some ob:=fun b v hv ob q=>by
   obtain ⟨o1,e1⟩:=x.trkB b v hv
   have z:=x.stays _ _ e1
   rw [q] at z;cases z
   exact k _ _ e1
  refine (x.hok a o e).stay (fun b v hb q=>?_) (fun _ q=>q) fun _ _ q=>q
  rcases hb with rfl | hb
  ·exact st _ _ e _ q
  ·exact st _ _ hb _ q
 stays:=k
end
def TrD (h B:Heap) (e:Addr) (cls fl:Value):Prop:=∃ oe vs T oT ts,h.get? e=some oe/\oe.cls=cls/\oe.dict=none/\oe.data=.fields vs/\vs[1]?=some (Value.ref T)/\B.get? T=none/\T ≠ e/\h.get? T=some oT/\oT.data=.fields ts/\ts[3]?=some fl
def MdD (h:Heap) (e:Addr) (cls:Value):Prop:=∃ oe vs,h.get? e=some oe/\oe.cls=cls/\oe.dict=none/\oe.data=.fields vs/\vs[1]?=some Value.none
def CXE (P:Program) (w:World):CXT:=fun l H s E e s'=>∃ a cls H' B,e=Value.ref a/\XL P w l H s H' B s'/\B.get? a=none/\s'.heap.FunFrames B l/\TrD s'.heap B a cls Value.none/\E cls none H'
theorem passN {P:Program}{w:World}{X:Cx}:Passes (CXE P w) X E0:=fun _ _ _ _ _ _ _ ⟨_,_,_,_,_,_,_,_,_,q⟩=>q.elim
def FlyS (B:Heap) (env:Env) (outer:List Env) (a:Addr) (cls:Value) (h:Heap):Prop:=
 B.get? a=none/\h.FunFrames B (env :: outer)/\(MdD h a cls\/TrD h B a cls Value.none\/∃ L,env.frame=some L/\TrD h B a cls (rawInt L))
def WX (X:Cx) (E:XK):Value->Shared->Prop:=fun e s'=>(X.A.frames=some (X.env :: X.outer)/\X.env.frame=some X.env.locals/\X.s₀.heap.FunFrames X.base X.outer)/\∃ a cls H' B,e=Value.ref a/\XL X.prog X.w X.outer X.H₀ X.s₀ H' B s'/\FlyS B X.env X.outer a cls s'.heap/\E cls none H'
abbrev Cx.exc (X:Cx) (E:XK):Cx:=X.wish (WX X E)
theorem rec_far {h B:Heap}{T:Addr}{oT:Obj}{ts:Array Value} (hT:h.get? T=some oT) (hdT:oT.data=.fields ts):∀ b o,h.get? b=some o->(∀ vs,o.data ≠ .fields vs)->b ≠ T:=fun b o e nf z=>by
 subst z;rw [hT] at e;cases e;exact nf _ hdT
theorem laid_entry {g B:Heap}{e:Addr}{oe:Obj}{vs ts:Array Value}{fl:Value} (he:g.get? e=some oe) (hdc:oe.dict=none) (hd:oe.data=.fields vs) (sz:1 < vs.size) (kb:B.StaysIn g) (h3:ts[3]?=some fl) :
  (∀ b o,b ≠ e->g.get? b=some o->((g.push { cls:=.type "traceback", dict:=none,data:=.fields ts }).update e (Obj.mapFields (·.setIfInBounds 1 (Value.ref g.objs.size)))).get? b=some o) /\
  TrD ((g.push { cls:=.type "traceback", dict:=none,data:=.fields ts }).update e (Obj.mapFields (·.setIfInBounds 1 (Value.ref g.objs.size)))) B e oe.cls fl:=by
 have he2:=Heap.get?_push_of_some (h:=g) { cls:=.type "traceback", dict:=none,data:=.fields ts } he
 have ne:g.objs.size ≠ e:=fun z=>absurd (Heap.lt_size he) (by rw [z];exact ze _)
 have hd3:=Obj.data_mapFields hd (·.setIfInBounds 1 (Value.ref g.objs.size))
 refine ⟨fun b o nb eb=>?_,_,_,g.objs.size,{ cls:=.type "traceback", dict:=none,data:=.fields ts },ts,Heap.get?_update_self _ he2 (Obj.isFreed_of_fields hd3),Obj.cls_mapFields _ _,?_,hd3,by simp [sz],kb.fresh,ne,?_,rfl,h3⟩
 ·rw [Heap.get?_update_other _ _ (Ne.symm nb)];exact Heap.get?_push_of_some _ eb
 ·obtain ⟨c0,d0,dt0,sl0⟩:=oe
  cases dt0 <;> first | exact hdc | cases hd
 ·rw [Heap.get?_update_other _ _ (Ne.symm ne)];exact Heap.get?_push_size g rfl
section
variable {M:Model}{A:Around}{Ex:Value->Shared->Prop}{s:Shared}{B:Heap}{env:Env}{outer:List Env}{a L:Addr}{cls:Value}{Q:Unit->Shared->Prop}
theorem entry_fly {oe:Obj}{vs:Array Value}{head:Value}{hn:Bool} (hfr:A.frames=some (env :: outer)) (hf:env.frame=some L) (hk:B.StaysIn s.heap) (hl:s.heap.FunFrames B (env :: outer)) (nb:B.get? a=none) (he:s.heap.get? a=some oe) (hdc:oe.dict=none) (hd:oe.data=.fields vs) (sz:1 < vs.size)
  (q:∀ h',B.StaysIn h'->s.heap.UpToSlots h'->h'.FunFrames B (env :: outer)->TrD h' B a oe.cls (rawInt L)->Q () { s with heap:=h' }) :
  wpAny M A (do let v <- frameOf env;let pl <- entryPlaceOf L hn;let b <- EntryCells.newEntry head v .none (rawInt L) .none pl;setField (.ref a) 1 b) Q Ex s:=by
 have nf:a ∉ (env :: outer).filterMap (·.frame):=fun hm=>by
  obtain ⟨_,o,ho,z⟩:=hl.mem hm
  rw [he] at ho;cases ho;exact z vs hd
 refine wpAny_bind (wpAny_frameOf_fun hfr hl hf fun g sl=>wpAny_bind (wpAny_entryPlaceOf fun pl ip=>?_))
 unfold EntryCells.newEntry newFields
 refine wpAny_bind (wpAny_newObj_type ?_ (ip.sizeOk5 _ _ _ _ _))
 have eg:g.get? a=some oe:=(sl.2.1 a nf).trans he
 have kg:B.StaysIn g:=fun b o e=>(sl.2.1 b fun hm=>by rw [(hl.mem hm).1] at e;cases e).trans (hk b o e)
 refine wpAny_setField (Heap.get?_push_of_some _ eg) hd sz ?_
 have y:=laid_entry (B:=B) (fl:=rawInt L) (ts:=([head,Value.ref L,Value.none,rawInt L,Value.none] ++ (if pl.isEmpty then List.replicate 6 Value.none else pl)).toArray) eg hdc hd sz kg (by first | (simp;done) | (rcases ip with rfl | ⟨_,_,_,_,_,_,_,rfl⟩ <;> simp))
 have far:=rec_far (B:=B) he hd
 refine q _ (fun b o e=>y.1 b o (fun z=>by rw [z,nb] at e;cases e) (kg b o e)) (fun b o e nf=>?_) (hl.of_keeps fun b o e nf=>?_) y.2
 ·obtain ⟨s2,e2⟩:=sl.2.2 b o e
  exact ⟨s2,y.1 b _ (far b o e nf) e2⟩
 ·obtain ⟨s2,e2⟩:=sl.2.2 b o e
  exact ⟨_,y.1 b _ (far b o e nf) e2,rfl⟩
theorem set_entry {B:Heap}{h:Heap} {cls fl fl2:Value}{oe oT:Obj}{vs ts:Array Value}{T:Addr} (he:h.get? a=some oe) (hc:oe.cls=cls) (hdc:oe.dict=none) (hd:oe.data=.fields vs) (h1:vs[1]?=some (Value.ref T)) (hnT:B.get? T=none) (hTe:T ≠ a) (hT:h.get? T=some oT) (hdT:oT.data=.fields ts) (sz:3 < ts.size) (hk:B.StaysIn h) (hl:h.FunFrames B (env :: outer)) :
  B.StaysIn (h.update T (Obj.mapFields (·.setIfInBounds 3 fl2)))/\h.UpToSlots (h.update T (Obj.mapFields (·.setIfInBounds 3 fl2)))/\(h.update T (Obj.mapFields (·.setIfInBounds 3 fl2))).FunFrames B (env :: outer)/\TrD (h.update T (Obj.mapFields (·.setIfInBounds 3 fl2))) B a cls fl2/\(h.update T (Obj.mapFields (·.setIfInBounds 3 fl2))).get? a=some oe:=by
 have far:∀ b,b ≠ T->(h.update T (Obj.mapFields (·.setIfInBounds 3 fl2))).get? b=h.get? b:=fun b hb=>Heap.get?_update_other _ _ (Ne.symm hb)
 have nrec:=rec_far (B:=B) hT hdT
 have ea:=(far a (Ne.symm hTe)).trans he
 exact ⟨fun b o e=>(far b (fun z=>by subst z;rw [hnT] at e;cases e)).trans (hk _ _ e),fun b o e nf=>⟨o.slots,(far b (nrec b o e nf)).trans e⟩,hl.of_keeps fun b o e nf=>⟨o,(far b (nrec b o e nf)).trans e,rfl⟩,
  ⟨oe,vs,T,_,_,ea,hc,hdc,hd,h1,hnT,hTe,Heap.get?_update_self _ hT (Obj.isFreed_of_fields (Obj.data_mapFields hdT _)),Obj.data_mapFields hdT _,by simp [sz]⟩,ea⟩
theorem note_fly (hfr:A.frames=some (env :: outer)) (hf:env.frame=some L) (hk:B.StaysIn s.heap) (x:FlyS B env outer a cls s.heap)
  (q:∀ h',B.StaysIn h'->s.heap.UpToSlots h'->h'.FunFrames B (env :: outer)->TrD h' B a cls (rawInt L)->Q () { s with heap:=h' }):wpAny M A (noteFrame (.ref a) env) Q Ex s:=by
 obtain ⟨hn,hl,⟨oe,vs,he,hc,hdc,hd,h1⟩ | ⟨oe,vs,T,oT,ts,he,hc,hdc,hd,h1,hnT,hTe,hT,hdT,h3⟩ | ⟨L',hL,ht⟩⟩:=x
 ·subst hc
  unfold noteFrame
  rw [hf]
  dsimp only
  refine wpAny_bind (wpAny_field (x:=_) he hd h1 ?_)
  rw [if_neg (by decide)]
  exact entry_fly hfr hf hk hl hn he hdc hd (Array.getElem?_eq_some_iff.mp h1).1 q
 ·have sz:3 < ts.size:=(Array.getElem?_eq_some_iff.mp h3).1
  obtain ⟨k2,u2,l2,_,e2⟩:=set_entry (fl:=Value.none) (fl2:=Value.none) he hc hdc hd h1 hnT hTe hT hdT sz hk hl
  unfold noteFrame
  rw [hf]
  dsimp only
  refine wpAny_bind (wpAny_field (x:=_) he hd h1 ?_)
  rw [if_pos (by simp)]
  refine wpAny_bind (wpAny_field (x:=_) hT hdT h3 ?_)
  rw [if_neg (by simp [rawInt])]
  refine wpAny_bind (wpAny_setField hT hdT sz ?_)
  subst hc
  exact entry_fly hfr hf k2 l2 hn e2 hdc hd (Array.getElem?_eq_some_iff.mp h1).1 fun h' y1 y2 y3 y4=>q h' y1 (u2.trans y2) y3 y4
 ·cases hL.symm.trans hf
  obtain ⟨oe,vs,T,oT,ts,he,hc,hdc,hd,h1,hnT,hTe,hT,hdT,h3⟩:=id ht
  unfold noteFrame
  rw [hf]
  dsimp only
  refine wpAny_bind (wpAny_field (x:=_) he hd h1 ?_)
  rw [if_pos (by simp)]
  refine wpAny_bind (wpAny_field (x:=_) hT hdT h3 ?_)
  rw [if_pos (by simp)]
  exact wpAny_pure (q s.heap hk (Heap.UpToSlots.refl _) hl ht)
theorem mark_fly {fl:Value}{fo:Option Addr} (hk:B.StaysIn s.heap) (hl:s.heap.FunFrames B (env :: outer)) (ht:TrD s.heap B a cls fl)
  (q:∀ h',B.StaysIn h'->s.heap.UpToSlots h'->h'.FunFrames B (env :: outer)->TrD h' B a cls (fo.elim Value.none fun f=>rawInt f)->Q () { s with heap:=h' }):wpAny M A (setFlight (.ref a) fo) Q Ex s:=by
 obtain ⟨oe,vs,T,oT,ts,he,hc,hdc,hd,h1,hnT,hTe,hT,hdT,h3⟩:=ht
 have sz:3 < ts.size:=(Array.getElem?_eq_some_iff.mp h3).1
 obtain ⟨k2,u2,l2,t2,e2⟩:=set_entry (fl:=fl) (fl2:=fo.elim Value.none fun f=>rawInt f) he hc hdc hd h1 hnT hTe hT hdT sz hk hl
 unfold setFlight
 refine wpAny_bind (wpAny_field (x:=_) he hd h1 ?_)
 rw [if_pos (by simp)]
 exact wpAny_setField hT hdT sz (q _ k2 u2 l2 t2)
end
section
variable {X:Cx}{E:XK}
theorem wx_leaves {P:Program}{w:World}{A:Around}{env:Env}{outer:List Env}{H:Hp}{s s':Shared}{base:Heap}{L:Addr}{e:Value}{Ex:Value->Shared->Prop} (hst:A.frames=some (env :: outer)) (hf:env.frame=some L) (ff:s.heap.FunFrames base outer)
  (h:∃ a cls H' B,e=Value.ref a/\XL P w outer H s H' B s'/\FlyS B env outer a cls s'.heap/\E cls none H'):wpAny (model P w) A (leaving env e) (fun _ s''=>CXE P w outer H s E e s'') Ex s':=by
 obtain ⟨a,cls,H',B,rfl,x,y,q⟩:=h
 unfold leaving
 refine wpAny_bind (note_fly hst hf x.stays y fun h1 k1 u1 l1 t1=>?_)
 refine mark_fly k1 l1 t1 fun h2 k2 u2 l2 t2=>?_
 exact ⟨a,cls,H',B,rfl,(x.step ff k1 u1).step ff k2 u2,y.1,l2.2.2,t2,q⟩
theorem pass_on {E':XK} (hs:X.stack=X.env :: X.outer) (hf:X.env.frame=some X.env.locals) (hex:X.ex=[]) (hE:∀ cls H',E' cls none H'->E cls none H'):Passes (CXE X.prog X.w) (X.exc E) E':=by
  rintro pins σ H s e s' I0 ⟨a,cls,H',B,rfl,x,f2,f3,f4,q⟩
  have I:=I0.unwish
  have nex:∀ b,b ∉ X.ex:=fun b hb=>by rw [hex] at hb;cases hb
  have nst:∀ b o,X.s₀.heap.get? b=some o->b ∉ X.fs->b ∉ frs X.stack:=fun b o e nb hb=>by
    rcases zR.mp (I.stkSub b hb) with z | z
    · subst z;exact absurd (zV (Heap.lt_size e) I.ok.above) (ze _)
    · exact nb z
  have inst:∀ b,b ∈ X.fs->b ∈ frs X.stack:=fun b hb=>by
    rw [hs];unfold frs;rw [zi]
    split
    · exact hb
    · exact zo _ hb
  rw [show (X.exc E).stack=X.env :: X.outer from hs] at f3
  exact ⟨⟨by rw [<-hs];exact I.ok.frames,hf,I.ok.funs⟩,a,cls,H',B,rfl,
    { os:=x.os.trans I.os
      bare:=x.bare
      keepB:=fun b o e n hb=>x.keepB b o (I.base.keep b o e n hb (nex b)) (I.base.free b o e n (nex b)) (nst b o e hb)
      allB:=fun b o e hb=>by
        obtain ⟨o1,e1⟩:=I.base.there b o e (nex b)
        exact x.allB b o1 e1 (nst b o e hb)
      trkB:=x.trkB
      frm:=fun b o e hb=>by
        obtain ⟨sl,e1⟩:=I.base.slot b o e (I.ok.frf b hb) hb (nex b)
        obtain ⟨sl2,e2⟩:=x.frm b _ e1 (inst b hb)
        exact ⟨sl2,e2⟩
      free:=fun b o e n=>by
        obtain ⟨o1,e1⟩:=I.base.there b o e (nex b)
        exact x.free b o1 e1 (I.base.free b o e n (nex b))
      tups:=fun b xs e=>x.tups b xs (I.base.tups b xs e)
      frzs:=fun b o u e=>x.frzs b o u (I.base.frzs b o u e)
      tbls:=fun b ps e=>by
        obtain ⟨m1,e1⟩:=I.base.tbls b ps e
        obtain ⟨m2,e2⟩:=x.tbls b _ e1
        exact ⟨m1 ++ m2,by rw [e2,Array.append_assoc]⟩
      hok:=x.hok
      stays:=x.stays },⟨f2,f3,.inr (.inl f4)⟩,hE _ _ q⟩
theorem raise_wx {pins:List (Addr × Obj)}{σ:St}{H:Hp}{s:Shared}{h':Heap}{e:Addr}{cls:Value}{args:List Value} (hs:X.stack=X.env :: X.outer) (hf:X.env.frame=some X.env.locals) (hex:X.ex=[]) (I:Inv X pins σ H s) (hx:Heap.MadeExcOf s.heap h' e cls args) (q:E cls none H):WX X E (.ref e) { s with heap:=h' }:=by
  have nex:∀ b,b ∉ X.ex:=fun b hb=>by rw [hex] at hb;cases hb
  have nst:∀ b o,X.s₀.heap.get? b=some o->b ∉ X.fs->b ∉ frs X.stack:=fun b o e nb hb=>by
    rcases zR.mp (I.stkSub b hb) with z | z
    · subst z;exact absurd (zV (Heap.lt_size e) I.ok.above) (ze _)
    · exact nb z
  obtain ⟨t,he,hnt,ht⟩:=hx.there
  have hin:∀ env ∈ X.stack,∀ b,env.frame=some b->b ∈ frs X.stack:=fun env hm b hb=>z4.mpr ⟨env,hm,hb⟩
  have fr:=(PySem.W.funFrames_hide I.stack hin).of_keeps (h':=h') fun b o e _=>⟨o,hx.keeps b o e,rfl⟩
  rw [hs] at fr
  refine ⟨⟨by rw [<-hs];exact I.ok.frames,hf,I.ok.funs⟩,e,cls,H,PySem.W.hideAll s.heap (frs X.stack),rfl,
    { os:=I.os
      bare:=I.bare
      keepB:=fun b o e n hb=>PySem.W.hideAll_get _ (I.base.keep b o e n hb (nex b)) (nst b o e hb)
      allB:=fun b o e hb=>by
        obtain ⟨o1,e1⟩:=I.base.there b o e (nex b)
        exact ⟨o1,PySem.W.hideAll_get _ e1 (nst b o e hb)⟩
      trkB:=fun b u hu=>by
        obtain ⟨o1,e1⟩:=(I.hok b u hu).has
        exact ⟨o1,PySem.W.hideAll_get _ e1 fun hb=>by rw [I.stkFree b hb] at hu;cases hu⟩
      frm:=fun b o e hb=>by
        obtain ⟨sl,e1⟩:=I.base.slot b o e (I.ok.frf b hb) hb (nex b)
        exact ⟨sl,hx.keeps _ _ e1⟩
      free:=fun b o e n=>I.base.free b o e n (nex b)
      tups:=I.base.tups
      frzs:=I.base.frzs
      tbls:=I.base.tbls
      hok:=I.hok.kept hx.keeps
      stays:=fun b o e=>hx.keeps _ _ (PySem.W.of_hideAll _ e) },⟨?_,by rw [<-hs];rw [hs];exact fr,.inl ⟨_,_,he,rfl,rfl,rfl,rfl⟩⟩,q⟩
  cases z:(PySem.W.hideAll s.heap (frs X.stack)).get? e with
  | none=>rfl
  | some o=>have:=PySem.W.of_hideAll _ z;rw [hx.new] at this;cases this
end
end L2
set_option Elab.async false
set_option linter.all false
set_option maxRecDepth 100000
set_option maxHeartbeats 400000
namespace L2
open PySem PySem.Spec PyProof.Rows
abbrev veB:List Value:=[.type "ValueError", .type "Exception", .type "BaseException", .type "object"]
def xclsB (K:PySem.W.Frag) (C:Addr):Bool:=
 PySem.W.excIn K C veB "ValueError.__new__" && (zK K (.ref C) "__getattribute__" == some (some (.builtin "BaseException.__getattribute__"))) && (zK K (.ref C) "__getattr__" == some none) &&
 (zK K (.ref C) "__class__" == some (some (.builtin "object.__class__"))) && (yu K C (.type "object") == some true) && (yu K C (.type "BaseException") == some true) && (PySem.W.clsIn K C).isSome &&
 (yx K (.builtin "object.__class__") "__get__" == some (some (.builtin "getset_descriptor.__get__"))) && (xB K (.builtin "object.__class__") == some true)
structure XCls (K:PySem.W.Frag) (C:Addr):Prop where
 exc:PySem.W.excIn K C veB "ValueError.__new__" = true
 ga:zK K (.ref C) "__getattribute__" = some (some (.builtin "BaseException.__getattribute__"))
 gn:zK K (.ref C) "__getattr__" = some none
 cl:zK K (.ref C) "__class__" = some (some (.builtin "object.__class__"))
 ob:yu K C (.type "object")=some true
 bx:yu K C (.type "BaseException")=some true
 ic:(PySem.W.clsIn K C).isSome=true
 sp:yx K (.builtin "object.__class__") "__get__" = some (some (.builtin "getset_descriptor.__get__"))
 tk:xB K (.builtin "object.__class__")=some true
theorem XCls.of {K:PySem.W.Frag}{C:Addr} (h:xclsB K C=true):XCls K C:=by
 simp only [xclsB,zk,beq_iff_eq] at h
 obtain ⟨⟨⟨⟨⟨⟨⟨⟨h1,h2⟩,h3⟩,h4⟩,h5⟩,h6⟩,h7⟩,h8⟩,h9⟩:=h
 exact ⟨h1,h2,h3,h4,h5,h6,h7,h8,h9⟩
section
open PySem.W
variable {prog:Program}{w:World}{A:Around}{E:Value->Shared->Prop}{s:Shared}{K:PySem.W.Frag}{x C:Addr}{ox:Obj}{Q:Option Value->Shared->Prop}
end
section
variable {X:Cx}{K:PySem.W.Frag}
end
theorem exc_of {K:PySem.W.Frag}{h:Heap}{C:Addr}{bmB:List Value}{ni:String} (X:K.In h) (q:PySem.W.excIn K C bmB ni=true):∃ bm N nm qn bs hd sn sub ab col dd k0 k1 k2 k3 k5 mN,
  h.get? C=some (excClassObj nm qn C N bs bm hd sn sub ab col dd k0 k1 k2 k3 k5 ni)/\h.Ns N mN/\mN "__init__" = none/\OwnTail h bmB bm:=by
 simp only [PySem.W.excIn] at q
 split at q
 case h_2=>cases q
 case h_1 d0 c0 z0 lk=>
  split at q
  case h_2=>cases q
  case h_1 C0 bm p0 p1 p2 p3 n0 p5 em es=>
   simp only [zk,beq_iff_eq,Bool.not_eq_true'] at q
   obtain ⟨⟨⟨⟨⟨e1,e2⟩,e3⟩,e4⟩,e5⟩,e6⟩:=q
   subst e1 e2
   have ez:z0=#[p0,p1,p2,p3,some (.builtin n0),p5]:=by rw [<-es]
   have kC:=X _ _ lk
   rw [ez] at kC
   rcases c0 with ⟨nm,bs,mro,ns,qn,hd,sn,sub,ab,col,del⟩
   have em':mro=.ref C0 :: bm:=em
   have e3':del=false:=e3
   subst em' e3'
   exact ⟨bm,ns,nm,qn,bs,hd,sn,sub,ab,col,d0,p0,p1,p2,p3,p5,_,kC,.of_isNs (PySem.W.isNs_of_in X e5),PySem.W.nsMap_none_of_in X e5 e6,PySem.W.tail_of_in X e4⟩
section
variable {X:Cx}{E:XK}
theorem PS.nox {st:Stmt}{t:TS} (h:PS X.nox st t):PS X st t:=fun pins s σ H D I hw=>
 wpAny_mono (h pins s σ H D (I.wish _) hw) (fun _ _ q=>q.unwish) fun _ _ z=>False.elim z
def tRaise (E:XK) (C:Addr):TS:=fun _ _ H=>E (.ref C) none H
theorem wF {x:Str}{C:Addr} {np cpos pos p1:Pos}{t:Str} {j} (hs:X.stack=X.env :: X.outer) (hf:X.env.frame=some X.env.locals) (hex:X.ex=[]) (hc:X.calm=true) (hg:Gl X x) (hm:X.mg x=some (.ref C)) (xc:XCls X.K C) (hdb:(x == ("__debug__" : Str))=false:=by decide)
  (he:starEach [Expr.Constant (.str t) j p1] X.env=[(false,eval (.Constant (.str t) j p1) X.env)]:=by rfl) :
  PS (X.exc E) (.Raise (some (.Call (.Name x np) [.Constant (.str t) j p1] [] cpos)) none pos) (tRaise E C):=by
 intro pins s σ H D I0 h
 have I:=I0.unwish
 obtain ⟨bm,N,nm,qn,bs,hd,sn,sub,ab,col,dd,k0,k1,k2,k3,k5,mN,kC,kN,kn,kt⟩:=exc_of I.kIn xc.exc
 refine wpAny_Raise_call_subT (env:=X.env) (C:=C) (nm:=nm) (q:=qn) (N:=N) (bs:=bs) (bm:=bm) (hdct:=hd) (sn:=sn) (sub:=sub) (ab:=ab) (col:=col) (dd:=dd) (k0:=k0) (k1:=k1) (k2:=k2) (k3:=k3) (k5:=k5)
  PySem.F.excBase_ValueError (mN:=mN) (kt.hasType PySem.F.excBase_ValueError.hasBase) (I.ok.hd hc) (by rw [he];rfl) kn (ld_glob I0 hg hm ⟨rfl,?_⟩ hdb)
 rw [he]
 refine Calls.evalArgs_plain (Calls.spliced_cons (Calls.Constant_str (pos:=p1) (k:=j) (Calls.spliced_nil ?_)))
 refine ⟨rfl,by show 1<=sizeLine;decide,kC,kN,kt,fun h' e me=>?_⟩
 exact raise_wx (s:={ s with toks:=s.toks + 1 }) hs hf hex (I.tok _) me h
end
section
variable {P:Program}{w:World}{K:PySem.W.Frag}{mg:Str->Option Value}{base:Heap}
theorem Fun.okE {x qual:Str}{st:Stmt}{f:Addr}{fd:FuncData}{N ps:List Str}{k:Nat}{sp:Sp} (F:Fun K x qual st f fd) (S:FnScope N ps (defScope st)) (len:∀ vs H Q E,sp vs H Q E->vs.length=ps.length)
  (hbody:∀ (cdv:Value) (A:Around) (outer:List Env) (s:Shared) (H:Hp) (vs:List V) (Q:VK) (E:XK),Room k (A.deeper (envOfC qual (defScope st) s.heap.objs.size f cdv))->sp vs H Q E ->
   ∃ t,PSs ((cxOf (CXE P w) P w K mg base N qual (defScope st) f cdv A outer s H E).exc E) (defBody st) t/\t { nx:=fun _ H'=>Q .non H',rt:=Q } (start N vs) H):FnOk P w K mg base (CXE P w) (k + 1) f fd ps sp:=by
 obtain ⟨oc,od,kV,doc,pm,an,cdv,ct,osl,rfl,lk,hcd⟩:=F.ex
 refine fn_of lk hcd S len fun A outer s H vs Q E hr hsp=>?_
 obtain ⟨t,h,q⟩:=hbody cdv A outer s H vs Q E hr hsp
 refine ⟨t,fun pins s1 σ H1 D I hw=>?_,q⟩
 exact wpAny_mono (h pins s1 σ H1 D (I.wish _) hw) (fun _ _ z=>z.unwish) fun e s2 z=>wx_leaves (base:=base) I.ok.frames rfl I.ok.funs z.2
end
end L2
set_option Elab.async false
set_option linter.all false
set_option maxRecDepth 100000
set_option maxHeartbeats 400000
namespace L2
open PySem PySem.Spec PyProof.Rows
section
variable {X:Cx}{pins:List (Addr × Obj)}{σ:St}{H:Hp}{s:Shared}
end
def Cx.hand (X:Cx) (e:Addr):Cx:={ X with A:=X.A.mark (some (.ref e)),calm:=false,xe:=fun _ _=>False }
section
variable {X:Cx}{pins:List (Addr × Obj)}{σ:St}{H:Hp}{s:Shared}{e:Addr}
theorem Inv.hand (I:Inv X pins σ H s) (e:Addr):Inv (X.hand e) pins σ H s:=
 ⟨⟨I.ok.mod,I.ok.kind,I.ok.glob,I.ok.blt,I.ok.above,I.ok.inj,I.ok.has,I.ok.cab,(fun z=>by cases z),I.ok.frames,I.ok.stk,I.ok.exf,I.ok.bs,I.ok.bsz,I.ok.noex,I.ok.exfs,I.ok.funs,I.ok.frf⟩,I.os,I.bare,I.base,I.loc,I.cell,I.free,I.freeC,I.pin,I.hok,I.len⟩
theorem Inv.unhand (ok:X.Ok) (I:Inv (X.hand e) pins σ H s):Inv X pins σ H s:=⟨ok,I.os,I.bare,I.base,I.loc,I.cell,I.free,I.freeC,I.pin,I.hok,I.len⟩
end
def PSx (X:Cx) (st:List Stmt) (t:XK->TS):Prop:=∀ (pins:List (Addr × Obj)) (s:Shared) (σ:St) (H:Hp) (D:Ends) (Eh:XK) (Z:Value->Shared->Prop),Inv X pins σ H s->t Eh D σ H ->
 (∀ H1 s1 e s',Inv X pins σ H1 s1->CXE X.prog X.w X.stack H1 s1 Eh e s'->Z e s')->wpAny (model X.prog X.w) X.A (execs st X.env) (SP X pins D) Z s
section
variable {X:Cx}{k:Nat}{f:Addr}{fd:FuncData}{ps:List Str}{sp:Sp}{dvs:List V}{ds:List Value}{x:Str}{p pos cpos:Pos}{e:Expr}{es:List Expr}{t:TA}
theorem run_fnX {pins:List (Addr × Obj)}{σ:St}{H:Hp}{s:Shared}{Q:VK}{us:List Value}{vs:List V}{Eh:XK}{Z:Value->Shared->Prop} (F:FnOk X.prog X.w X.K X.mg X.base (CXE X.prog X.w) k f fd ps sp) (hr:Room k X.A) (hb:Binds X.K fd ps ds) (hd:Vals dvs ds)
  (hx:∀ e s',CXE X.prog X.w X.stack H s Eh e s'->Z e s') (I:Inv X pins σ H s) (r:Vals vs us) (h:sp (vs ++ dvs) H Q Eh):wpAny (model X.prog X.w) X.A (call (.ref f) us) (EP X pins σ Q) Z s:=by
 have r2:Vals (vs ++ dvs) (us ++ ds):=r.append hd
 have hl:(us ++ ds).length=ps.length:=by rw [<-r2.length];exact F.len _ _ _ _ h
 refine wpAny_call (codeAny_mono (F.run X.A X.stack s H ⟨us,[]⟩ (us ++ ds) (vs ++ dvs) Q Eh hr I.env0 (hb s us I.kIn hl) r2 h) fun r s' hq=>?_)
 cases r with
 | error e=>exact hx e s' hq
 | ok fl=>
  cases fl with
  | ret u=>exact I.after hq
  | next=>exact False.elim hq
  | brk=>exact False.elim hq
  | cont=>exact False.elim hq
end
section
variable {X:Cx}{K:PySem.W.Frag}
end
end L2
namespace L2
open PySem PySem.Spec PyProof.Rows
section
variable {X:Cx}{K:PySem.W.Frag}{e o:Expr}{es:List Expr}{to:TE}{t:TA}{T id:String}{name:Str}{apos cpos:Pos}{r:V->List V->Hp->VK->Prop}
theorem pe_bmK (hK:X.K=K) (pa:PlainAttrs T) (slot:Slot T name id) (hty:typeOf (.builtin id)=pure (.type "method_descriptor")) (hm:MtR X id r) (ho:PE X o to) (ha:PA X (e :: es) t)
  (hbase:attributeBase o name X.env (eval o X.env)=eval o X.env:=by rfl)
  (hfew:((backTo cpos (starEach (e :: es) X.env)).all (fun x=>!x.1) && (backToKw cpos (keywordEach [] X.env)).all (fun x=>x.1.isSome)
   && decide ((e :: es).length + ([]:List Keyword).length + (if ([]:List Keyword).isEmpty then 0 else 1) < 30))=true:=by rfl)
  (hline:(apos.endLine == cpos.line)=true:=by rfl) (hs:starEach (e :: es) X.env=(false,eval e X.env) :: starEach es X.env:=by rfl) (hplain:(backTo cpos (starEach es X.env)).any (·.1)=false:=by rfl) :
  PE X (.Call (.Attribute o name apos) (e :: es) [] cpos) (tBM K T r to t):=by
 subst hK
 exact pe_bm pa slot hty hm ho ha hbase hfew hline hs hplain
end
end L2
set_option Elab.async false
set_option linter.all false
set_option maxRecDepth 100000
set_option maxHeartbeats 400000
namespace L2
open PySem PySem.Spec PyProof.Rows
def oclsB (K:PySem.W.Frag) (C:Addr):Bool:=
 yA K C "__class__" && yG K C && (zK K (.ref C) "__class__" == some (some (.builtin "object.__class__"))) && (yu K C (.type "object") == some true) &&
 (yx K (.builtin "object.__class__") "__get__" == some (some (.builtin "getset_descriptor.__get__"))) && (xB K (.builtin "object.__class__") == some true)
structure OCls (K:PySem.W.Frag) (C:Addr):Prop where
 pg:yA K C "__class__" = true
 hd:yG K C=true
 cl:zK K (.ref C) "__class__" = some (some (.builtin "object.__class__"))
 ob:yu K C (.type "object")=some true
 sp:yx K (.builtin "object.__class__") "__get__" = some (some (.builtin "getset_descriptor.__get__"))
 tk:xB K (.builtin "object.__class__")=some true
theorem OCls.of {K:PySem.W.Frag}{C:Addr} (h:oclsB K C=true):OCls K C:=by
 simp only [oclsB,zk,beq_iff_eq] at h
 obtain ⟨⟨⟨⟨⟨h1,h2⟩,h3⟩,h4⟩,h5⟩,h6⟩:=h
 exact ⟨h1,h2,h3,h4,h5,h6⟩
def vo:V->Value
 | .ref a=>.ref a
 | .ty n=>.type n
 | _=>.none
def isCl:V->Bool
 | .ref _=>true
 | .ty _=>true
 | _=>false
theorem vo_of {x:V}{u:Value} (h:isCl x=true) (r:RelV x u):u=vo x:=by
 cases x <;> first | exact r | cases h
section
variable {X:Cx}{K:PySem.W.Frag}
theorem Inv.instAt {pins:List (Addr × Obj)}{σ:St}{H:Hp}{s:Shared}{a C dx:Addr}{fs:List (Str × V)} (I:Inv X pins σ H s) (h:H a=some (.ins C dx fs)):∃ od,PySem.W.InstAt s.heap a (yO C dx) C (some od):=by
 obtain ⟨_,_,_,e,mA,⟨od,_,_,e2,_⟩,_⟩:=I.hok a _ h
 exact ⟨od,e,rfl,rfl,e2⟩
theorem call_isO (hK:X.K=K):CallR X (.builtin "isinstance") (fun xs H Q=>∃ a C dx fs c b,xs=[.ref a,c]/\H a=some (.ins C dx fs)/\OCls K C/\isCl c=true/\yN K (.ref C) (vo c)=some b/\Q (.bl b) H):=by
 subst hK
 intro pins s σ H xs us Q I r h
 obtain ⟨a,C,dx,fs,c,b,rfl,ha,oc,hc,hk,q⟩:=h
 obtain ⟨u,w',rfl,r1,r2⟩:=vals2 r
 cases r1
 cases vo_of hc r2
 obtain ⟨od,i⟩:=I.instAt ha
 exact zx (PySem.W.kitx_own oc.pg oc.hd oc.cl oc.sp oc.tk oc.ob) I.kIn i hk (by intro z;cases z) fun tk=>⟨.bl _,H,I.tok tk,rfl,q⟩
end
end L2
set_option Elab.async false
set_option linter.all false
set_option maxRecDepth 100000
set_option maxHeartbeats 400000
namespace L2
open PySem PySem.Spec PyProof.Rows
end L2
namespace L2
open PySem PySem.Spec PyProof.Rows
section
variable {X:Cx}
def rInT (K:PySem.W.Frag):R2:=fun x y H Q=>∃ (n:Nat) (p:Addr) (rs:List (Addr × Bool)),n<=20/\y=.ref p/\SqT K H p (rs.map fun r=>V.ref r.1)/\(∀ r ∈ rs,Eqv K H n (.ref r.1) x r.2)/\Q (.bl (rs.any (·.2))) H
theorem op_inT (hu:X.A.units + 64 < cLine):OpR X (compareOp .In) (rInT X.K):=by
 intro pins s σ H x y v u Q I rx ry h
 obtain ⟨n,p,rs,hn,rfl,hq,hg,q⟩:=h
 cases ry
 obtain ⟨its,r,pl,hz⟩:=I.tuple hq
 have back:∀ w ∈ its,∃ r ∈ rs,w=.ref r.1:=fun w hw=>by
  obtain ⟨j,hj,rfl⟩:=List.getElem_of_mem hw
  obtain ⟨x0,ex,rx0⟩:=wJ r (j:=j) (by simpa using hj)
  rw [zC] at ex
  cases e:rs[j]? with
  | none=>rw [e] at ex;cases ex
  | some a=>
   rw [e] at ex
   cases ex
   simp only [List.getElem_toArray] at rx0
   exact ⟨a,zD e,rx0⟩
 have forth:∀ a ∈ rs,Value.ref a.1 ∈ its:=fun a ha=>by
  obtain ⟨j,hj,rfl⟩:=List.getElem_of_mem ha
  obtain ⟨u,eu,ru⟩:=r.get (i:=j) (x:=V.ref rs[j].1) (by simp [hj])
  cases ru
  exact zD eu
 haveI:DecidablePred fun u:Value=>∃ r ∈ rs,u=.ref r.1/\r.2=true:=fun _=>Classical.propDecidable _
 refine SeqAt.in_tupleAt (fun u=>decide (∃ r ∈ rs,u=.ref r.1/\r.2=true)) pl (fun w hw=>?_) ⟨.bl _,H,I,rfl,?_⟩
 ·have hw:w ∈ its:=by simpa using hw
  by_cases c:∃ r ∈ rs,w=.ref r.1/\r.2=true
  ·rw [decide_eq_true c]
   obtain ⟨r0,m0,rfl,b0⟩:=c
   have:=eqv_eq I n (A:=X.A.in1) (by show X.A.units + 1 + n < cLine;omega) (hg r0 m0) (u:=.ref r0.1) rfl rx
   rw [b0] at this;exact this
  ·rw [decide_eq_false c]
   obtain ⟨r0,m0,rfl⟩:=back w hw
   have b0:r0.2=false:=by
    cases e:r0.2 with
    | false=>rfl
    | true=>exact absurd ⟨r0,m0,rfl,e⟩ c
   have:=eqv_eq I n (A:=X.A.in1) (by show X.A.units + 1 + n < cLine;omega) (hg r0 m0) (u:=.ref r0.1) rfl rx
   rw [b0] at this;exact this
 ·have e:its.toArray.any (fun u=>decide (∃ r ∈ rs,u=.ref r.1/\r.2=true))=rs.any (·.2):=by
   rw [yo]
   simp only [List.any_toArray,List.any_eq_true,decide_eq_true_eq]
   constructor
   ·rintro ⟨u,_,r0,m0,_,b0⟩;exact ⟨r0,m0,b0⟩
   ·rintro ⟨r0,m0,b0⟩;exact ⟨_,forth r0 m0,r0,m0,rfl,b0⟩
  rw [e];exact q
end
end L2
namespace L2
open PySem PySem.Spec PyProof.Rows
section
variable {X:Cx}{K:PySem.W.Frag}
theorem op_inT' (hK:X.K=K) (hu:X.A.units + 64 < cLine):OpR X (compareOp .In) (rInT K):=by subst hK;exact op_inT hu
end
end L2
set_option Elab.async false
set_option linter.all false
set_option maxRecDepth 100000
set_option maxHeartbeats 400000
namespace Sm
open PySem L2 SmSort
def metB (i j:Int) (m:M4):Bool:=decide ([i,j]=[m.lo,m.hi]) || decide ([j,i]=[m.lo,m.hi])
def metN (ms:List M4) (i j:Int):Nat:=(ms.filter (metB i j)).length
def spMet:Sp:=fun vs H Q _=>∃ b i j rooms tr tm ps,vs=[.ref b,.int i,.int j]/\BookAt H b rooms tr tm ps/\ps.length<=1000/\∀ H',Same H H'->Q (.int (metN (ps.map (·.2)) i j)) H'
def shareV (ms:List M4) (g o w:Int):V:=if o=w\/metN ms g w < metN ms o w then .int 0 else .non
def NearAt (C:Addr) (H:Hp) (x b:Addr):Prop:=∃ dx,H x=some (.ins C dx [("past", .ref b)])
theorem NearAt.same {C:Addr}{H H':Hp}{x b:Addr} (h:NearAt C H x b) (s:Same H H'):NearAt C H' x b:=h.elim fun dx e=>⟨dx,s _ _ e⟩
def spInitN (C:Addr):Sp:=fun vs H Q _=>∃ x dx b,vs=[.ref x,.ref b]/\H x=some (.ins C dx [])/\∀ H',But x H H'->NearAt C H' x b->Q .non H'
def spFirst0:Sp:=fun vs H Q _=>∃ x,vs=[x]/\Q (.int 0) H
def spShare (C:Addr):Sp:=fun vs H Q _=>∃ x b lt g o tok s a w z rooms tr tm ps,vs=[.ref x,.ref lt,.int g,.int o,.int tok]/\NearAt C H x b/\BookAt H b rooms tr tm ps/\ps.length<=1000/\H lt=some (.tup [.int s,.int a,.int w,.int z])/\∀ H',Same H H'->Q (shareV (ps.map (·.2)) g o w) H'
theorem filt_len {ps:List (Addr × M4)}{p:M4->Bool}:((ps.map (·.2)).filter p).length=(ps.filter fun a=>p a.2).length:=by
 rw [List.filter_map,zA];rfl
end Sm
namespace Sm
open PySem L2 SmSort
theorem filt_sn {fs:List (Addr × M4)}{i:Nat}{r:Addr × M4}{p:Addr × M4->Bool} (h:fs[i]?=some r):(fs.take (i + 1)).filter p=(fs.take i).filter p ++ (if p r then [r] else []):=by
 rw [wI h,List.filter_append]
 congr 1
 by_cases e:p r
 ·rw [if_pos e,List.filter_cons_of_pos e];rfl
 ·rw [if_neg e,List.filter_cons_of_neg e];rfl
end Sm
namespace Sm
open PySem L2 SmSort
end Sm
namespace Sm
open PySem L2 SmSort
end Sm
set_option Elab.async false
set_option linter.all false
set_option maxRecDepth 100000
set_option maxHeartbeats 400000
namespace Sm
open PySem L2 SmSort
def halfV (o w tok:Int):V:=if o=w then .int 0 else if 2<=tok then .int (tok / 2) else .non
def HalfAt (C:Addr) (H:Hp) (x:Addr) (n:Int):Prop:=∃ dx,H x=some (.ins C dx [("tokens", .int n)])
theorem HalfAt.same {C:Addr}{H H':Hp}{x:Addr}{n:Int} (h:HalfAt C H x n) (s:Same H H'):HalfAt C H' x n:=h.elim fun dx e=>⟨dx,s _ _ e⟩
def spInitA:Sp:=fun vs H Q _=>∃ x,vs=[x]/\Q .non H
def spShare0:Sp:=fun vs H Q _=>∃ x l g o t,vs=[x,l,g,o,t]/\Q (.int 0) H
def spInitH (C N:Addr):Sp:=fun vs H Q E=>∃ x dx v t,vs=[.ref x,v]/\H x=some (.ins C dx [])/\tyS H v=some t /\
 ((inB 1 64 v=false/\E (.ref N) none H)\/∃ n,v=.int n/\1<=n/\n<=64/\∀ H',But x H H'->HalfAt C H' x n->Q .non H')
def spFirstH (C:Addr):Sp:=fun vs H Q _=>∃ x n,vs=[.ref x]/\HalfAt C H x n/\Q (.int n) H
def spShareH:Sp:=fun vs H Q _=>∃ x lt g o tok s a w z,vs=[x,.ref lt,.int g,.int o,.int tok]/\H lt=some (.tup [.int s,.int a,.int w,.int z])/\0<=tok/\tok<=64/\Q (halfV o w tok) H
theorem same_two {H:Hp}{x dx:Addr} {o1 o2:HO} (nx:H x=none) (ndx:H dx=none) (ne:dx ≠ x):Same H (upd (upd H dx o1) x o2):=
 (xL ndx).trans (xL (by rw [xN (Ne.symm ne)];exact nx))
theorem same_twice {H:Hp}{x:Addr} {o1 o2:HO} (h:H x=none):Same H (upd (upd H x o1) x o2):=fun b u e=>by
 rw [xN (xJ e h),xN (xJ e h)];exact e
end Sm
set_option Elab.async false
set_option linter.all false
set_option maxRecDepth 100000
set_option maxHeartbeats 400000
namespace L2
open PySem PySem.Spec PyProof.Rows PySem.W SmSort
def addT (H:Hp):List (Addr × List V)->Hp
 | []=>H
 | p :: r=>upd (addT H r) p.1 (.tup p.2)
theorem addT_ne {H:Hp}{b:Addr}:∀ {ps:List (Addr × List V)},(∀ p ∈ ps,p.1 ≠ b)->addT H ps b=H b
 | [],_=>rfl
 | p :: r,h=>by
  show upd (addT H r) p.1 (.tup p.2) b=H b
  rw [xN (Ne.symm (h p (.head _)))]
  exact addT_ne fun q hq=>h q (.tail _ hq)
theorem addT_at {H:Hp}:∀ {ps:List (Addr × List V)},(ps.map (·.1)).Nodup->∀ p ∈ ps,addT H ps p.1=some (.tup p.2)
 | [],_,_,h=>nomatch h
 | q :: r,nd,p,h=>by
  rw [zj,yT] at nd
  show upd (addT H r) q.1 (.tup q.2) p.1=_
  rcases zR.mp h with rfl | h
  ·exact xH
  ·rw [xN (fun e=>nd.1 (by rw [<-e];exact zM.mpr ⟨p,h,rfl⟩))]
   exact addT_at nd.2 p h
theorem addT_same {H:Hp}{ps:List (Addr × List V)} (h:∀ p ∈ ps,H p.1=none):Same H (addT H ps):=fun b u e=>by
 rw [addT_ne fun p hp z=>by have:=h p hp;rw [z,e] at this;cases this];exact e
section
variable {X:Cx}{pins:List (Addr × Obj)}{σ:St}{H:Hp}{s:Shared}
theorem Inv.tupsLaid {h':Heap}{t':Nat}{ps:List (Addr × List V)} (I:Inv X pins σ H s) (k:∀ b o,s.heap.get? b=some o->h'.get? b=some o) (hp:∀ p ∈ ps,s.heap.objs.size<=p.1) (nd:(ps.map (·.1)).Nodup)
  (ok:∀ p ∈ ps,p.2.length<=sizeLine/\∃ its:List Value,Vals p.2 its/\IsTup h' p.1 its.toArray):Inv X pins σ (addT H ps) { s with heap:=h',toks:=t' }:=by
 have hn:∀ p ∈ ps,H p.1=none:=fun p h=>I.hok.fresh (hp p h)
 have ne:∀ b u,H b=some u->∀ p ∈ ps,p.1 ≠ b:=fun b u e p h z=>by have:=hn p h;rw [z,e] at this;cases this
 have old:∀ b u,H b=some u->addT H ps b=some u:=fun b u e=>by rw [addT_ne (ne b u e)];exact e
 refine I.un ⟨fun b o e _ _ _=>k b o e,fun b o e _ _ _=>⟨o.slots,k b o e⟩,fun b o e n _=>?_,fun b o e _=>⟨o,k b o e⟩,fun b xs e=>old b _ e,fun b o u e=>old b _ e,fun b qs e=>⟨#[],by rw [old b _ e];simp⟩⟩ fun b u e=>?_
 ·rw [addT_ne (b:=b) fun p h z=>absurd (Heap.lt_size e) (Nat.not_lt.mpr (by rw [<-z];exact hp p h))];exact n
 ·by_cases c:∃ p ∈ ps,p.1=b
  ·obtain ⟨p,h,rfl⟩:=c
   rw [addT_at nd p h] at e;cases e
   obtain ⟨z,its,r,t⟩:=ok p h
   exact ⟨z,its,r,t⟩
  ·have e':=e
   rw [addT_ne fun p h z=>c ⟨p,h,z⟩] at e'
   exact (I.hok b u e').stay (fun c v _ q=>k c v q) (fun c q=>old c _ q) fun c xs q=>old c _ q
theorem Inv.newsIn {m:Str->Option Value}{h':Heap}{D:Addr}{its:List Value}{c:Nat}{xs ys:List V} (I:Inv X pins σ H s) (F0:Fr X.base X.env.locals s.heap m) (F:Fr X.base X.env.locals h' m) (hD:H D=some (.lst ys))
  (N:News X.base X.env.locals h' ((D,listOf its.toArray c) :: rest X.base s.heap X.env.locals D)) (hv:Vals xs its) (hz:xs.length<=sizeLine):Inv X pins σ (upd H D (.lst xs)) { s with heap:=h' }:=by
 have eD:=(N (D,listOf its.toArray c) (.head _)).1
 have keep:=kept_of_news (h:=s.heap) (d:=D) I.bk F (fun p hp=>N p (.tail _ hp))
 have neD:∀ b,H b=none->b ≠ D:=fun b n z=>by rw [z,hD] at n;cases n
 have neL:∀ b u,H b=some u->b ≠ X.env.locals:=fun b u e z=>by rw [z,I.free] at e;cases e
 refine I.step (g':=s.gens) (t':=s.toks) (d':=s.drawn) (ch:=[]) (fun _ z=>nomatch z) (fun b o hb _ _ e n=>keep b o hb (neD b n) e) (fun b o hb _ _ e n=>⟨o.slots,keep b o hb (neD b n) e⟩) (fun b o _ e n=>by rw [xN (neD b n)];exact n) (fun b o _ e=>?_)
  (fun b ys e=>by rw [xN (wK e hD (by intro z;cases z))];exact e) (fun b o u e=>by rw [xN (wK e hD (by intro z;cases z))];exact e) (fun b ps e=>⟨#[],by rw [xN (wK e hD (by intro z;cases z)),e,Array.append_empty]⟩) (fun m' hm=>?_) (fun b u e=>?_) I.bare
 ·by_cases hb:b=X.env.locals
  ·obtain ⟨o',_,_,q,_⟩:=F.ns
   exact ⟨o',by rw [hb];exact q⟩
  ·by_cases hb2:b=D
   ·exact ⟨_,by rw [hb2];exact eD⟩
   ·exact ⟨o,keep b o hb hb2 e⟩
 ·obtain ⟨o1,es1,ep1,e1,d1,k1,f1⟩:=hm
  obtain ⟨o2,es2,ep2,e2,d2,k2,f2⟩:=F0.ns
  rw [e1] at e2;cases e2
  rw [d1] at d2;cases d2
  obtain ⟨o3,es3,ep3,e3,d3,k3,f3⟩:=F.ns
  exact ⟨o3,es3,ep3,e3,d3,k3,fun name=>(f3 name).trans ((f2 name).symm.trans (f1 name))⟩
 ·by_cases hb:b=D
  ·subst hb;rw [xH] at e;cases e
   exact ⟨hz,its,c,hv,eD⟩
  ·rw [xN hb] at e
   refine (I.hok b u e).stay (fun c v hc q=>?_) (fun c q=>by rw [xN (wK q hD (by intro z;cases z))];exact q) fun c ys q=>by rw [xN (wK q hD (by intro z;cases z))];exact q
   rcases hc with rfl | hc
   ·exact keep c v (neL c u e) hb q
   ·exact keep c v (neL c _ hc) (wK hc hD (by intro z;cases z)) q
theorem lsortT {l:Addr}{ps:List (Addr × List Int)}{A':Around}{E':Value->Shared->Prop}{Z:Shared->Prop} (I:Inv X pins σ H s) (hl:H l=some (.lst (ps.map fun a=>V.ref a.1))) (h64:ps.length < 64) (hrow:∀ a ∈ ps,H a.1=some (.tup (a.2.map V.int))/\a.2 ≠ [])
  (q:∀ (qs:List (Addr × List Int)) (s':Shared),List.Perm qs ps->qs.Pairwise (fun a b=>lx b.2 a.2=false)->Inv X pins σ (upd H l (.lst (qs.map fun a=>V.ref a.1))) s'->Z s') :
  wpAny (model X.prog X.w) A' (call (.builtin "list.sort") [.ref l]) (fun _ s'=>Z s') E' s:=by
 obtain ⟨z0,its,n,r',_,el⟩:=I.lstM hl
 have ei:=vals_refs r'
 subst ei
 have hlen:(ps.map fun a=>Value.ref a.1).length=ps.length:=by simp
 have nL:l ≠ X.env.locals:=fun z=>by rw [z,I.free] at hl;cases hl
 have nB:X.base.get? l=none:=by
  cases e:X.base.get? l with
  | none=>rfl
  | some u=>have:=(I.bs l u e).2;rw [hl] at this;cases this
 by_cases h2:ps.length < 2
 ·refine wpAny_call_entry slot_list_sort ⟨_,el,rfl⟩ entry_list_sort (sort_short el (by omega) ⟨_,rfl,?_⟩) (args_list_sort _)
  have e1:=get?_update_seq el (fun _=>(#[]:Array Value))
  refine q ps _ (List.Perm.refl _) ?_ (I.write (x:=l) (e:=l) (t':=s.toks) (by rw [hl];trivial) (.inl rfl) (fun b u hb e=>?_) ⟨_,get?_update_seq (Heap.get?_push_of_some _ (Heap.get?_push_of_some _ e1)) _⟩ ⟨z0,_,_,r',get?_update_seq (Heap.get?_push_of_some _ (Heap.get?_push_of_some _ e1)) _⟩)
  ·match ps,h2 with
   | [],_=>exact .nil
   | [_],_=>exact zt _ _
  ·unfold sortedHeap
   rw [Heap.get?_update_ne _ _ _ _ hb]
   refine Heap.get?_push_of_some _ (Heap.get?_push_of_some _ ?_)
   rw [Heap.get?_update_ne _ _ _ _ hb]
   exact e
 ·obtain ⟨m,F⟩:=I.fr
  refine kat_lsort F (news_at nL nB el) (UpdF.head rest_ne) rfl (by simpa using h2) (by simpa using h64) fun e1 h' F' N'=>?_
  have keep:=kept_of_news (h:=s.heap) (d:=l) I.bk F' (fun p hp=>N' p (.tail _ hp))
  have rowAt:∀ a ∈ ps,RowAt h' a.1 a.2/\a.2 ≠ []:=fun a ha=>by
   obtain ⟨ht,hn⟩:=hrow a ha
   obtain ⟨_,its,rv,o,e,c,n,d⟩:=I.hok a.1 _ ht
   refine ⟨⟨o,_,n,keep a.1 o (fun z=>?_) (wK ht hl (by intro z;cases z)) e,c,d,rv⟩,hn⟩
   rw [z,I.free] at ht;cases ht
  obtain ⟨fs,kt,lf,hf⟩:=kat_tups rowAt
  simp only [List.toList_toArray] at *
  refine kat_kind (T:=.type "int") kt (by omega) (fun v hv=>?_) (by decide) ?_
  ·obtain ⟨i,t,rfl⟩:=hf v hv
   exact Looks.now
  have n1:1<=(ps.map fun a=>Value.ref a.1).length:=by omega
  refine KOK.wp (c:=cf fun i=>rk (ps.map (·.2)) ((ps.map (·.2)).getD i [])) (fun i j C hi hj hC=>?_) (fun pp hp=>?_) _ (sort_ok (f:=fun i=>rk (ps.map (·.2)) ((ps.map (·.2)).getD i [])) n1)
  ·have hi':i < ps.length:=by omega
   have hj':j < ps.length:=by omega
   obtain ⟨⟨o,items,n,ho,hc,hd,hv⟩,hn⟩:=rowAt ps[i] (zh hi')
   obtain ⟨⟨o',items',n',ho',hc',hd',hv'⟩,hn'⟩:=rowAt ps[j] (zh hj')
   unfold kas_ask
   have ei:(ps.map fun a=>Value.ref a.1).getD i Value.none=.ref ps[i].1:=by simp [hi']
   have ej:(ps.map fun a=>Value.ref a.1).getD j Value.none=.ref ps[j].1:=by simp [hj']
   rw [ei,ej]
   refine kat_lt ho hd ho' hd' (vals_lex hv hv' (by simp) ?_)
   have e:cf (fun i=>rk (ps.map (·.2)) ((ps.map (·.2)).getD i [])) i j=lx ps[i].2 ps[j].2:=by
    unfold cf
    have e1:(ps.map (·.2)).getD i []=ps[i].2:=by simp [hi']
    have e2:(ps.map (·.2)).getD j []=ps[j].2:=by simp [hj']
    simp only [e1,e2]
    exact rk_lt (zM.mpr ⟨ps[i],zh hi',rfl⟩)
   rw [e] at hC
   exact hC
  ·obtain ⟨pm,up⟩:=hp
   refine KasFin.intro F' N' (UpdF.head rest_ne) fun h2' c F2 N2=>?_
   have pl:pp.toList.Perm (List.range ps.length):=by
    have:=pm.toList
    rw [hlen] at this
    simpa using this
   have eo:(pp.toList.map fun i=>(ps.map fun a=>Value.ref a.1).getD i Value.none)=(pp.toList.map fun i=>ps.getD i (0,[])).map fun a=>Value.ref a.1:=by
    rw [zX]
    refine yF fun i hi=>?_
    have hi':i < ps.length:=zn.mp (pl.mem_iff.mp hi)
    simp [hi']
   have perm:(pp.toList.map fun i=>ps.getD i (0,[])).Perm ps:=by
    have:=pl.map fun i=>ps.getD i (0,[])
    rwa [range_map] at this
   rw [eo] at N2
   have hzz:((pp.toList.map fun i=>ps.getD i (0,[])).map fun a=>V.ref a.1).length<=sizeLine:=by
    rw [zA,perm.length_eq,sizeLine_eq];omega
   refine q _ _ perm ?_ (I.newsIn F F2 hl N2 (vals_of_refs _) hzz)
   rw [yD]
   intro i j hi hj hij
   simp only [zA,Array.length_toList] at hi hj
   simp only [yC,Array.getElem_toList]
   have hn:pp.size=ps.length:=by rw [pm.size];exact hlen
   have key:=up i j (yy hij) (by omega)
   have a1:pp[i] < ps.length:=zn.mp (pl.mem_iff.mp (by simp))
   have a2:pp[j] < ps.length:=zn.mp (pl.mem_iff.mp (by simp))
   unfold g at'  at key
   simp only [hi,hj,getElem?_pos,Option.getD_some] at key
   have e1:(ps.map (·.2)).getD pp[i] []=ps[pp[i]].2:=by simp [a1]
   have e2:(ps.map (·.2)).getD pp[j] []=ps[pp[j]].2:=by simp [a2]
   rw [e1,e2] at key
   have e3:ps.getD pp[i] (0,[])=ps[pp[i]]:=by simp [a1]
   have e4:ps.getD pp[j] (0,[])=ps[pp[j]]:=by simp [a2]
   rw [e3,e4]
   have:=rk_lt (rs:=ps.map (·.2)) (a:=ps[pp[j]].2) (b:=ps[pp[i]].2) (zM.mpr ⟨_,zh a2,rfl⟩)
   rw [<-this]
   simp only [decide_eq_false_iff_not]
   omega
end
end L2
namespace L2
open PySem PySem.Spec PyProof.Rows PySem.W SmSort
def viewO (v d:Addr):HO:=.ext fun h=>h.IsItemsView v d
section
variable {X:Cx}
theorem mt_items:MtR X "dict.items" (fun x xs H Q=>∃ d kvs,x=.ref d/\xs=[]/\H d=some (.dK kvs)/\∀ v,H v=none->Q (.ref v) (upd H v (viewO v d))):=by
 intro pins s σ H x xs v us Q I rx rs h
 obtain ⟨d,kvs,rfl,rfl,hd,q⟩:=h
 cases rx
 cases rs
 obtain ⟨_,hS,vs,r,m⟩:=dk_of I.hok hd
 refine call_meetsIn PySem.F.slot_dict_items m.typeIs PySem.F.entry_dict_items (PySem.F.args_dict_items_1 _) (meets_dict_items (mixKind X.prog X.w) d hS) ⟨⟨vs,m⟩,?_⟩
 exact ⟨.ref _,_,I.laid (t':=s.toks) (fun _ _ q=>Heap.get?_push_of_some _ q) (zJ _) (show ObjOk X.prog X.w _ _ _ (viewO s.heap.objs.size d) from ⟨⟨_,Heap.get?_push_size _ rfl,rfl,rfl⟩,⟨_,Heap.get?_push_size _ rfl⟩,fun h1 h2 ⟨o,e,c,dd⟩ k=>⟨o,k o e,c,dd⟩⟩),rfl,q _ I.fresh⟩
theorem kv_get {kv:List (Int × Int)}{vs:List (Key × Value)} (r:KV (kv.map fun p=>(Sum.inl p.1,V.int p.2)) vs) {j:Nat}{k:Key}{x:Value} (h:vs[j]?=some (k,x)):∃ p t,kv[j]?=some p/\k=Sum.inl p.1/\x=Value.int p.2 t:=by
 induction kv generalizing vs j with
 | nil=>cases r;cases h
 | cons p kv ih=>
  cases r with
  | cons a b=>
   cases j with
   | zero=>
    obtain rfl:_=(k,x):=Option.some.inj h
    obtain ⟨e1,t,e2⟩:=a
    exact ⟨p,t,rfl,e1.symm,e2⟩
   | succ j=>exact ih b h
theorem call_sortItems (hc:X.calm=true):CallR X (.builtin "sorted") (fun xs H Q=>∃ v d,∃ kv:List (Int × Int),xs=[.ref v]/\H v=some (viewO v d)/\H d=some (.dK (kv.map fun p=>(Sum.inl p.1,V.int p.2)))/\kv.length < 64 /\
  ∀ l (qs:List (Addr × List Int)) H',Same H H'->H l=none->(∀ a ∈ qs,H a.1=none)->H' l=some (.lst (qs.map fun a=>V.ref a.1))->(∀ a ∈ qs,H' a.1=some (.tup (a.2.map V.int)))->(qs.map (·.2)).Perm (kv.map fun p=>[p.1,p.2])->qs.Pairwise (fun a b=>lx b.2 a.2=false)->Q (.ref l) H'):=by
 intro pins s σ H xs us Q I r h
 obtain ⟨v,d,kv,rfl,hv,hd,h64,q⟩:=h
 obtain ⟨u,rfl,rx⟩:=vals1 r
 cases rx
 have line:1002<=sizeLine:=by rw [sizeLine_eq];decide
 obtain ⟨_,hS,vs,rv,m⟩:=dk_of I.hok hd
 have lv:vs.length=kv.length:=by have:=Paired.length rv;rw [zA] at this;omega
 obtain ⟨od,es,ep,ho,hx,hdat,hk,hp,hnd⟩:=m
 have view:s.heap.IsItemsView v d:=(I.hok v _ hv).1
 refine Calls.call_function_entry kind_sorted plain_sorted entry_sorted (args_sorted1 _) ?_
 unfold Builtin.«sorted»
 refine wpAny_bind (m:=checkCount "sorted" 1 1 _) (wpAny_pure ?_)
 refine wpAny_bind (kdx_collect (knd:=mixKind X.prog X.w) (kvs:=vs) (ep:=ep) (I.ok.hd hc) view ⟨od,es,ho,hx,hdat,hk,hp,hnd⟩ (by omega) fun h1 tk as hk1 hl hG=>?_)
 have la:as.length=kv.length:=hl.trans lv
 have each:∀ p ∈ as.zip (kv.map fun p=>[p.1,p.2]),p.1 ∈ as/\∃ i j:Int,∃ t t',p.2=[i,j]/\h1.get? p.1=some { cls:=.type "tuple", data:=.seq #[.int i t,.int j t'] }:=fun p hp=>by
  obtain ⟨j,hj⟩:=List.mem_iff_getElem?.mp hp
  rw [List.getElem?_zip_eq_some] at hj
  obtain ⟨e1,e2⟩:=hj
  obtain ⟨key,k,x,g1,g2,g3⟩:=hG.pairs j p.1 e1
  obtain ⟨w,t,w1,w2,w3⟩:=kv_get rv g1
  rw [zC,w1] at e2
  have e3:[w.1,w.2]=p.2:=Option.some.inj e2
  rcases xl g2 with ⟨i,t',f1,f2⟩ | ⟨i,t',f1,f2⟩
  ·rw [f1] at w2
   cases w2
   exact ⟨zD e1,_,_,t',t,e3.symm,by rw [g3,f2,w3]⟩
  ·rw [f1] at w2;cases w2
 have fst:(as.zip (kv.map fun p=>[p.1,p.2])).map (·.1)=as:=by
  rw [List.map_fst_zip];rw [zA];omega
 have snd:(as.zip (kv.map fun p=>[p.1,p.2])).map (·.2)=kv.map fun p=>[p.1,p.2]:=by
  rw [List.map_snd_zip];rw [zA];omega
 have ndA:as.Nodup:=hG.rise.imp fun h=>zU h
 have lps:(as.zip (kv.map fun p=>[p.1,p.2])).length=kv.length:=by rw [List.length_zip,zA];omega
 have efst:as.map Value.ref=(as.zip (kv.map fun p=>[p.1,p.2])).map fun a=>Value.ref a.1:=by
  conv=>lhs;rw [<-fst]
  rw [zX];rfl
 generalize as.zip (kv.map fun p=>[p.1,p.2])=ps at each fst snd lps efst
 have ndP:((ps.map fun a=>(a.1,a.2.map V.int)).map (·.1)).Nodup:=by
  rw [zX]
  show (ps.map fun a=>a.1).Nodup
  rw [show (ps.map fun a=>a.1)=as from fst];exact ndA
 have I1:Inv X pins σ (addT H (ps.map fun a=>(a.1,a.2.map V.int))) { s with heap:=h1,toks:=tk }:=by
  refine I.tupsLaid hk1 (fun p hp=>?_) ndP fun p hp=>?_
  ·obtain ⟨a,ha,rfl⟩:=zM.mp hp
   exact yy (hG.above _ (each a ha).1)
  ·obtain ⟨a,ha,rfl⟩:=zM.mp hp
   obtain ⟨_,i,j,t,t',e1,e2⟩:=each a ha
   refine ⟨by rw [e1];show 2<=_;omega,[.int i t,.int j t'],?_,?_⟩
   ·rw [e1];exact .cons ⟨t,rfl⟩ (.cons ⟨t',rfl⟩ .nil)
   ·exact ⟨_,e2,rfl,_,rfl⟩
 have fr:∀ p ∈ ps,H p.1=none:=fun p hp=>I.hok.fresh (yy (hG.above _ (each p hp).1))
 have sm:Same H (addT H (ps.map fun a=>(a.1,a.2.map V.int))):=addT_same fun p hp=>by
  obtain ⟨a,ha,rfl⟩:=zM.mp hp
  exact fr a ha
 rw [efst]
 refine wpAny_bind (wpAny_newList ?_ (by rw [zA];omega))
 have I2:=I1.lnew (t':=tk) (vals_of_refs ps) (by rw [zA];omega)
 have nB:=I1.fresh
 refine wpAny_bind (wpAny_holding (wpAny_mono (lsortT (Z:=fun s'=>EP X pins σ Q (.ref h1.objs.size) s') I2 xH (by omega) (fun a ha=>?_) fun qs s' pm pw I3=>?_) (fun _ s' z=>wpAny_pure ⟨_,rfl,z⟩) fun _ _ e=>e))
 ·obtain ⟨_,i,j,t,t',e1,e2⟩:=each a ha
  refine ⟨?_,by rw [e1];simp⟩
  have:=addT_at (H:=H) ndP (a.1,a.2.map V.int) (zM.mpr ⟨a,ha,rfl⟩)
  rw [xN (xJ this nB)];exact this
 ·rw [upd_upd] at I3
  refine ⟨.ref h1.objs.size,_,I3,rfl,q _ qs _ ?_ ?_ ?_ xH ?_ ?_ pw⟩
  ·intro b u e
   have:=sm b u e
   rw [xN (xJ this nB)];exact this
  ·cases e:H h1.objs.size with
   | none=>rfl
   | some u=>have:=sm _ u e;rw [nB] at this;cases this
  ·exact fun a ha=>fr a (pm.mem_iff.mp ha)
  ·intro a ha
   have:=addT_at (H:=H) ndP (a.1,a.2.map V.int) (zM.mpr ⟨a,pm.mem_iff.mp ha,rfl⟩)
   rw [xN (xJ this nB)];exact this
  ·rw [<-snd];exact pm.map _
end
end L2
set_option Elab.async false
set_option linter.all false
set_option maxRecDepth 100000
set_option maxHeartbeats 400000
namespace L2
open PySem PySem.Spec PyProof.Rows
theorem op_inD {X:Cx} (hu:X.A.units + 64 < cLine):OpR X (compareOp .In) (fun x y H Q=>∃ a o,y=.ref a/\DGet H a x o/\Q (.bl o.isSome) H):=by
 intro pins s σ H x y v u Q I rx ry h
 obtain ⟨a,o,rfl,g,q⟩:=h
 cases ry
 exact d_in (by omega) I g rx fun s' I'=>⟨.bl _,H,I',rfl,q⟩
theorem op_notInD {X:Cx} (hu:X.A.units + 64 < cLine):OpR X (compareOp .NotIn) (fun x y H Q=>∃ a o,y=.ref a/\DGet H a x o/\Q (.bl (!o.isSome)) H):=by
 intro pins s σ H x y v u Q I rx ry h
 obtain ⟨a,o,rfl,g,q⟩:=h
 cases ry
 exact d_notIn (by omega) I g rx fun s' I'=>⟨.bl _,H,I',rfl,q⟩
end L2
namespace Sm
open PySem L2 SmSort
def letRow (x:L4):List V:=[.int (x.s:Int),.int x.a,.int (x.w:Int),.int x.z]
def kvV (kv:List (Int × Int)):List (Key × V):=kv.map fun p=>(Sum.inl p.1,V.int p.2)
structure TripAt (C:Addr) (H:Hp) (x b dx lL lH lA lP lD:Addr) (ls:List (Addr × L4)) (hs:List (Addr × List (Int × Int))) (os:List (Option Int)) (ns:List Int) (r:Int) (ds:List V):Prop where
 ins:H x=some (.ins C dx [("book", .ref b),("letters", .ref lL),("holders", .ref lH),("arrivals", .ref lA),("passed", .ref lP),("reached", .int r),("deeds", .ref lD)])
 lts:H lL=some (.lst (ls.map fun l=>V.ref l.1))
 rows:∀ l ∈ ls,H l.1=some (.tup (letRow l.2))
 hol:H lH=some (.lst (hs.map fun h=>V.ref h.1))
 hols:∀ h ∈ hs,H h.1=some (.dK (kvV h.2))
 arr:H lA=some (.lst (os.map oV))
 pas:H lP=some (.lst (ns.map V.int))
 dee:H lD=some (.lst ds)
theorem TripAt.same {C:Addr}{H H':Hp}{x b dx lL lH lA lP lD:Addr}{ls:List (Addr × L4)}{hs:List (Addr × List (Int × Int))}{os:List (Option Int)}{ns:List Int}{r:Int}{ds:List V} (t:TripAt C H x b dx lL lH lA lP lD ls hs os ns r ds) (s:Same H H') :
  TripAt C H' x b dx lL lH lA lP lD ls hs os ns r ds:=⟨s _ _ t.ins,s _ _ t.lts,fun l hl=>s _ _ (t.rows l hl),s _ _ t.hol,fun h hh=>s _ _ (t.hols h hh),s _ _ t.arr,s _ _ t.pas,s _ _ t.dee⟩
def begA (x:L4):Option Int:=if x.s=x.w/\x.a<=x.z then some x.a else none
def spTakes (C:Addr):Sp:=fun vs H Q _=>∃ x b dx lL lH lA lP lD ls hs os ns r ds,∃ n:Nat,∃ w:Int,∃ l,vs=[.ref x,.int (n:Int),.int w]/\TripAt C H x b dx lL lH lA lP lD ls hs os ns r ds/\ls[n]?=some l /\
 ∀ H',Same H H'->Q (.bl (!(decide (w=l.2.s) || decide (w=l.2.w)))) H'
def noteA (os:List (Option Int)) (n:Nat) (l:L4) (w t:Int):List (Option Int):=if w=l.w/\t<=l.z/\os[n]?=some none then os.set n (some t) else os
def spNote (C:Addr):Sp:=fun vs H Q _=>∃ x b dx lL lH lA lP lD ls hs os ns r ds,∃ n:Nat,∃ w t:Int,∃ l,vs=[.ref x,.int (n:Int),.int w,.int t]/\TripAt C H x b dx lL lH lA lP lD ls hs os ns r ds/\ls[n]?=some l/\n < os.length /\
 ∀ H',But lA H H'->H' lA=some (.lst ((noteA os n l.2 w t).map oV))->Q .non H'
def spHaving (C:Addr):Sp:=fun vs H Q _=>∃ x b dx lL lH lA lP lD ls hs os ns r ds,∃ n:Nat,∃ h,vs=[.ref x,.int (n:Int)]/\TripAt C H x b dx lL lH lA lP lD ls hs os ns r ds/\hs[n]?=some h/\h.2.length < 64 /\
 ∀ l (qs:List (Addr × List Int)) H',Same H H'->H l=none->(∀ a ∈ qs,H a.1=none)->H' l=some (.lst (qs.map fun a=>V.ref a.1))->(∀ a ∈ qs,H' a.1=some (.tup (a.2.map V.int)))->(qs.map (·.2)).Perm (h.2.map fun p=>[p.1,p.2])->qs.Pairwise (fun a b=>lx b.2 a.2=false)->Q (.ref l) H'
def spDone (C:Addr):Sp:=fun vs H Q _=>∃ x b dx lL lH lA lP lD ls hs os ns r ds,vs=[.ref x]/\TripAt C H x b dx lL lH lA lP lD ls hs os ns r ds/\∀ l,H l=none->Q (.ref l) (upd H l (.lst ds))
def inBag (w:Int) (l:Option (Addr × L4)) (h:Option (Addr × List (Int × Int))):Bool:=match l,h with
 | some l,some h=>(h.2.any fun p=>decide (p.1=w)) && !(decide (w=l.2.s) || decide (w=l.2.w))
 | _,_=>false
def bagTo (w:Int) (ls:List (Addr × L4)) (hs:List (Addr × List (Int × Int))):Nat->List Int
 | 0=>[]
 | i + 1=>bagTo w ls hs i ++ (if inBag w ls[i]? hs[i]? then [(i:Int)] else [])
theorem bagTo_len (w:Int) (ls:List (Addr × L4)) (hs:List (Addr × List (Int × Int))):∀ i,(bagTo w ls hs i).length<=i
 | 0=>zJ _
 | i + 1=>by
  have:=bagTo_len w ls hs i
  unfold bagTo
  rw [zT]
  split <;> simp <;> omega
def spBag (C:Addr):Sp:=fun vs H Q _=>∃ x b dx lL lH lA lP lD ls hs os ns r ds,∃ w:Int,vs=[.ref x,.int w]/\TripAt C H x b dx lL lH lA lP lD ls hs os ns r ds/\hs.length<=41/\hs.length=ls.length /\
 ∀ l H',Same H H'->H l=none->H' l=some (.lst ((bagTo w ls hs hs.length).map V.int))->Q (.ref l) H'
theorem valV_any {kv:List (Int × Int)}{w:Int}:(valV (kvV kv) (Sum.inl w)).isSome=kv.any fun p=>decide (p.1=w):=by
 unfold valV kvV
 rw [yo,yI,List.find?_isSome,List.any_eq_true]
 constructor
 ·rintro ⟨p,hp,e⟩
  obtain ⟨q,hq,rfl⟩:=zM.mp hp
  have e1:=of_decide_eq_true e
  exact ⟨q,hq,decide_eq_true (Sum.inl.inj e1)⟩
 ·rintro ⟨q,hq,e⟩
  exact ⟨_,zM.mpr ⟨q,hq,rfl⟩,decide_eq_true (congrArg Sum.inl (of_decide_eq_true e))⟩
theorem same_put {H H':Hp}{l:Addr}{o:HO} (s:Same H H') (h:H l=none):Same H (upd H' l o):=fun b u e=>by
 rw [xN (xJ e h)];exact s b u e
theorem Same.but {H H':Hp}{x:Addr} (s:Same H H'):But x H H':=fun b u _ e=>s b u e
def osTo (ls:List (Addr × L4)) (i:Nat):List (Option Int):=((ls.take i).map fun l=>begA l.2) ++ List.replicate (ls.length - i) none
theorem osTo_0 (ls:List (Addr × L4)):osTo ls 0=List.replicate ls.length none:=by simp [osTo]
theorem osTo_all (ls:List (Addr × L4)):osTo ls ls.length=ls.map fun l=>begA l.2:=by simp [osTo]
theorem osTo_len {ls:List (Addr × L4)}{i:Nat} (h:i<=ls.length):(osTo ls i).length=ls.length:=by simp [osTo];omega
theorem osTo_step {ls:List (Addr × L4)}{i:Nat}{l:Addr × L4} (h:ls[i]?=some l):noteA (osTo ls i) i l.2 (l.2.s:Int) l.2.a=osTo ls (i + 1):=by
 have hi:i < ls.length:=(zB.mp h).1
 have lt:((ls.take i).map fun l=>begA l.2).length=i:=by simp;omega
 obtain ⟨k,ek⟩:∃ k,ls.length - i=k + 1:=⟨ls.length - i - 1,by omega⟩
 have e1:ls.length - (i + 1)=k:=by omega
 have at1:(osTo ls i)[i]?=some none:=by
  unfold osTo
  rw [z6 (by omega),lt,ek,Nat.sub_self]
  rfl
 have e2:osTo ls (i + 1)=((ls.take i).map fun l=>begA l.2) ++ begA l.2 :: List.replicate k none:=by
  unfold osTo
  rw [wI h,zN,e1,List.append_assoc]
  rfl
 have e3:osTo ls i=((ls.take i).map fun l=>begA l.2) ++ none :: List.replicate k none:=by
  unfold osTo
  rw [ek,yV]
 rw [e2]
 unfold noteA
 rw [at1]
 by_cases c:l.2.s=l.2.w/\l.2.a<=l.2.z
 ·rw [if_pos ⟨by rw [c.1],c.2,rfl⟩,e3,List.set_append_right _ _ (by omega),lt,Nat.sub_self]
  have:begA l.2=some l.2.a:=by unfold begA;rw [if_pos c]
  rw [this]
  rfl
 ·rw [if_neg (fun z=>c ⟨by have:=z.1;omega,z.2.1⟩),e3]
  have:begA l.2=none:=by unfold begA;rw [if_neg c]
  rw [this]
end Sm
set_option Elab.async false
set_option linter.all false
set_option maxRecDepth 100000
set_option maxHeartbeats 400000
namespace L2
open PySem PySem.Spec PyProof.Rows
section
variable {X:Cx}{k:Nat}{f C:Addr}{fd:FuncData}{ps:List Str}{sp:Sp}{dvs:List V}{ds:List Value}{m:Str}{apos pos:Pos}{e o:Expr}{es:List Expr}{ta:TE}{t:TA}
theorem methX {pins:List (Addr × Obj)}{σ:St}{H:Hp}{s:Shared}{Q:VK}{Eh:XK}{Z:Value->Shared->Prop}{pl:Sem Bool} (he:PE X.nox o ta) (c:Cls X.K C) (hm:Meth X.K C m f) (F:FnOk X.prog X.w X.K X.mg X.base (CXE X.prog X.w) k f fd ps sp) (hr:Room k X.A) (hb:Binds X.K fd ps ds) (hd:Vals dvs ds) (ha:PA X.nox (e :: es) t)
  (I:Inv X pins σ H s) (h:tMeth C m sp dvs Eh ta t σ H Q) (hx:∀ H1 s1 e s',Inv X pins σ H1 s1->CXE X.prog X.w X.stack H1 s1 Eh e s'->Z e s')
  (hst:starEach (e :: es) X.env=(false,eval e X.env) :: starEach es X.env) (hpl:(backTo pos (starEach es X.env)).any (·.1)=false)
  (ht:eval (.Call (.Attribute o m apos) (e :: es) [] pos) X.env=(do
   let ov <- eval o X.env
   standAt apos.atName
   let (f,first) <- holding [ov] (getMethod ov m pl)
   callWith pos f first (backTo pos (starEach (e :: es) X.env)) (backToKw pos (keywordEach [] X.env)))) :
  wpAny (model X.prog X.w) X.A (eval (.Call (.Attribute o m apos) (e :: es) [] pos) X.env) (EP X pins σ Q) Z s:=by
 refine PySem.W.methodCall_KW (pl:=pl) (wpAny_mono (he pins s σ H _ (I.wish _) h) (fun u s1 ⟨x,H1,I1,rx,a,dx,fs,ex,ea,l,q⟩=>?_) fun _ _ z=>z.elim) ht
 subst ex
 obtain rfl:u=Value.ref a:=rx
 have J1:=I1.unwish
 refine getmeth_ok J1 ea c hm l ?_
 refine PySem.W.callWith_K (first:=[.ref a]) (h₀:=X.base) I.ok.mod.kin hm.kp (wpAny_mono (ha pos pins s1 σ H1 _ I1 q) (fun us s2 ⟨vs,H2,I2,r,q2⟩=>⟨I2.unwish.kIn,?_⟩) fun _ _ z=>z.elim) hst hpl
 exact run_fnX (us:=.ref a :: us) (vs:=.ref a :: vs) F hr hb hd (fun e s' z=>hx H2 s2 e s' I2.unwish z) I2.unwish (.cons rfl r) q2
theorem psx_meth {pl:Sem Bool}{pos':Pos} (he:PE X.nox o ta) (c:Cls X.K C) (hm:Meth X.K C m f) (F:FnOk X.prog X.w X.K X.mg X.base (CXE X.prog X.w) k f fd ps sp) (hr:Room k X.A) (hb:Binds X.K fd ps ds) (hd:Vals dvs ds) (ha:PA X.nox (e :: es) t)
  (hst:starEach (e :: es) X.env=(false,eval e X.env) :: starEach es X.env:=by rfl) (hpl:(backTo pos (starEach es X.env)).any (·.1)=false:=by rfl)
  (ht:eval (.Call (.Attribute o m apos) (e :: es) [] pos) X.env=(do
   let ov <- eval o X.env
   standAt apos.atName
   let (f,first) <- holding [ov] (getMethod ov m pl)
   callWith pos f first (backTo pos (starEach (e :: es) X.env)) (backToKw pos (keywordEach [] X.env))):=by rfl)
  (hs:swapsWith (.Call (.Attribute o m apos) (e :: es) [] pos) none pos'.line X.env=pure false:=by rfl) :
  PSx X [.Expr (.Call (.Attribute o m apos) (e :: es) [] pos) pos'] (fun Eh=>tDrop (tMeth C m sp dvs Eh ta t)):=by
 intro pins s σ H D Eh Z I h hx
 refine wpAny_execs_cons (wpAny_Expr_any (thn (methX he c hm F hr hb hd ha I h hx hst hpl ht) fun v s1 ⟨y,H1,I1,r1,q1⟩=>?_) I.quiet hs)
 exact wpAny_execs_nil ⟨σ,H1,I1,q1⟩
end
end L2
set_option Elab.async false
set_option linter.all false
set_option maxRecDepth 100000
set_option maxHeartbeats 400000
namespace L2
open PySem PySem.Spec PyProof.Rows
theorem mt_dget {X:Cx} (hu:X.A.units + 64 < cLine):MtR X "dict.get" (fun x xs H Q=>∃ a y o,x=.ref a/\xs=[y]/\DGet H a y o/\Q (o.getD .non) H):=by
 intro pins s σ H x xs v us Q I rx rs h
 obtain ⟨a,y,o,rfl,rfl,g,q⟩:=h
 cases rx
 obtain ⟨u,rfl,ru⟩:=vals1 rs
 exact d_get1 (by omega) I g ru fun w' s' I' r'=>⟨_,H,I',r',q⟩
end L2
set_option Elab.async false
set_option linter.all false
set_option maxRecDepth 100000
set_option maxHeartbeats 400000
namespace Sm
open PySem L2 SmSort
structure Tr where
 x:Addr
 b:Addr
 dx:Addr
 lL:Addr
 lH:Addr
 lA:Addr
 lP:Addr
 lD:Addr
 ls:List (Addr × L4)
 hs:List (Addr × List (Int × Int))
 os:List (Option Int)
 ns:List Int
 r:Int
 ds:List V
structure TrOk (C:Addr) (H:Hp) (t:Tr) (rooms:List Int) (tr tm:Addr) (ps:List (Addr × M4)) (n0:Nat):Prop where
 at_:TripAt C H t.x t.b t.dx t.lL t.lH t.lA t.lP t.lD t.ls t.hs t.os t.ns t.r t.ds
 bk:BookAt H t.b rooms tr tm ps
 gd:Good rooms.length (ps.map (·.2))
 rm:rooms.length<=12
 lh:t.hs.length=t.ls.length
 lo:t.os.length=t.ls.length
 ln:t.ns.length=ps.length
 few:t.ls.length<=41
 sh:∀ h ∈ t.hs,h.2.length<=n0
 dn:t.ds.length<=n0
 nd:t.lL ≠ t.lA/\t.lL ≠ t.lP/\t.lL ≠ t.lD/\t.lH ≠ t.lA/\t.lH ≠ t.lP/\t.lH ≠ t.lD/\t.lA ≠ t.lP/\t.lA ≠ t.lD/\t.lP ≠ t.lD
 hnd:(t.hs.map (·.1)).Nodup
def Tr.own (t:Tr) (c:Addr):Prop:=c=t.x\/c=t.lA\/c=t.lP\/c=t.lD\/c ∈ t.hs.map (·.1)
def Keeps (t:Tr) (H H':Hp):Prop:=∀ c u,¬ t.own c->H c=some u->H' c=some u
theorem Keeps.same {t:Tr}{H H':Hp} (s:Same H H'):Keeps t H H':=fun c u _ e=>s c u e
theorem Keeps.trans {t:Tr} {H H1 H2:Hp} (a:Keeps t H H1) (b:Keeps t H1 H2):Keeps t H H2:=fun c u n e=>b c u n (a c u n e)
theorem TrOk.same {C:Addr}{H H':Hp}{t:Tr}{rooms:List Int}{tr tm:Addr}{ps:List (Addr × M4)} {n0:Nat} (k:TrOk C H t rooms tr tm ps n0) (s:Same H H'):TrOk C H' t rooms tr tm ps n0:=
 ⟨k.at_.same s,k.bk.same s,k.gd,k.rm,k.lh,k.lo,k.ln,k.few,k.sh,k.dn,k.nd,k.hnd⟩
theorem TrOk.keep {C:Addr}{H H':Hp}{t:Tr}{rooms:List Int}{tr tm:Addr}{ps:List (Addr × M4)} {n0:Nat} (k:TrOk C H t rooms tr tm ps n0) (kp:∀ c u,(t.own c\/c=t.lL\/c=t.lH\/∃ xs,H c=some (.tup xs))->H c=some u->H' c=some u):TrOk C H' t rooms tr tm ps n0:=by
 have tu:Tups H H':=fun c xs e=>kp c _ (.inr (.inr (.inr ⟨xs,e⟩))) e
 refine ⟨⟨kp _ _ (.inl (.inl rfl)) k.at_.ins,kp _ _ (.inr (.inl rfl)) k.at_.lts,fun l hl=>tu _ _ (k.at_.rows l hl),kp _ _ (.inr (.inr (.inl rfl))) k.at_.hol,fun h hh=>kp _ _ (.inl (.inr (.inr (.inr (.inr (zM.mpr ⟨h,hh,rfl⟩)))))) (k.at_.hols h hh),kp _ _ (.inl (.inr (.inl rfl))) k.at_.arr,kp _ _ (.inl (.inr (.inr (.inl rfl)))) k.at_.pas,kp _ _ (.inl (.inr (.inr (.inr (.inl rfl))))) k.at_.dee⟩,k.bk.tups tu,k.gd,k.rm,k.lh,k.lo,k.ln,k.few,k.sh,k.dn,k.nd,k.hnd⟩
def kvget (kv:List (Int × Int)) (w:Int):Option Int:=(kv.find? fun p=>decide (p.1=w)).map (·.2)
def kvput (kv:List (Int × Int)) (w t:Int):List (Int × Int):=if (kv.any fun p=>decide (p.1=w))=true then kv.map (fun p=>if p.1=w then (p.1,t) else p) else kv ++ [(w,t)]
def kvdel (kv:List (Int × Int)) (w:Int):List (Int × Int):=kv.filter fun p=>decide (p.1 ≠ w)
theorem valV_kv {w:Int}:∀ {kv:List (Int × Int)},valV (kvV kv) (Sum.inl w)=(kvget kv w).map V.int
 | []=>rfl
 | p :: kv=>by
  have ih:=valV_kv (w:=w) (kv:=kv)
  by_cases c:p.1=w
  ·rw [show kvV (p :: kv)=(Sum.inl p.1,V.int p.2) :: kvV kv from rfl,wA (congrArg Sum.inl c)]
   simp [kvget,c]
  ·rw [show kvV (p :: kv)=(Sum.inl p.1,V.int p.2) :: kvV kv from rfl,wB (fun z=>c (Sum.inl.inj z)),ih]
   simp [kvget,c]
theorem kv_any {kv:List (Int × Int)}{w:Int}:(kv.any fun p=>decide (p.1=w))=(kvget kv w).isSome:=by
 rw [<-valV_any,valV_kv,yI]
theorem putK_kv {kv:List (Int × Int)}{w t:Int}:putK (kvV kv) (Sum.inl w) (.int t)=kvV (kvput kv w t):=by
 have e:((kvV kv).any fun p=>decide (p.1=(Sum.inl w:Key)))=kv.any fun p=>decide (p.1=w):=by
  unfold kvV
  rw [List.any_map]
  congr 1
  funext p
  exact decide_eq_decide.mpr ⟨Sum.inl.inj,congrArg Sum.inl⟩
 unfold putK kvput
 rw [e]
 split
 ·unfold kvV
  rw [zX,zX]
  refine yF fun p _=>?_
  by_cases c:p.1=w
  ·simp [c]
  ·simp [c]
 ·unfold kvV
  rw [zN];rfl
theorem dropK_kv {kv:List (Int × Int)}{w:Int}:dropK (kvV kv) (Sum.inl w)=kvV (kvdel kv w):=by
 unfold dropK kvV kvdel
 rw [List.filter_map]
 congr 1
 refine List.filter_congr fun p _=>?_
 exact decide_eq_decide.mpr ⟨fun h z=>h (congrArg Sum.inl z),fun h z=>h (Sum.inl.inj z)⟩
theorem kvput_len (kv:List (Int × Int)) (w t:Int):(kvput kv w t).length<=kv.length + 1:=by
 unfold kvput
 split
 ·rw [zA];omega
 ·rw [zT];exact zJ _
theorem kvdel_len (kv:List (Int × Int)) (w:Int):(kvdel kv w).length<=kv.length:=List.length_filter_le _ _
structure XC where
 deed:Addr
 meet:Addr
 lett:Addr
 walk:Addr
 there:Addr
 has:Addr
 pass:Addr
 room:Addr
def XC.of (X:XC):Nat->Addr
 | 0=>X.deed
 | 1=>X.meet
 | 2=>X.lett
 | 3=>X.walk
 | 4=>X.there
 | 5=>X.has
 | 6=>X.pass
 | _=>X.room
def takB (L:L4) (o:Int):Bool:=!(decide (o=L.s) || decide (o=L.w))
def othI (M:M4) (g:Int):Int:=if g=M.lo then M.hi else M.lo
def codeP2 (rooms:List Int) (M:M4) (L:L4) (kv:List (Int × Int)) (n:Int) (bag:Nat) (g:Int):Nat:=
 if g=M.lo\/g=M.hi then
  if below (kvget kv g) M.t=true then
   if (kvget kv (othI M g)).isSome=true then 5
   else if M.m<=n then 6
   else if (takB L (othI M g) && decide ((rooms[(othI M g).toNat]?.getD 0)<=(bag:Int)))=true then 7
   else 8
  else 4
 else 3
def codeP (rooms:List Int) (ms:List M4) (t:Tr) (m l g:Int):Nat:=
 if 0<=m/\m < ms.length/\t.r<=m then
  if 0<=l/\l < t.ls.length then
   match ms[m.toNat]?,t.ls[l.toNat]?,t.hs[l.toNat]? with
   | some M,some L,some h=>codeP2 rooms M L.2 h.2 (t.ns[m.toNat]?.getD 0) (bagTo (othI M g) t.ls t.hs t.hs.length).length g
   | _,_,_=>2
  else 2
 else 1
def codeD (rooms:List Int) (t:Tr) (l w:Int):Nat:=
 if 0<=l/\l < t.ls.length then
  if 0<=w/\w < rooms.length then
   match t.hs[l.toNat]? with
   | some h=>if (kvget h.2 w).isSome=true then 8 else 4
   | none=>4
  else 3
 else 2
inductive Dd where
 | pass (give:Bool) (m l g:Int)
 | drop (l w:Int)
def wordG:Bool->Str
 | true=>Str.ofString "give"
 | false=>Str.ofString "copy"
def Dd.vs:Dd->List V
 | .pass gv m l g=>[.str (wordG gv),.int m,.int l,.int g]
 | .drop l w=>[.str (Str.ofString "drop"),.int l,.int w]
def codeT (rooms:List Int) (ms:List M4) (t:Tr):Dd->Nat
 | .pass _ m l g=>codeP rooms ms t m l g
 | .drop l w=>codeD rooms t l w
def Tr.setH (t:Tr) (l:Nat) (kv:List (Int × Int)):Tr:={ t with hs:=match t.hs[l]? with | some h=>t.hs.set l (h.1,kv) | none=>t.hs }
def Tr.kv (t:Tr) (l:Nat):List (Int × Int):=match t.hs[l]? with | some h=>h.2 | none=>[]
def Tr.passed (t:Tr) (m l:Nat) (M:M4) (L:L4) (o:Int):Tr:=
 { t.setH l (kvput (t.kv l) o M.t) with ns:=t.ns.set m (t.ns[m]?.getD 0 + 1),r:=m,os:=noteA t.os l L o M.t }
def Tr.doneP (t:Tr) (give:Bool) (m l:Nat) (g:Int) (M:M4) (L:L4):Tr:=
 if give=true then (t.passed m l M L (othI M g)).setH l (kvdel ((t.passed m l M L (othI M g)).kv l) g) else t.passed m l M L (othI M g)
def Tr.doneT (t:Tr) (ms:List M4) (y:V) (d:Dd):Tr:={ (match d with
 | .pass give m l g=>(match ms[m.toNat]?,t.ls[l.toNat]? with | some M,some L=>t.doneP give m.toNat l.toNat g M L.2 | _,_=>t)
 | .drop l w=>t.setH l.toNat (kvdel (t.kv l.toNat) w)) with ds:=t.ds ++ [y] }
def DeedAt (H:Hp) (y:V) (d:Dd):Prop:=∃ a,y=.ref a/\H a=some (.tup d.vs)
section
variable {C:Addr}{H H':Hp}{t:Tr}{rooms:List Int}{tr tm:Addr}{ps:List (Addr × M4)} {n0:Nat}
theorem TrOk.kvAt (k:TrOk C H t rooms tr tm ps n0) {l:Nat} (hl:l < t.ls.length):∃ h,t.hs[l]?=some h/\t.kv l=h.2/\H h.1=some (.dK (kvV h.2)):=by
 have hh:t.hs[l]?=some (t.hs[l]'(by rw [k.lh];exact hl)):=zE _
 refine ⟨_,hh,?_,k.at_.hols _ (zh _)⟩
 unfold Tr.kv;rw [hh]
theorem TrOk.hset (k:TrOk C H t rooms tr tm ps n0) {l:Nat}{h:Addr × List (Int × Int)} (hh:t.hs[l]?=some h) {kv:List (Int × Int)} (lk:kv.length<=n0):TrOk C (upd H h.1 (.dK (kvV kv))) (t.setH l kv) rooms tr tm ps n0:=by
 have hl:l < t.hs.length:=(zB.mp hh).1
 have eh:t.hs[l]=h:=(zB.mp hh).2
 have hm:=zD hh
 have hd:=k.at_.hols h hm
 have e:(t.setH l kv)={ t with hs:=t.hs.set l (h.1,kv) }:=by unfold Tr.setH;rw [hh]
 rw [e]
 have em:(t.hs.set l (h.1,kv)).map (·.1)=t.hs.map (·.1):=by
  rw [zw]
  refine List.ext_getElem (by simp) fun i h1 h2=>?_
  rw [List.getElem_set]
  split
  ·rename_i z;subst z;simp [eh]
  ·rfl
 have nL:∀ {c:Addr}{o:HO},H c=some o->(∀ z,o ≠ .dK z)->upd H h.1 (.dK (kvV kv)) c=some o:=fun {c o} e n=>by rw [xN (wK e hd (by intro z;exact n _ z))];exact e
 have tu:Tups H (upd H h.1 (.dK (kvV kv))):=Tups.setD hd
 refine ⟨⟨nL k.at_.ins (by intro _ z;cases z),nL k.at_.lts (by intro _ z;cases z),fun l hl=>tu _ _ (k.at_.rows l hl),?_,fun g hg=>?_,nL k.at_.arr (by intro _ z;cases z),nL k.at_.pas (by intro _ z;cases z),nL k.at_.dee (by intro _ z;cases z)⟩,k.bk.tups tu,k.gd,k.rm,by rw [z8];exact k.lh,k.lo,k.ln,k.few,fun g hg=>?_,k.dn,k.nd,by rw [em];exact k.hnd⟩
 ·have:=nL k.at_.hol (by intro _ z;cases z)
  rw [this]
  congr 2
  have:=congrArg (List.map V.ref) em
  rw [zX,zX] at this
  exact this.symm
 ·obtain ⟨j,hj⟩:=List.mem_iff_getElem?.mp hg
  rw [zZ] at hj
  by_cases c:l=j
  ·subst c
   rw [if_pos rfl,if_pos hl] at hj
   cases hj
   exact xH
  ·rw [if_neg c] at hj
   have hj':j < t.hs.length:=(zB.mp hj).1
   have eg:t.hs[j]=g:=(zB.mp hj).2
   have ne:g.1 ≠ h.1:=fun z=>by
    have:=yD.mp k.hnd
    have l1:l < (t.hs.map (·.1)).length:=by rw [zA];exact hl
    have l2:j < (t.hs.map (·.1)).length:=by rw [zA];exact hj'
    rcases Nat.lt_or_gt_of_ne c with cc | cc
    ·exact this l j l1 l2 cc (by rw [yC,yC,eh,eg];exact z.symm)
    ·exact this j l l2 l1 cc (by rw [yC,yC,eh,eg];exact z)
   rw [xN ne]
   exact k.at_.hols g (zD hj)
 ·rcases List.mem_or_eq_of_mem_set hg with h1 | h1
  ·exact k.sh g h1
  ·rw [h1];exact lk
theorem TrOk.hkeep (k:TrOk C H t rooms tr tm ps n0) {l:Nat}{h:Addr × List (Int × Int)} (hh:t.hs[l]?=some h) {o:HO}:Keeps t H (upd H h.1 o):=fun c u n e=>by
 rw [xN fun z=>n (.inr (.inr (.inr (.inr (by rw [z];exact zM.mpr ⟨h,zD hh,rfl⟩)))))];exact e
theorem TrOk.pset (k:TrOk C H t rooms tr tm ps n0) {ns:List Int} (ln:ns.length=ps.length):TrOk C (upd H t.lP (.lst (ns.map V.int))) { t with ns:=ns } rooms tr tm ps n0:=by
 obtain ⟨n1,n2,n3,n4,n5,n6,n7,n8,n9⟩:=k.nd
 have tu:Tups H (upd H t.lP (.lst (ns.map V.int))):=Tups.set k.at_.pas
 have nL:∀ {c:Addr}{o:HO},H c=some o->(∀ z,o ≠ .lst z)->upd H t.lP (.lst (ns.map V.int)) c=some o:=fun {c o} e n=>by rw [xN (wK e k.at_.pas (by intro z;exact n _ z))];exact e
 exact ⟨⟨nL k.at_.ins (by intro _ z;cases z),by rw [xN n2];exact k.at_.lts,fun l hl=>tu _ _ (k.at_.rows l hl),by rw [xN n5];exact k.at_.hol,fun h hh=>nL (k.at_.hols h hh) (by intro _ z;cases z),by rw [xN n7];exact k.at_.arr,xH,by rw [xN n9.symm];exact k.at_.dee⟩,k.bk.tups tu,k.gd,k.rm,k.lh,k.lo,ln,k.few,k.sh,k.dn,k.nd,k.hnd⟩
theorem TrOk.dset (k:TrOk C H t rooms tr tm ps n0) {y:V} (dn:t.ds.length < n0):TrOk C (upd H t.lD (.lst (t.ds ++ [y]))) { t with ds:=t.ds ++ [y] } rooms tr tm ps n0:=by
 obtain ⟨n1,n2,n3,n4,n5,n6,n7,n8,n9⟩:=k.nd
 have tu:Tups H (upd H t.lD (.lst (t.ds ++ [y]))):=Tups.set k.at_.dee
 have nL:∀ {c:Addr}{o:HO},H c=some o->(∀ z,o ≠ .lst z)->upd H t.lD (.lst (t.ds ++ [y])) c=some o:=fun {c o} e n=>by rw [xN (wK e k.at_.dee (by intro z;exact n _ z))];exact e
 exact ⟨⟨nL k.at_.ins (by intro _ z;cases z),by rw [xN n3];exact k.at_.lts,fun l hl=>tu _ _ (k.at_.rows l hl),by rw [xN n6];exact k.at_.hol,fun h hh=>nL (k.at_.hols h hh) (by intro _ z;cases z),by rw [xN n8];exact k.at_.arr,by rw [xN n9];exact k.at_.pas,xH⟩,k.bk.tups tu,k.gd,k.rm,k.lh,k.lo,k.ln,k.few,k.sh,by show (t.ds ++ [y]).length<=n0;rw [zT];exact dn,k.nd,k.hnd⟩
theorem TrOk.aset (k:TrOk C H t rooms tr tm ps n0) {os:List (Option Int)} (lo:os.length=t.ls.length) (b:But t.lA H H') (h:H' t.lA=some (.lst (os.map oV))):TrOk C H' { t with os:=os } rooms tr tm ps n0:=by
 obtain ⟨n1,n2,n3,n4,n5,n6,n7,n8,n9⟩:=k.nd
 have nL:∀ {c:Addr}{o:HO},H c=some o->(∀ z,o ≠ .lst z)->H' c=some o:=fun {c o} e n=>b _ _ (wK e k.at_.arr (by intro z;exact n _ z)) e
 have tu:Tups H H':=fun c xs e=>nL e (by intro _ z;cases z)
 exact ⟨⟨nL k.at_.ins (by intro _ z;cases z),b _ _ n1 k.at_.lts,fun l hl=>tu _ _ (k.at_.rows l hl),b _ _ n4 k.at_.hol,fun h hh=>nL (k.at_.hols h hh) (by intro _ z;cases z),h,b _ _ n7.symm k.at_.pas,b _ _ n8.symm k.at_.dee⟩,k.bk.tups tu,k.gd,k.rm,k.lh,lo,k.ln,k.few,k.sh,k.dn,k.nd,k.hnd⟩
theorem TrOk.rset (k:TrOk C H t rooms tr tm ps n0) {r:Int}:TrOk C (upd H t.x (.ins C t.dx [("book", .ref t.b),("letters", .ref t.lL),("holders", .ref t.lH),("arrivals", .ref t.lA),("passed", .ref t.lP),("reached", .int r),("deeds", .ref t.lD)])) { t with r:=r } rooms tr tm ps n0:=by
 have nL:∀ {c:Addr}{o:HO},H c=some o->(∀ a b z,o ≠ .ins a b z)->upd H t.x (.ins C t.dx [("book", .ref t.b),("letters", .ref t.lL),("holders", .ref t.lH),("arrivals", .ref t.lA),("passed", .ref t.lP),("reached", .int r),("deeds", .ref t.lD)]) c=some o:=fun {c o} e n=>by rw [xN (wK e k.at_.ins (by intro z;exact n _ _ _ z))];exact e
 have tu:Tups H (upd H t.x (.ins C t.dx [("book", .ref t.b),("letters", .ref t.lL),("holders", .ref t.lH),("arrivals", .ref t.lA),("passed", .ref t.lP),("reached", .int r),("deeds", .ref t.lD)])):=fun c xs e=>nL e (by intro _ _ _ z;cases z)
 exact ⟨⟨xH,nL k.at_.lts (by intro _ _ _ z;cases z),fun l hl=>tu _ _ (k.at_.rows l hl),nL k.at_.hol (by intro _ _ _ z;cases z),fun h hh=>nL (k.at_.hols h hh) (by intro _ _ _ z;cases z),nL k.at_.arr (by intro _ _ _ z;cases z),nL k.at_.pas (by intro _ _ _ z;cases z),nL k.at_.dee (by intro _ _ _ z;cases z)⟩,k.bk.tups tu,k.gd,k.rm,k.lh,k.lo,k.ln,k.few,k.sh,k.dn,k.nd,k.hnd⟩
end
theorem TrOk.mono {C:Addr}{H:Hp}{t:Tr}{rooms:List Int}{tr tm:Addr}{ps:List (Addr × M4)} {n0 n1:Nat} (k:TrOk C H t rooms tr tm ps n0) (l:n0<=n1):TrOk C H t rooms tr tm ps n1:=
 ⟨k.at_,k.bk,k.gd,k.rm,k.lh,k.lo,k.ln,k.few,fun h hh=>zq (k.sh h hh) l,zq k.dn l,k.nd,k.hnd⟩
theorem Keeps.put {t:Tr}{H:Hp}{c:Addr}{o:HO} (h:t.own c):Keeps t H (upd H c o):=fun a u n e=>by
 rw [xN fun z=>n (by rw [z];exact h)];exact e
theorem Keeps.but {t:Tr}{H H':Hp}{c:Addr} (h:t.own c) (b:But c H H'):Keeps t H H':=fun a u n e=>b a u (fun z=>n (by rw [z];exact h)) e
def spNeedL (C:Addr) (X:XC):Sp:=fun vs H Q E=>∃ t l rooms tr tm ps n0,vs=[.ref t.x,.int l]/\TrOk C H t rooms tr tm ps n0/\(0<=l/\l < t.ls.length->Q .non H)/\(¬ (0<=l/\l < t.ls.length)->E (.ref X.lett) none H)
def spNeedD (C:Addr) (X:XC):Sp:=fun vs H Q E=>∃ t l w rooms tr tm ps n0,vs=[.ref t.x,.int l,.int w]/\TrOk C H t rooms tr tm ps n0/\(codeD rooms t l w=8->Q .non H)/\(codeD rooms t l w ≠ 8->E (.ref (X.of (codeD rooms t l w))) none H)
def spNeedP (C:Addr) (X:XC):Sp:=fun vs H Q E=>∃ t m l g rooms tr tm ps n0,vs=[.ref t.x,.int m,.int l,.int g]/\TrOk C H t rooms tr tm ps n0/\(codeP rooms (ps.map (·.2)) t m l g=8->∀ H',Same H H'->Q .non H')/\(codeP rooms (ps.map (·.2)) t m l g ≠ 8->∀ H',Same H H'->E (.ref (X.of (codeP rooms (ps.map (·.2)) t m l g))) none H')
theorem noteA_len {os:List (Option Int)}{n:Nat}{l:L4}{w t:Int}:(noteA os n l w t).length=os.length:=by
 unfold noteA
 split
 ·rw [z8]
 ·rfl
def Dd.isP:Dd->Bool
 | .pass _ _ _ _=>true
 | .drop _ _=>false
def spAreW:Sp:=fun vs H Q _=>∃ a ns,vs=[.ref a]/\H a=some (.tup (List.map V.int ns))/\ns.length<=10/\∀ H',Same H H'->Q (.bl true) H'
def spIsPass:Sp:=fun vs H Q _=>∃ y,vs=[y]/\((∃ d,DeedAt H y d/\∀ H',Same H H'->Q (.bl d.isP) H')\/∃ a xs,y=.ref a/\H a=some (.lst xs)/\Q (.bl false) H)
def spIsDrop:Sp:=fun vs H Q _=>∃ y,vs=[y]/\((∃ l w,DeedAt H y (.drop l w)/\∀ H',Same H H'->Q (.bl true) H')\/∃ a xs,y=.ref a/\H a=some (.lst xs)/\Q (.bl false) H)
theorem codeP_at {rooms:List Int}{ms:List M4}{t:Tr}{m l:Nat}{g n:Int}{M:M4}{L:Addr × L4}{h:Addr × List (Int × Int)} (hr:t.r<=m) (hM:ms[m]?=some M) (hL:t.ls[l]?=some L) (hh:t.hs[l]?=some h) (hn:t.ns[m]?=some n) :
  codeP rooms ms t m l g=codeP2 rooms M L.2 h.2 n (bagTo (othI M g) t.ls t.hs t.hs.length).length g:=by
 have h1:m < ms.length:=(zB.mp hM).1
 have h2:l < t.ls.length:=(zB.mp hL).1
 unfold codeP
 rw [if_pos ⟨by omega,by omega,hr⟩,if_pos ⟨by omega,by omega⟩,zF,zF,hM,hL,hh,hn]
 rfl
theorem codeP8 {rooms:List Int}{ms:List M4}{t:Tr}{m l g:Int} (lh:t.hs.length=t.ls.length) (e:codeP rooms ms t m l g=8):∃ (m' l':Nat) (M:M4) (L:Addr × L4) (h:Addr × List (Int × Int)),m=m'/\l=l'/\ms[m']?=some M/\t.ls[l']?=some L/\t.hs[l']?=some h/\t.r<=m/\(g=M.lo\/g=M.hi)/\below (kvget h.2 g) M.t=true/\(kvget h.2 (othI M g)).isSome=false/\codeP2 rooms M L.2 h.2 (t.ns[m']?.getD 0) (bagTo (othI M g) t.ls t.hs t.hs.length).length g=8:=by
 unfold codeP at e
 split at e
 ·rename_i c1
  split at e
  ·rename_i c2
   obtain ⟨m',rfl⟩:=zO c1.1
   obtain ⟨l',rfl⟩:=zO c2.1
   rw [zF,zF] at e
   have h1:ms[m']?=some (ms[m']'(by omega)):=zE _
   have h2:t.ls[l']?=some (t.ls[l']'(by omega)):=zE _
   have h3:t.hs[l']?=some (t.hs[l']'(by omega)):=zE _
   rw [h1,h2,h3] at e
   refine ⟨m',l',_,_,_,rfl,rfl,h1,h2,h3,c1.2.2,?_⟩
   have e':=e
   dsimp only at e
   unfold codeP2 at e
   split at e
   ·rename_i c3
    split at e
    ·rename_i c4
     split at e
     ·cases e
     ·rename_i c5
      exact ⟨c3,c4,Bool.not_eq_true _ ▸ c5,e'⟩
    ·cases e
   ·cases e
  ·cases e
 ·cases e
theorem othI_in {w:Int}{ms:List M4}{M:M4}{m:Nat}{g:Int} (gd:Good w ms) (hM:ms[m]?=some M):0<=othI M g/\othI M g < w:=by
 obtain ⟨h1,h2,h3,_⟩:=gd.each M (zD hM)
 unfold othI
 split <;> omega
theorem codeD8 {rooms:List Int}{t:Tr}{l w:Int} (e:codeD rooms t l w=8):∃ (l':Nat) (h:Addr × List (Int × Int)),l=l'/\l' < t.ls.length/\t.hs[l']?=some h/\(kvget h.2 w).isSome=true/\0<=w/\w < rooms.length:=by
 unfold codeD at e
 split at e
 ·rename_i c1
  obtain ⟨l',rfl⟩:=zO c1.1
  split at e
  ·rename_i c2
   rw [zF] at e
   cases hh:t.hs[l']? with
   | none=>rw [hh] at e;cases e
   | some h=>
    rw [hh] at e
    dsimp only at e
    split at e
    ·rename_i c3;exact ⟨l',h,rfl,by omega,hh,c3,c2.1,c2.2⟩
    ·cases e
  ·cases e
 ·cases e
theorem kvget_put {kv:List (Int × Int)}{o t g:Int}:kvget (kvput kv o t) g=if g=o then some t else kvget kv g:=by
 have h:=valV_put (kvV kv) (Sum.inl o:Key) (Sum.inl g) (V.int t)
 rw [putK_kv,valV_kv,valV_kv] at h
 by_cases c:g=o
 ·rw [if_pos (congrArg Sum.inl c)] at h
  rw [if_pos c]
  cases e:kvget (kvput kv o t) g with
  | none=>rw [e] at h;cases h
  | some y=>rw [e] at h;cases h;rfl
 ·rw [if_neg fun z=>c (Sum.inl.inj z)] at h
  rw [if_neg c]
  cases e:kvget (kvput kv o t) g with
  | none=>
   cases e2:kvget kv g with
   | none=>rfl
   | some y=>rw [e,e2] at h;cases h
  | some y=>
   cases e2:kvget kv g with
   | none=>rw [e,e2] at h;cases h
   | some z=>rw [e,e2] at h;cases h;rfl
theorem below_some {o:Option Int}{t:Int} (h:below o t=true):o.isSome=true:=by
 cases o with
 | none=>cases h
 | some _=>rfl
theorem passed_kv {C:Addr}{H:Hp}{t:Tr}{rooms:List Int}{tr tm:Addr}{ps:List (Addr × M4)} {n0 m l:Nat}{M:M4}{L:L4}{o:Int}{h:Addr × List (Int × Int)} (hh:t.hs[l]?=some h):(t.passed m l M L o).hs[l]?=some (h.1,kvput h.2 o M.t)/\(t.passed m l M L o).kv l=kvput h.2 o M.t:=by
 have hl:l < t.hs.length:=(zB.mp hh).1
 have e1:(t.passed m l M L o).hs[l]?=some (h.1,kvput h.2 o M.t):=by
  show (match t.hs[l]? with | some h=>t.hs.set l (h.1,kvput (t.kv l) o M.t) | none=>t.hs)[l]?=_
  have ek:t.kv l=h.2:=by unfold Tr.kv;rw [hh]
  rw [hh,ek]
  exact yW hl
 refine ⟨e1,?_⟩
 unfold Tr.kv
 rw [e1]
theorem But.free {x c:Addr}{H H':Hp} (b:But x H H') (n:c ≠ x) (h:H' c=none):H c=none:=by
 cases z:H c with
 | none=>rfl
 | some u=>have:=b _ _ n z;rw [h] at this;cases this
structure New (H:Hp) (x b:Addr) (ls:List (Addr × L4)) (m:Nat) (t:Tr):Prop where
 ex:t.x=x
 eb:t.b=b
 el:t.ls=ls
 eh:t.hs.map (·.2)=ls.map fun l=>[((l.2.s:Int),l.2.a)]
 eo:t.os=ls.map fun l=>begA l.2
 en:t.ns=List.replicate m 0
 er:t.r=0
 ed:t.ds=[]
 fr:∀ c,t.own c\/c=t.lL\/c=t.lH->c=x\/H c=none
def spInit2 (C:Addr):Sp:=fun vs H Q _=>∃ x dx b l0 ls rooms tr tm ps,vs=[.ref x,.ref b,.ref l0]/\H x=some (.ins C dx [])/\BookAt H b rooms tr tm ps/\Good rooms.length (ps.map (·.2))/\rooms.length<=12/\H l0=some (.lst (ls.map fun l=>V.ref l.1))/\(∀ l ∈ ls,H l.1=some (.tup (letRow l.2)))/\ls.length<=41 /\
 ∀ t H',But x H H'->TrOk C H' t rooms tr tm ps 1->New H x b ls ps.length t->Q .non H'
end Sm
set_option Elab.async false
set_option linter.all false
set_option maxRecDepth 100000
set_option maxHeartbeats 400000
namespace L2
open PySem PySem.Spec PyProof.Rows
section
variable {X:Cx}
end
end L2
namespace Sm
open PySem L2 SmSort
def kvNext (ms:List M4) (kv:List (Int × Int)):Dd->List (Int × Int)
 | .drop _ w=>kvdel kv w
 | .pass gv m _ g=>match ms[m.toNat]? with
  | some M=>if gv=true then kvdel (kvput kv (othI M g) M.t) g else kvput kv (othI M g) M.t
  | none=>kv
def Dd.let:Dd->Int
 | .drop l _=>l
 | .pass _ _ l _=>l
def Dd.ok (ms:List M4) (kv:List (Int × Int)):Dd->Prop
 | .drop _ w=>(kvget kv w).isSome=true
 | .pass _ m _ w=>∃ (m':Nat) (M:M4),m=m'/\ms[m']?=some M/\(w=M.lo\/w=M.hi)/\(kvget kv w).isSome=true
end Sm
set_option Elab.async false
set_option linter.all false
set_option maxRecDepth 100000
set_option maxHeartbeats 400000
namespace Sm
open PySem L2 SmSort
structure Twin (t u:Tr):Prop where
 ls:t.ls=u.ls
 hs:t.hs.map (·.2)=u.hs.map (·.2)
 os:t.os=u.os
 ns:t.ns=u.ns
 r:t.r=u.r
theorem Twin.len {t u:Tr} (w:Twin t u):t.hs.length=u.hs.length:=by have:=congrArg List.length w.hs;simpa using this
theorem Twin.at {t u:Tr} (w:Twin t u) (l:Nat):(t.hs[l]?).map (·.2)=(u.hs[l]?).map (·.2):=by
 have:=congrArg (·[l]?) w.hs
 simpa only [zC] using this
theorem Twin.bag {t u:Tr} (w:Twin t u) (o:Int):∀ n,bagTo o t.ls t.hs n=bagTo o u.ls u.hs n
 | 0=>rfl
 | n + 1=>by
  unfold bagTo
  rw [w.bag o n]
  congr 2
  have:=w.at n
  have el:t.ls[n]?=u.ls[n]?:=by rw [w.ls]
  unfold inBag
  rw [el]
  cases h1:t.hs[n]? with
  | none=>
   rw [h1] at this
   cases h2:u.hs[n]? with
   | none=>rfl
   | some b=>rw [h2] at this;cases this
  | some a=>
   rw [h1] at this
   cases h2:u.hs[n]? with
   | none=>rw [h2] at this;cases this
   | some b=>
    rw [h2] at this
    have e:a.2=b.2:=Option.some.inj this
    cases u.ls[n]? with
    | none=>rfl
    | some l=>dsimp only;rw [e]
theorem Twin.code {t u:Tr} (w:Twin t u) {rooms:List Int}{ms:List M4} (d:Dd):codeT rooms ms t d=codeT rooms ms u d:=by
 cases d with
 | pass gv m l g=>
  show codeP rooms ms t m l g=codeP rooms ms u m l g
  unfold codeP
  rw [w.r,w.ls,w.ns]
  have:=w.at l.toNat
  cases h1:t.hs[l.toNat]? with
  | none=>
   rw [h1] at this
   cases h2:u.hs[l.toNat]? with
   | none=>cases ms[m.toNat]? <;> cases u.ls[l.toNat]? <;> rfl
   | some b=>rw [h2] at this;cases this
  | some a=>
   rw [h1] at this
   cases h2:u.hs[l.toNat]? with
   | none=>rw [h2] at this;cases this
   | some b=>
    rw [h2] at this
    have e:a.2=b.2:=Option.some.inj this
    have eb:∀ o,bagTo o u.ls t.hs t.hs.length=bagTo o u.ls u.hs u.hs.length:=fun o=>by
     have:=w.bag o t.hs.length
     rw [w.ls] at this
     rw [this,w.len]
    cases ms[m.toNat]? with
    | none=>rfl
    | some M=>
     cases u.ls[l.toNat]? with
     | none=>rfl
     | some L=>dsimp only;rw [e,eb]
 | drop l v=>
  show codeD rooms t l v=codeD rooms u l v
  unfold codeD
  rw [w.ls]
  have:=w.at l.toNat
  cases h1:t.hs[l.toNat]? with
  | none=>
   rw [h1] at this
   cases h2:u.hs[l.toNat]? with
   | none=>rfl
   | some b=>rw [h2] at this;cases this
  | some a=>
   rw [h1] at this
   cases h2:u.hs[l.toNat]? with
   | none=>rw [h2] at this;cases this
   | some b=>
    rw [h2] at this
    have e:a.2=b.2:=Option.some.inj this
    dsimp only;rw [e]
theorem Twin.kv {t u:Tr} (w:Twin t u) (l:Nat):t.kv l=u.kv l:=by
 have:=w.at l
 unfold Tr.kv
 cases h1:t.hs[l]? with
 | none=>
  rw [h1] at this
  cases h2:u.hs[l]? with
  | none=>rfl
  | some b=>rw [h2] at this;cases this
 | some a=>
  rw [h1] at this
  cases h2:u.hs[l]? with
  | none=>rw [h2] at this;cases this
  | some b=>rw [h2] at this;exact Option.some.inj this
theorem setH_map (t:Tr) (l:Nat) (kv:List (Int × Int)):(t.setH l kv).hs.map (·.2)=(t.hs.map (·.2)).set l kv:=by
 unfold Tr.setH
 dsimp only
 cases h:t.hs[l]? with
 | none=>
  have:t.hs.length<=l:=List.getElem?_eq_none_iff.mp h
  rw [List.set_eq_of_length_le (by rw [zA];exact this)]
 | some a=>rw [zw]
theorem Twin.setH {t u:Tr} (w:Twin t u) (l:Nat) {kv kv':List (Int × Int)} (e:kv=kv'):Twin (t.setH l kv) (u.setH l kv'):=
 ⟨w.ls,by rw [setH_map,setH_map,w.hs,e],w.os,w.ns,w.r⟩
theorem Twin.passed {t u:Tr} (w:Twin t u) (m l:Nat) (M:M4) (L:L4) (o:Int):Twin (t.passed m l M L o) (u.passed m l M L o):=by
 have h:=w.setH l (kv:=kvput (t.kv l) o M.t) (kv':=kvput (u.kv l) o M.t) (by rw [w.kv])
 exact ⟨h.ls,h.hs,by show noteA t.os l L o M.t=noteA u.os l L o M.t;rw [w.os],by show t.ns.set m (t.ns[m]?.getD 0 + 1)=u.ns.set m (u.ns[m]?.getD 0 + 1);rw [w.ns],rfl⟩
theorem Twin.done {t u:Tr} (w:Twin t u) {ms:List M4}{y y':V} (d:Dd):Twin (t.doneT ms y d) (u.doneT ms y' d):=by
 cases d with
 | drop l v=>
  have h:=w.setH l.toNat (kv:=kvdel (t.kv l.toNat) v) (kv':=kvdel (u.kv l.toNat) v) (by rw [w.kv])
  exact ⟨h.ls,h.hs,h.os,h.ns,h.r⟩
 | pass gv m l g=>
  have el:t.ls[l.toNat]?=u.ls[l.toNat]?:=by rw [w.ls]
  have key:Twin (match ms[m.toNat]?,t.ls[l.toNat]? with | some M,some L=>t.doneP gv m.toNat l.toNat g M L.2 | _,_=>t) (match ms[m.toNat]?,u.ls[l.toNat]? with | some M,some L=>u.doneP gv m.toNat l.toNat g M L.2 | _,_=>u):=by
   rw [el]
   cases ms[m.toNat]? with
   | none=>exact w
   | some M=>
    cases u.ls[l.toNat]? with
    | none=>exact w
    | some L=>
     dsimp only
     have h:=w.passed m.toNat l.toNat M L.2 (othI M g)
     unfold Tr.doneP
     cases gv with
     | false=>exact h
     | true=>
      rw [if_pos rfl,if_pos rfl]
      exact h.setH l.toNat (by rw [h.kv])
  exact ⟨key.ls,key.hs,key.os,key.ns,key.r⟩
theorem eq_refsL {K:PySem.W.Frag}{H:Hp}{l d:Addr}{xs:List V}{Q:VK}{neg:Bool} (hl:H l=some (.lst xs)) (hd:H d=some (.lst xs)) (hr:∀ x ∈ xs,∃ a,x=V.ref a) (q:Q (.bl (if neg=true then !true else true)) H):rEqv K neg (.ref l) (.ref d) H Q:=by
 refine ⟨0,l,d,_,_,fun _=>true,true,by decide,rfl,rfl,.inl ⟨SqL.of hl,SqL.of hd⟩,by simp,fun i x y hx hy=>?_,q⟩
 rw [hx] at hy;cases hy
 obtain ⟨a,rfl⟩:=hr x (zD hx)
 exact .inl ⟨rfl,⟨_,rfl⟩,rfl⟩
structure SameAd (t u:Tr):Prop where
 x:u.x=t.x
 b:u.b=t.b
 lL:u.lL=t.lL
 lH:u.lH=t.lH
 lA:u.lA=t.lA
 lP:u.lP=t.lP
 lD:u.lD=t.lD
 ls:u.ls=t.ls
 hs:u.hs.map (·.1)=t.hs.map (·.1)
theorem SameAd.own {t u:Tr} (s:SameAd t u) (c:Addr):u.own c ↔ t.own c:=by
 unfold Tr.own
 rw [s.x,s.lA,s.lP,s.lD,s.hs]
theorem setH_ad (t:Tr) (l:Nat) (kv:List (Int × Int)):(t.setH l kv).hs.map (·.1)=t.hs.map (·.1):=by
 unfold Tr.setH
 dsimp only
 cases h:t.hs[l]? with
 | none=>rfl
 | some a=>
  dsimp only
  have hl:l < t.hs.length:=(zB.mp h).1
  have eh:t.hs[l]=a:=(zB.mp h).2
  rw [zw]
  refine List.ext_getElem (by simp) fun i h1 h2=>?_
  rw [List.getElem_set]
  split
  ·rename_i z;subst z;simp [eh]
  ·rfl
theorem doneT_ad (t:Tr) (ms:List M4) (y:V) (d:Dd):SameAd t (t.doneT ms y d):=by
 cases d with
 | drop l w=>exact ⟨rfl,rfl,rfl,rfl,rfl,rfl,rfl,rfl,setH_ad _ _ _⟩
 | pass gv m l g=>
  have key:SameAd t (match ms[m.toNat]?,t.ls[l.toNat]? with | some M,some L=>t.doneP gv m.toNat l.toNat g M L.2 | _,_=>t):=by
   cases ms[m.toNat]? with
   | none=>exact ⟨rfl,rfl,rfl,rfl,rfl,rfl,rfl,rfl,rfl⟩
   | some M=>
    cases t.ls[l.toNat]? with
    | none=>exact ⟨rfl,rfl,rfl,rfl,rfl,rfl,rfl,rfl,rfl⟩
    | some L=>
     dsimp only
     have e1:((t.passed m.toNat l.toNat M L.2 (othI M g)).hs).map (·.1)=t.hs.map (·.1):=setH_ad t _ _
     unfold Tr.doneP
     cases gv with
     | false=>exact ⟨rfl,rfl,rfl,rfl,rfl,rfl,rfl,rfl,e1⟩
     | true=>
      rw [if_pos rfl]
      exact ⟨rfl,rfl,rfl,rfl,rfl,rfl,rfl,rfl,(setH_ad _ _ _).trans e1⟩
  exact ⟨key.x,key.b,key.lL,key.lH,key.lA,key.lP,key.lD,key.ls,key.hs⟩
theorem doneT_ds (t:Tr) (ms:List M4) (y:V) (d:Dd):(t.doneT ms y d).ds=t.ds ++ [y]:=rfl
theorem TrOk.there {C:Addr}{H:Hp}{t:Tr}{rooms:List Int}{tr tm:Addr}{ps:List (Addr × M4)} {n0:Nat} (k:TrOk C H t rooms tr tm ps n0) {c:Addr} (h:t.own c\/c=t.lL\/c=t.lH):∃ o,H c=some o/\∀ xs,o ≠ .tup xs:=by
 rcases h with (rfl | rfl | rfl | rfl | h) | rfl | rfl
 ·exact ⟨_,k.at_.ins,by intro _ z;cases z⟩
 ·exact ⟨_,k.at_.arr,by intro _ z;cases z⟩
 ·exact ⟨_,k.at_.pas,by intro _ z;cases z⟩
 ·exact ⟨_,k.at_.dee,by intro _ z;cases z⟩
 ·obtain ⟨g,hg,rfl⟩:=zM.mp h
  exact ⟨_,k.at_.hols g hg,by intro _ z;cases z⟩
 ·exact ⟨_,k.at_.lts,by intro _ z;cases z⟩
 ·exact ⟨_,k.at_.hol,by intro _ z;cases z⟩
section
variable {C:Addr} {H0 H H':Hp}{t u:Tr}{rooms:List Int}{tr tm:Addr}{ps:List (Addr × M4)} {n0 n1:Nat}
end
theorem doneT_kvs {C:Addr}{H:Hp}{t:Tr}{rooms:List Int}{tr tm:Addr}{ps:List (Addr × M4)} {n0:Nat} (k:TrOk C H t rooms tr tm ps n0) {d:Dd} (y:V) (c:codeT rooms (ps.map (·.2)) t d=8):∃ (n:Nat) (h:Addr × List (Int × Int)),d.let=n/\t.hs[n]?=some h/\(t.doneT (ps.map (·.2)) y d).hs.map (·.2)=(t.hs.map (·.2)).set n (kvNext (ps.map (·.2)) h.2 d) /\
  d.ok (ps.map (·.2)) h.2:=by
 cases d with
 | drop l w=>
  obtain ⟨l',h,rfl,hl,hh,hw,_,_⟩:=codeD8 c
  refine ⟨l',h,rfl,hh,?_,hw⟩
  show (t.setH ((l':Int)).toNat (kvdel (t.kv ((l':Int)).toNat) w)).hs.map (·.2)=_
  rw [zF,setH_map]
  have ek:t.kv l'=h.2:=by unfold Tr.kv;rw [hh]
  rw [ek];rfl
 | pass gv m l g=>
  obtain ⟨m',l',M,L,h,rfl,rfl,hM,hL,hh,hr',hg,hb,ho,_⟩:=codeP8 k.lh c
  refine ⟨l',h,rfl,hh,?_,m',M,rfl,hM,hg,below_some hb⟩
  have ek:t.kv l'=h.2:=by unfold Tr.kv;rw [hh]
  have pk:=passed_kv (m:=m') (M:=M) (L:=L.2) (o:=othI M g) (C:=C) (H:=H) (rooms:=rooms) (tr:=tr) (tm:=tm) (ps:=ps) (n0:=n0) hh
  have e1:(t.passed m' l' M L.2 (othI M g)).hs.map (·.2)=(t.hs.map (·.2)).set l' (kvput h.2 (othI M g) M.t):=by
   show (t.setH l' (kvput (t.kv l') (othI M g) M.t)).hs.map (·.2)=_
   rw [setH_map,ek]
  have e2:(t.doneT (ps.map (·.2)) y (.pass gv (m':Int) (l':Int) g)).hs=(t.doneP gv m' l' g M L.2).hs:=by
   unfold Tr.doneT;dsimp only;rw [zF,zF,hM,hL]
  rw [e2]
  have kn:kvNext (ps.map (·.2)) h.2 (.pass gv (m':Int) (l':Int) g)=if gv=true then kvdel (kvput h.2 (othI M g) M.t) g else kvput h.2 (othI M g) M.t:=by
   unfold kvNext;dsimp only;rw [zF,hM]
  rw [kn]
  unfold Tr.doneP
  cases gv with
  | false=>exact e1
  | true=>rw [if_pos rfl,if_pos rfl,setH_map,pk.2,e1,List.set_set]
end Sm
set_option Elab.async false
set_option linter.all false
set_option maxRecDepth 100000
set_option maxHeartbeats 400000
namespace Sm
open PySem L2 SmSort
def newTr (ls:List (Addr × L4)) (m:Nat):Tr:=⟨0,0,0,0,0,0,0,0,ls,ls.map fun l=>(0,[((l.2.s:Int),l.2.a)]),ls.map fun l=>begA l.2,List.replicate m 0,0,[]⟩
theorem New.twin {H:Hp}{x b:Addr}{ls:List (Addr × L4)}{m:Nat}{t:Tr} (n:New H x b ls m t):Twin t (newTr ls m):=
 ⟨n.el,by rw [n.eh];show _=(ls.map fun l=>((0:Addr),[((l.2.s:Int),l.2.a)])).map (·.2);rw [zX];rfl,n.eo,n.en,n.er⟩
theorem wV {s a w:Int}:kvget [(s,a)] w=if s=w then some a else none:=by
 unfold kvget
 by_cases c:s=w
 ·simp [c]
 ·simp [c]
theorem kvget_mem:∀ {kv:List (Int × Int)},(kv.map (·.1)).Nodup->∀ p ∈ kv,kvget kv p.1=some p.2
 | [],_,p,hp=>by cases hp
 | q :: kv,nd,p,hp=>by
  rw [zj,yT] at nd
  by_cases c:q.1=p.1
  ·rcases zR.mp hp with rfl | hp
   ·simp [kvget]
   ·exact absurd (zM.mpr ⟨p,hp,c.symm⟩) nd.1
  ·rcases zR.mp hp with rfl | hp
   ·exact absurd rfl c
   ·have:=kvget_mem nd.2 p hp
    unfold kvget at this ⊢
    simp only [yU,decide_eq_false c]
    exact this
end Sm
set_option Elab.async false
set_option linter.all false
set_option maxRecDepth 100000
set_option maxHeartbeats 400000
namespace Sm
open PySem L2 SmSort
def LetsL (H:Hp) (ll:Addr) (ls:List (Addr × L4)):Prop:=H ll=some (.lst (ls.map fun l=>V.ref l.1))/\∀ l ∈ ls,H l.1=some (.tup (letRow l.2))
theorem LetsL.same {H H':Hp}{ll:Addr}{ls:List (Addr × L4)} (h:LetsL H ll ls) (e:Same H H'):LetsL H' ll ls:=⟨e _ _ h.1,fun l hl=>e _ _ (h.2 l hl)⟩
theorem kvput_nd {kv:List (Int × Int)}{w t:Int} (nd:(kv.map (·.1)).Nodup):((kvput kv w t).map (·.1)).Nodup:=by
 unfold kvput
 split
 ·rw [zX]
  have e:((fun p:Int × Int=>p.1) ∘ fun p=>if p.1=w then (p.1,t) else p)=fun p=>p.1:=by
   funext p
   show (if p.1=w then (p.1,t) else p).1=p.1
   split <;> rfl
  rw [e];exact nd
 ·rename_i c
  rw [zN]
  refine List.nodup_append.mpr ⟨nd,by simp,fun a ha b hb=>?_⟩
  rw [zI.mp hb]
  intro z
  obtain ⟨p,hp,e⟩:=zM.mp ha
  exact c (List.any_eq_true.mpr ⟨p,hp,decide_eq_true (e.trans z)⟩)
theorem kvdel_nd {kv:List (Int × Int)}{w:Int} (nd:(kv.map (·.1)).Nodup):((kvdel kv w).map (·.1)).Nodup:=
 nd.sublist (List.Sublist.map _ List.filter_sublist)
theorem kvNext_nd {ms:List M4}{kv:List (Int × Int)}{d:Dd} (nd:(kv.map (·.1)).Nodup):((kvNext ms kv d).map (·.1)).Nodup:=by
 cases d with
 | drop l w=>exact kvdel_nd nd
 | pass gv m l g=>
  unfold kvNext
  dsimp only
  cases ms[m.toNat]? with
  | none=>exact nd
  | some M=>
   dsimp only
   split
   ·exact kvdel_nd (kvput_nd nd)
   ·exact kvput_nd nd
section
variable {C:Addr} {H0 H H' HB HC:Hp}{t:Tr}{s:Sts}{rooms:List Int}{tr tm:Addr}{ps:List (Addr × M4)} {n0:Nat}
theorem doneT_pass {gv:Bool}{m l:Nat}{g:Int}{y:V}{ms:List M4}{M:M4}{L:Addr × L4} (hM:ms[m]?=some M) (hL:t.ls[l]?=some L):(t.doneT ms y (.pass gv (m:Int) (l:Int) g)).os=noteA t.os l L.2 (othI M g) M.t/\(t.doneT ms y (.pass gv (m:Int) (l:Int) g)).ns=t.ns.set m (t.ns[m]?.getD 0 + 1)/\(t.doneT ms y (.pass gv (m:Int) (l:Int) g)).r=m:=by
 unfold Tr.doneT;dsimp only;rw [zF,zF,hM,hL]
 unfold Tr.doneP
 cases gv <;> exact ⟨rfl,rfl,rfl⟩
end
end Sm
set_option Elab.async false
set_option linter.all false
set_option maxRecDepth 100000
set_option maxHeartbeats 400000
namespace Sm
open PySem L2 SmSort
def runT (ms:List M4) (t:Tr) (ys:List (Addr × Dd)):Tr:=ys.foldl (fun t y=>t.doneT ms (.ref y.1) y.2) t
theorem runT_snoc {ms:List M4}{t:Tr}{ys:List (Addr × Dd)}{y:Addr × Dd}:runT ms t (ys ++ [y])=(runT ms t ys).doneT ms (.ref y.1) y.2:=by
 unfold runT;rw [List.foldl_append];rfl
def RunOk (rooms:List Int) (ms:List M4):Tr->List (Addr × Dd)->Prop
 | _,[]=>True
 | t,y :: ys=>codeT rooms ms t y.2=8/\RunOk rooms ms (t.doneT ms (.ref y.1) y.2) ys
theorem RunOk.snoc {rooms:List Int}{ms:List M4}:∀ {ys:List (Addr × Dd)}{t:Tr}{y:Addr × Dd},RunOk rooms ms t ys->codeT rooms ms (runT ms t ys) y.2=8->RunOk rooms ms t (ys ++ [y])
 | [],_,_,_,c=>⟨c,trivial⟩
 | z :: ys,t,y,r,c=>⟨r.1,RunOk.snoc r.2 c⟩
theorem nodup_len:∀ {xs ys:List Int},xs.Nodup->(∀ x ∈ xs,x ∈ ys)->xs.length<=ys.length
 | [],_,_,_=>zb _
 | x :: xs,ys,nd,h=>by
  have nd':=yT.mp nd
  have hm:=h x (.head _)
  have:=nodup_len (xs:=xs) (ys:=ys.erase x) nd'.2 fun z hz=>(List.mem_erase_of_ne (fun e=>nd'.1 (by rw [<-e];exact hz))).mpr (h z (.tail _ hz))
  rw [List.length_erase_of_mem hm] at this
  have:0 < ys.length:=List.length_pos_of_mem hm
  show xs.length + 1<=_
  omega
theorem map_some {α β:Type}{f:α->β}{o o':Option α}{a:α} (e:o.map f=o'.map f) (h:o'=some a):∃ b,o=some b/\f b=f a:=by
 subst h
 cases o with
 | none=>cases e
 | some b=>exact ⟨b,rfl,Option.some.inj e⟩
theorem doneT_hs {rooms:List Int}{ms:List M4}{t:Tr} (lh:t.hs.length=t.ls.length) {d:Dd} (y:V) (c:codeT rooms ms t d=8):∃ (n:Nat) (h:Addr × List (Int × Int)),d.let=n/\n < t.ls.length/\t.hs[n]?=some h/\(t.doneT ms y d).hs.map (·.2)=(t.hs.map (·.2)).set n (kvNext ms h.2 d):=by
 cases d with
 | drop l w=>
  obtain ⟨l',h,rfl,hl,hh,hw,_,_⟩:=codeD8 c
  refine ⟨l',h,rfl,hl,hh,?_⟩
  show (t.setH ((l':Int)).toNat (kvdel (t.kv ((l':Int)).toNat) w)).hs.map (·.2)=_
  rw [zF,setH_map]
  have ek:t.kv l'=h.2:=by unfold Tr.kv;rw [hh]
  rw [ek];rfl
 | pass gv m l g=>
  obtain ⟨m',l',M,L,h,rfl,rfl,hM,hL,hh,hr',hg,hb,ho,_⟩:=codeP8 lh c
  refine ⟨l',h,rfl,(zB.mp hL).1,hh,?_⟩
  have ek:t.kv l'=h.2:=by unfold Tr.kv;rw [hh]
  have pk:=passed_kv (m:=m') (M:=M) (L:=L.2) (o:=othI M g) (C:=0) (H:=fun _=>none) (rooms:=[]) (tr:=0) (tm:=0) (ps:=[]) (n0:=0) hh
  have e1:(t.passed m' l' M L.2 (othI M g)).hs.map (·.2)=(t.hs.map (·.2)).set l' (kvput h.2 (othI M g) M.t):=by
   show (t.setH l' (kvput (t.kv l') (othI M g) M.t)).hs.map (·.2)=_
   rw [setH_map,ek]
  have e2:(t.doneT ms y (.pass gv (m':Int) (l':Int) g)).hs=(t.doneP gv m' l' g M L.2).hs:=by
   unfold Tr.doneT;dsimp only;rw [zF,zF,hM,hL]
  rw [e2]
  have kn:kvNext ms h.2 (.pass gv (m':Int) (l':Int) g)=if gv=true then kvdel (kvput h.2 (othI M g) M.t) g else kvput h.2 (othI M g) M.t:=by
   unfold kvNext;dsimp only;rw [zF,hM]
  rw [kn]
  unfold Tr.doneP
  cases gv with
  | false=>exact e1
  | true=>rw [if_pos rfl,if_pos rfl,setH_map,pk.2,e1,List.set_set]
theorem noteA_at {os:List (Option Int)}{n:Nat}{l:L4}{w t:Int}{k:Nat}:(noteA os n l w t)[k]?=if n=k/\w=l.w/\t<=l.z/\os[n]?=some none then some (some t) else os[k]?:=by
 unfold noteA
 by_cases c:w=l.w/\t<=l.z/\os[n]?=some none
 ·rw [if_pos c,zZ]
  by_cases z:n=k
  ·have hl:n < os.length:=by obtain ⟨h,_⟩:=zB.mp c.2.2;exact h
   rw [if_pos z,if_pos hl,if_pos ⟨z,c⟩]
  ·rw [if_neg z,if_neg fun h=>z h.1]
 ·rw [if_neg c,if_neg fun h=>c h.2]
theorem set_getD {xs:List Int}{m i:Nat}{v:Int}:(xs.set m v)[i]?.getD 0=if m=i/\m < xs.length then v else xs[i]?.getD 0:=by
 rw [zZ]
 by_cases z:m=i
 ·subst z
  by_cases l:m < xs.length
  ·rw [if_pos rfl,if_pos l,if_pos ⟨rfl,l⟩];rfl
  ·rw [if_pos rfl,if_neg l,if_neg fun h=>l h.2,zp (by omega)]
 ·rw [if_neg z,if_neg fun h=>z h.1]
end Sm
set_option Elab.async false
set_option linter.all false
set_option maxRecDepth 100000
set_option maxHeartbeats 400000
namespace Sm
open PySem L2 SmSort
def Dd.passOf (n:Nat):Dd->Option (Int × Int)
 | .pass _ m l g=>if l=(n:Int) then some (m,g) else none
 | .drop _ _=>none
def chB (ms:List M4) (n:Nat):List Dd->Int->Int × List Int
 | [],w=>(w,[])
 | d :: ds,w=>match d.passOf n with
  | some (m,g)=>(match ms[m.toNat]? with
   | some M=>if M.lo + M.hi - g=w then ((chB ms n ds g).1,(chB ms n ds g).2 ++ [m]) else chB ms n ds w
   | none=>chB ms n ds w)
  | none=>chB ms n ds w
def whD (ms:List M4) (n:Nat) (L:L4) (d:Dd):List Int:=match d.passOf n with
 | some (m,g)=>(match ms[m.toNat]? with
  | some M=>if M.lo + M.hi - g=L.w then [M.t] else []
  | none=>[])
 | none=>[]
def whs (ms:List M4) (n:Nat) (L:L4) (ds:List Dd):List Int:=(if L.s=L.w then [L.a] else []) ++ ds.flatMap (whD ms n L)
structure Hist (ms:List M4) (n:Nat) (L:L4) (ds:List Dd) (kv:List (Int × Int)) (o:Option Int) (r:Int):Prop where
 ch:∀ w e,kvget kv w=some e->L.a<=e/\(chB ms n ds.reverse w).1=L.s/\∃ w':Nat,w=w'/\walkM ms L.s L.a (-1) (chB ms n ds.reverse w).2=some (w',e)
 wo:o=((whs ms n L ds).filter fun x=>decide (x<=L.z)).head?
 ws:(whs ms n L ds).Pairwise (·<=·)
 wb:∀ x ∈ whs ms n L ds,x=L.a\/∃ (p:Nat) (M:M4),(p:Int)<=r/\ms[p]?=some M/\x=M.t
theorem kvget_del_some {kv:List (Int × Int)}{w u e:Int} (h:kvget (kvdel kv u) w=some e):kvget kv w=some e:=by
 unfold kvget kvdel at *
 by_cases c:w=u
 ·subst c
  rw [List.find?_filter] at h
  have:(kv.find? fun a=>decide (decide (a.1 ≠ w)=true/\decide (a.1=w)=true))=none:=List.find?_eq_none.mpr fun p _=>by simp
  rw [this] at h;cases h
 ·rw [List.find?_filter] at h
  have e2:(fun a:Int × Int=>decide (decide (a.1 ≠ u)=true/\decide (a.1=w)=true))=fun a=>decide (a.1=w):=by
   funext a
   by_cases z:a.1=w
   ·simp [z,c]
   ·simp [z]
  rw [e2] at h;exact h
theorem Hist.skip {ms:List M4}{n:Nat}{L:L4}{ds:List Dd}{kv kv':List (Int × Int)}{o:Option Int}{r r':Int}{d:Dd} (h:Hist ms n L ds kv o r) (e:d.passOf n=none) (k:∀ w x,kvget kv' w=some x->kvget kv w=some x) (rr:r<=r'):Hist ms n L (ds ++ [d]) kv' o r':=by
 have e1:∀ w,chB ms n (ds ++ [d]).reverse w=chB ms n ds.reverse w:=fun w=>by
  rw [List.reverse_append]
  show chB ms n (d :: ds.reverse) w=_
  conv=>lhs;unfold chB
  rw [e]
 have e2:whs ms n L (ds ++ [d])=whs ms n L ds:=by
  unfold whs
  rw [List.flatMap_append]
  have:[d].flatMap (whD ms n L)=[]:=by
   show whD ms n L d ++ []=[]
   unfold whD;rw [e];rfl
  rw [this,za]
 refine ⟨fun w x hx=>?_,by rw [e2];exact h.wo,by rw [e2];exact h.ws,fun x hx=>?_⟩
 ·rw [e1];exact h.ch w x (k w x hx)
 ·rw [e2] at hx
  rcases h.wb x hx with z | ⟨p,M,hp,hM,z⟩
  ·exact .inl z
  ·exact .inr ⟨p,M,by omega,hM,z⟩
theorem Good.mono {w:Int}{ms:List M4} (g:Good w ms) {i j:Nat}{M N:M4} (h:i<=j) (hi:ms[i]?=some M) (hj:ms[j]?=some N):M.t<=N.t:=by
 by_cases c:i=j
 ·subst c;rw [hi] at hj;cases hj;exact yL _
 ·have pw:=yD.mp g.order
  obtain ⟨h1,e1⟩:=zB.mp hi
  obtain ⟨h2,e2⟩:=zB.mp hj
  have:=pw i j h1 h2 (by omega)
  rw [e1,e2] at this
  rcases this with z | z <;> omega
theorem Hist.pass {w0:Nat}{ms:List M4} (gd:Good w0 ms) {n:Nat}{L:L4}{ds:List Dd}{kv kv':List (Int × Int)}{o:Option Int}{r:Int}{d:Dd}{m:Nat}{g eg:Int}{M:M4} (h:Hist ms n L ds kv o r) (e:d.passOf n=some ((m:Int),g)) (hM:ms[m]?=some M) (hg:g=M.lo\/g=M.hi) (hk:kvget kv g=some eg) (lt:eg < M.t) (hr:r<=m)
  (k:∀ w x,kvget kv' w=some x->(w=othI M g/\x=M.t)\/(w ≠ othI M g/\kvget kv w=some x)) :
  Hist ms n L (ds ++ [d]) kv' (if othI M g=L.w/\M.t<=L.z/\o=none then some M.t else o) m:=by
 have bd:=gd.each M (zD hM)
 have eo:M.lo + M.hi - g=othI M g:=by unfold othI;split <;> omega
 have e1:∀ w,chB ms n (ds ++ [d]).reverse w=if othI M g=w then ((chB ms n ds.reverse g).1,(chB ms n ds.reverse g).2 ++ [(m:Int)]) else chB ms n ds.reverse w:=fun w=>by
  rw [List.reverse_append]
  show chB ms n (d :: ds.reverse) w=_
  conv=>lhs;unfold chB
  rw [e]
  dsimp only
  rw [zF,hM]
  dsimp only
  rw [eo]
 have e2:whs ms n L (ds ++ [d])=whs ms n L ds ++ (if othI M g=L.w then [M.t] else []):=by
  unfold whs
  rw [List.flatMap_append,<- List.append_assoc]
  congr 1
  show whD ms n L d ++ []=_
  rw [za]
  unfold whD
  rw [e]
  dsimp only
  rw [zF,hM]
  dsimp only
  rw [eo]
 obtain ⟨ag,c1,g',eg',c2⟩:=h.ch g eg hk
 have le:∀ x ∈ whs ms n L ds,x<=M.t:=fun x hx=>by
  rcases h.wb x hx with z | ⟨p,N,hp,hN,z⟩
  ·omega
  ·rw [z];exact gd.mono (by omega) hN hM
 refine ⟨fun w x hx=>?_,?_,?_,fun x hx=>?_⟩
 ·rcases k w x hx with ⟨rfl,rfl⟩ | ⟨z,hx⟩
  ·rw [e1,if_pos rfl]
   have sn:=walk_snoc gd hM c2 (.inl rfl) (by omega) lt
   refine ⟨by omega,c1,oth g' M,?_,sn⟩
   unfold othI oth
   split
   ·rename_i z1;rw [if_pos (by omega)];omega
   ·rename_i z1;rw [if_neg (by omega)];omega
  ·rw [e1,if_neg (Ne.symm z)];exact h.ch w x hx
 ·rw [e2,List.filter_append,List.head?_append]
  have ho:=h.wo
  by_cases c3:othI M g=L.w
  ·rw [if_pos c3]
   by_cases c4:M.t<=L.z
   ·have f1:([M.t].filter fun x=>decide (x<=L.z))=[M.t]:=by simp [c4]
    rw [f1]
    cases o with
    | none=>rw [if_pos ⟨c3,c4,rfl⟩,<- ho];rfl
    | some v=>rw [if_neg (fun z=>by cases z.2.2),<- ho];rfl
   ·have f1:([M.t].filter fun x=>decide (x<=L.z))=[]:=by simp [c4]
    rw [if_neg (fun z=>c4 z.2.1),f1,<- ho];cases o <;> rfl
  ·rw [if_neg c3,if_neg (fun z=>c3 z.1),<- ho];cases o <;> rfl
 ·rw [e2]
  split
  ·exact yQ.mpr ⟨h.ws,zt _ _,fun a ha b hb=>by rw [zI.mp hb];exact le a ha⟩
  ·rw [za];exact h.ws
 ·rw [e2] at hx
  rcases zW.mp hx with hx | hx
  ·rcases h.wb x hx with z | ⟨p,N,hp,hN,z⟩
   ·exact .inl z
   ·exact .inr ⟨p,N,by omega,hN,z⟩
  ·split at hx
   ·exact .inr ⟨m,M,by omega,hM,zI.mp hx⟩
   ·cases hx
theorem inBag_eq {w:Int}{l:Addr × L4}{h:Addr × List (Int × Int)}:inBag w (some l) (some h)=((kvget h.2 w).isSome && takB l.2 w):=by
 unfold inBag takB;dsimp only;rw [kv_any]
theorem bag_le {w:Int}{ls:List (Addr × L4)}{hs hs':List (Addr × List (Int × Int))} (e:∀ i:Nat,inBag w ls[i]? hs'[i]?=true->inBag w ls[i]? hs[i]?=true):∀ n,(bagTo w ls hs' n).length<=(bagTo w ls hs n).length
 | 0=>zJ _
 | n + 1=>by
  have ih:=bag_le e n
  unfold bagTo
  rw [zT,zT]
  by_cases c:inBag w ls[n]? hs'[n]?=true
  ·rw [if_pos c,if_pos (e n c)]
   show _ + 1<=_ + 1;omega
  ·rw [if_neg c]
   show _ + 0<=_;omega
theorem bag_le1 {w:Int}{ls:List (Addr × L4)}{hs hs':List (Addr × List (Int × Int))}{l:Nat} (e:∀ i:Nat,i ≠ l->inBag w ls[i]? hs'[i]?=true->inBag w ls[i]? hs[i]?=true):∀ n,(bagTo w ls hs' n).length<=(bagTo w ls hs n).length + if l < n then 1 else 0
 | 0=>by rw [if_neg (yq _)];exact zJ _
 | n + 1=>by
  have ih:=bag_le1 e n
  have lx:(if l < n then 1 else 0:Nat)<=(if l < n + 1 then 1 else 0):=by
   by_cases q:l < n
   ·rw [if_pos q,if_pos (by omega)];exact zJ _
   ·rw [if_neg q];exact zb _
  unfold bagTo
  rw [zT,zT]
  by_cases c:inBag w ls[n]? hs'[n]?=true
  ·rw [if_pos c]
   by_cases z:n=l
   ·subst z
    rw [if_neg (ze _)] at ih
    rw [if_pos (yB _)]
    show _ + 1<=_;omega
   ·rw [if_pos (e n z c)]
    show _ + 1<=_ + 1 + _
    omega
  ·rw [if_neg c]
   show _ + 0<=_
   omega
def psD:Dd->List Int
 | .pass _ m _ _=>[m]
 | .drop _ _=>[]
def pss (ds:List Dd):List Int:=ds.flatMap psD
theorem pss_snoc (ds:List Dd) (d:Dd):pss (ds ++ [d])=pss ds ++ psD d:=by
 unfold pss;rw [List.flatMap_append]
 congr 1
 show psD d ++ []=psD d
 rw [za]
structure HistT (rooms:List Int) (ms:List M4) (t:Tr) (ds:List Dd):Prop where
 each:∀ (n:Nat) L h o,t.ls[n]?=some L->t.hs[n]?=some h->t.os[n]?=some o->Hist ms n L.2 ds h.2 o t.r
 pa:(pss ds).Pairwise (·<=·)
 pr:∀ p ∈ pss ds,p<=t.r
 cn:∀ (i:Nat) (M:M4),ms[i]?=some M->t.ns[i]?=some (((pss ds).countP fun p=>decide (p=(i:Int)):Nat):Int)/\(((pss ds).countP fun p=>decide (p=(i:Int)):Nat):Int)<=M.m
 bg:∀ (w:Nat) (r:Int),rooms[w]?=some r->((bagTo (w:Int) t.ls t.hs t.hs.length).length:Int)<=r
 kb:∀ (n:Nat) h,t.hs[n]?=some h->∀ w e,kvget h.2 w=some e->w < rooms.length
 dk:∀ d ∈ ds,∀ gv m l g,d=.pass gv m l g->∃ (m':Nat) (M:M4),m=m'/\ms[m']?=some M
 nd:∀ (n:Nat) h,t.hs[n]?=some h->(h.2.map (·.1)).Nodup
theorem HistT.step {C:Addr}{H:Hp}{t:Tr}{rooms:List Int}{tr tm:Addr}{ps:List (Addr × M4)} {n0:Nat}{ds:List Dd}{d:Dd}{y:V} (k:TrOk C H t rooms tr tm ps n0) (h:HistT rooms (ps.map (·.2)) t ds) (c:codeT rooms (ps.map (·.2)) t d=8):HistT rooms (ps.map (·.2)) (t.doneT (ps.map (·.2)) y d) (ds ++ [d]):=by
 obtain ⟨l,hl,en,hhl,enew,hc⟩:=doneT_kvs k y c
 have ad:=doneT_ad t (ps.map (·.2)) y d
 have lhs:(t.doneT (ps.map (·.2)) y d).hs.length=t.hs.length:=by
  have:=congrArg List.length enew
  rw [zA,z8,zA] at this;exact this
 have hsN:∀ n h',(t.doneT (ps.map (·.2)) y d).hs[n]?=some h'->∃ h0,t.hs[n]?=some h0/\h'.2=if n=l then kvNext (ps.map (·.2)) hl.2 d else h0.2:=fun n h' e=>by
  have e1:((t.doneT (ps.map (·.2)) y d).hs.map (·.2))[n]?=some h'.2:=by rw [zC,e];rfl
  rw [enew,zZ] at e1
  obtain ⟨h0,e0⟩:∃ h0,t.hs[n]?=some h0:=⟨_,zE (by have:=(zB.mp e).1;omega)⟩
  refine ⟨h0,e0,?_⟩
  by_cases z:l=n
  ·subst z
   rw [if_pos rfl,if_pos (by rw [zA];exact (zB.mp hhl).1)] at e1
   rw [if_pos rfl];exact (Option.some.inj e1).symm
  ·rw [if_neg z,zC,e0] at e1
   rw [if_neg (Ne.symm z)];exact (Option.some.inj e1).symm
 have ndN:∀ (n:Nat) h',(t.doneT (ps.map (·.2)) y d).hs[n]?=some h'->(h'.2.map (·.1)).Nodup:=fun n h' e=>by
  obtain ⟨h0,e0,e1⟩:=hsN n h' e
  rw [e1]
  split
  ·exact kvNext_nd (h.nd l hl hhl)
  ·exact h.nd n h0 e0
 have inb:∀ (w:Int) (i:Nat),(∀ x,kvget (kvNext (ps.map (·.2)) hl.2 d) w=some x->i=l->(kvget hl.2 w).isSome=true)->inBag w t.ls[i]? (t.doneT (ps.map (·.2)) y d).hs[i]?=true->inBag w t.ls[i]? t.hs[i]?=true:=fun w i hw hi=>by
  cases e1:t.ls[i]? with
  | none=>rw [e1] at hi;cases e2:(t.doneT (ps.map (·.2)) y d).hs[i]? <;> rw [e2] at hi <;> exact absurd hi (by unfold inBag;exact zG)
  | some L=>
   cases e2:(t.doneT (ps.map (·.2)) y d).hs[i]? with
   | none=>rw [e1,e2] at hi;exact absurd hi (by unfold inBag;exact zG)
   | some h'=>
    rw [e1,e2,inBag_eq] at hi
    obtain ⟨h0,e0,e3⟩:=hsN i h' e2
    rw [e0,inBag_eq]
    have a:=(zk _ _).mp hi
    rw [a.2,Bool.and_true]
    by_cases z:i=l
    ·rw [if_pos z] at e3
     rw [e3] at a
     obtain ⟨x,ex⟩:=zf.mp a.1
     have:=hw x ex z
     subst z
     rw [e0] at hhl;cases hhl;exact this
    ·rw [if_neg z] at e3
     rw [<-e3];exact a.1
 cases d with
 | drop l0 w0=>
  obtain rfl:l0=(l:Int):=en
  have kk:∀ w x,kvget (kvNext (ps.map (·.2)) hl.2 (.drop (l:Int) w0)) w=some x->kvget hl.2 w=some x:=fun w x e=>kvget_del_some e
  refine ⟨fun n L h' o eL eh eo=>?_,by rw [pss_snoc];show (pss ds ++ []).Pairwise _;rw [za];exact h.pa,fun p hp=>?_,fun i M hM=>?_,fun w r hr=>?_,fun n h' eh w x e=>?_,fun d0 hd gv m l0 g e=>?_,ndN⟩
  ·rw [ad.ls] at eL
   obtain ⟨h0,e0,e3⟩:=hsN n h' eh
   refine (h.each n L h0 o eL e0 eo).skip rfl (fun w x e=>?_) (yL _)
   rw [e3] at e
   by_cases z:n=l
   ·subst z
    rw [e0] at hhl;cases hhl
    rw [if_pos rfl] at e;exact kk w x e
   ·rw [if_neg z] at e;exact e
  ·rw [pss_snoc] at hp
   have hp':p ∈ pss ds ++ []:=hp
   rw [za] at hp'
   exact h.pr p hp'
  ·rw [pss_snoc]
   show _=some (((pss ds ++ []).countP _:Nat):Int)/\(((pss ds ++ []).countP _:Nat):Int)<=_
   rw [za];exact h.cn i M hM
  ·rw [ad.ls,lhs]
   have:=bag_le (fun i=>inb (w:Int) i fun x ex z=>by rw [kk _ _ ex];rfl) t.hs.length
   have:=h.bg w r hr
   omega
  ·obtain ⟨h0,e0,e3⟩:=hsN n h' eh
   rw [e3] at e
   by_cases z:n=l
   ·subst z
    rw [e0] at hhl;cases hhl
    rw [if_pos rfl] at e;exact h.kb n _ e0 w x (kk w x e)
   ·rw [if_neg z] at e;exact h.kb n h0 e0 w x e
  ·rcases zW.mp hd with hd | hd
   ·exact h.dk d0 hd gv m l0 g e
   ·rw [zI.mp hd] at e;cases e
 | pass gv m l0 g=>
  obtain ⟨m',l',M,L,h0,rfl,rfl,hM,hL,hh0,hr,hg,hb,ho,hcode⟩:=codeP8 k.lh c
  obtain rfl:l'=l:=by have:(l':Int)=l:=en;omega
  rw [hhl] at hh0;cases hh0
  obtain ⟨d1,d2,d3⟩:=doneT_pass (t:=t) (gv:=gv) (g:=g) (y:=y) hM hL
  have hm:m' < ps.length:=by have:=(zB.mp hM).1;simpa using this
  obtain ⟨eg,hk⟩:∃ eg,kvget hl.2 g=some eg:=zf.mp (below_some hb)
  have lt:eg < M.t:=by rw [hk] at hb;exact of_decide_eq_true hb
  have kk:∀ w x,kvget (kvNext (ps.map (·.2)) hl.2 (.pass gv (m':Int) (l':Int) g)) w=some x->(w=othI M g/\x=M.t)\/(w ≠ othI M g/\kvget hl.2 w=some x):=fun w x e=>by
   have e2:kvget (kvput hl.2 (othI M g) M.t) w=some x:=by
    unfold kvNext at e
    dsimp only at e
    rw [zF,hM] at e
    dsimp only at e
    split at e
    ·exact kvget_del_some e
    ·exact e
   rw [kvget_put] at e2
   split at e2
   ·exact .inl ⟨by assumption,(Option.some.inj e2).symm⟩
   ·exact .inr ⟨by assumption,e2⟩
  refine ⟨fun n L2 h' o eL eh eo=>?_,?_,fun p hp=>?_,fun i M2 hM2=>?_,fun w r hr2=>?_,fun n h' eh w x e=>?_,fun d0 hd gv2 m2 l2 g2 e=>?_,ndN⟩
  ·rw [ad.ls] at eL
   obtain ⟨h0,e0,e3⟩:=hsN n h' eh
   rw [d3]
   rw [d1] at eo
   by_cases z:n=l'
   ·subst z
    rw [e0] at hhl;cases hhl
    rw [hL] at eL;cases eL
    rw [if_pos rfl] at e3
    obtain ⟨o0,eo0⟩:∃ o0,t.os[n]?=some o0:=⟨_,zE (by rw [k.lo];exact (zB.mp hL).1)⟩
    have H1:=Hist.pass (w0:=rooms.length) k.gd (d:=.pass gv (m':Int) (n:Int) g) (kv':=h'.2) (h.each n L hl o0 hL e0 eo0) (if_pos rfl) hM hg hk lt hr (fun w x e=>kk w x (by rw [<-e3];exact e))
    have eo2:o=if othI M g=L.2.w/\M.t<=L.2.z/\o0=none then some M.t else o0:=by
     unfold noteA at eo
     by_cases cc:othI M g=L.2.w/\M.t<=L.2.z/\o0=none
     ·rw [if_pos cc]
      rw [if_pos ⟨cc.1,cc.2.1,by rw [eo0,cc.2.2]⟩,yW (zB.mp eo0).1] at eo
      exact (Option.some.inj eo).symm
     ·rw [if_neg cc]
      rw [if_neg (fun q=>cc ⟨q.1,q.2.1,by have:=q.2.2;rw [eo0] at this;exact Option.some.inj this⟩),eo0] at eo
      exact (Option.some.inj eo).symm
    rw [eo2];exact H1
   ·rw [if_neg z] at e3
    have eo3:t.os[n]?=some o:=by
     unfold noteA at eo
     split at eo
     ·rw [List.getElem?_set_ne (Ne.symm z)] at eo;exact eo
     ·exact eo
    refine (h.each n L2 h0 o eL e0 eo3).skip ?_ (fun w x e=>by rw [e3] at e;exact e) hr
    exact if_neg (fun q=>z (by omega))
  ·rw [pss_snoc]
   exact yQ.mpr ⟨h.pa,zt _ _,fun a ha b hb=>by
    rw [zI.mp hb]
    have:=h.pr a ha;omega⟩
  ·rw [pss_snoc] at hp
   rw [d3]
   rcases zW.mp hp with hp | hp
   ·have:=h.pr p hp;omega
   ·rw [zI.mp hp];exact yL _
  ·rw [pss_snoc,d2]
   show _=some (((pss ds ++ [(m':Int)]).countP _:Nat):Int)/\(((pss ds ++ [(m':Int)]).countP _:Nat):Int)<=_
   rw [List.countP_append,List.countP_singleton]
   obtain ⟨n1,n2⟩:=h.cn i M2 hM2
   have ltn:m' < t.ns.length:=by rw [k.ln];exact hm
   by_cases z:m'=i
   ·subst z
    rw [hM] at hM2;cases hM2
    rw [yW ltn,n1,if_pos (decide_eq_true rfl)]
    refine ⟨rfl,?_⟩
    rw [n1] at hcode
    unfold codeP2 at hcode
    have n6:¬ (kvget hl.2 (othI M g)).isSome=true:=by rw [ho];exact zG
    rw [if_pos hg,if_pos hb,if_neg n6] at hcode
    by_cases q:M.m<=((some (((pss ds).countP fun p=>decide (p=(m':Int)):Nat):Int)).getD 0)
    ·rw [if_pos q] at hcode;cases hcode
    ·have q':¬ M.m<=(((pss ds).countP fun p=>decide (p=(m':Int)):Nat):Int):=q
     omega
   ·rw [List.getElem?_set_ne z,n1,if_neg (by simp;omega)]
    exact ⟨rfl,n2⟩
  ·rw [ad.ls,lhs]
   have b0:=h.bg w r hr2
   by_cases z:(w:Int)=othI M g
   ·by_cases tk:takB L.2 (othI M g)=true
    ·have:=bag_le1 (l:=l') (fun i ne=>inb (w:Int) i fun x ex q=>absurd q ne) t.hs.length
     have n6:¬ (kvget hl.2 (othI M g)).isSome=true:=by rw [ho];exact zG
     unfold codeP2 at hcode
     rw [if_pos hg,if_pos hb,if_neg n6] at hcode
     have er:rooms[(othI M g).toNat]?.getD 0=r:=by rw [<-z,zF,hr2];rfl
     rw [er,tk,yh,<- z] at hcode
     by_cases q:r<=((bagTo (w:Int) t.ls t.hs t.hs.length).length:Int)
     ·rw [if_pos (decide_eq_true q)] at hcode
      split at hcode <;> cases hcode
     ·split at this <;> omega
    ·have:=bag_le (w:=(w:Int)) (ls:=t.ls) (hs:=t.hs) (hs':=(t.doneT (ps.map (·.2)) y (.pass gv (m':Int) (l':Int) g)).hs) (fun i hi=>by
      by_cases q:i=l'
      ·subst q
       cases e2:(t.doneT (ps.map (·.2)) y (.pass gv (m':Int) (i:Int) g)).hs[i]? with
       | none=>rw [hL,e2] at hi;exact absurd hi (by unfold inBag;exact zG)
       | some h'=>
        rw [hL,e2,inBag_eq,z] at hi
        exact absurd ((zk _ _).mp hi).2 tk
      ·exact inb (w:Int) i (fun x ex q2=>absurd q2 q) hi) t.hs.length
     omega
   ·have:=bag_le (fun i=>inb (w:Int) i fun x ex q=>by
     rcases kk _ _ ex with ⟨q1,_⟩ | ⟨_,q1⟩
     ·exact absurd q1 z
     ·rw [q1];rfl) t.hs.length
    omega
  ·obtain ⟨h0,e0,e3⟩:=hsN n h' eh
   rw [e3] at e
   by_cases z:n=l'
   ·subst z
    rw [e0] at hhl;cases hhl
    rw [if_pos rfl] at e
    rcases kk w x e with ⟨q1,_⟩ | ⟨_,q1⟩
    ·have bd:=k.gd.each M (zD hM)
     rw [q1];unfold othI;split <;> omega
    ·exact h.kb n _ e0 w x q1
   ·rw [if_neg z] at e;exact h.kb n h0 e0 w x e
  ·rcases zW.mp hd with hd | hd
   ·exact h.dk d0 hd gv2 m2 l2 g2 e
   ·rw [zI.mp hd] at e;cases e
    exact ⟨m',M,rfl,hM⟩
theorem HistT.new {rooms:List Int}{ps:List (Addr × M4)}{H:Hp}{x b:Addr}{ls:List (Addr × L4)}{t:Tr} (nt:New H x b ls ps.length t) (gd:Good rooms.length (ps.map (·.2))) (hb:∀ l ∈ ls,l.2.s < rooms.length) (rm:∀ (w:Nat) (r:Int),rooms[w]?=some r->0<=r):HistT rooms (ps.map (·.2)) t []:=by
 have hk:∀ (n:Nat) L h,t.ls[n]?=some L->t.hs[n]?=some h->h.2=[((L.2.s:Int),L.2.a)]:=fun n L h eL eh=>by
  have e1:(t.hs.map (·.2))[n]?=some h.2:=by rw [zC,eh];rfl
  rw [nt.el] at eL
  rw [nt.eh,zC,eL] at e1
  exact (Option.some.inj e1).symm
 have hl:∀ (n:Nat) h,t.hs[n]?=some h->∃ L,t.ls[n]?=some L:=fun n h eh=>by
  have e1:=congrArg List.length nt.eh
  rw [zA,zA] at e1
  exact ⟨_,zE (by rw [nt.el,<- e1];exact (zB.mp eh).1)⟩
 refine ⟨fun n L h o eL eh eo=>?_,List.Pairwise.nil,fun p hp=>(by cases hp),fun i M hM=>?_,fun w r hr=>?_,fun n h eh w e ek=>?_,fun d hd=>(by cases hd),fun n h eh=>?_⟩
 ·have ek:=hk n L h eL eh
  have eo':o=begA L.2:=by
   rw [nt.el] at eL
   rw [nt.eo,zC,eL] at eo
   exact (Option.some.inj eo).symm
  refine ⟨fun w e he=>?_,?_,?_,fun y hy=>?_⟩
  ·rw [ek,wV] at he
   split at he
   ·rename_i z
    cases he
    exact ⟨yL _,z.symm,L.2.s,z.symm,rfl⟩
   ·cases he
  ·rw [eo']
   unfold begA whs
   by_cases c:L.2.s=L.2.w
   ·by_cases c2:L.2.a<=L.2.z
    ·rw [if_pos ⟨c,c2⟩,if_pos c];simp [c2]
    ·rw [if_neg (fun z=>c2 z.2),if_pos c];simp [c2]
   ·rw [if_neg (fun z=>c z.1),if_neg c];rfl
  ·unfold whs
   split
   ·exact zt _ _
   ·exact List.Pairwise.nil
  ·unfold whs at hy
   split at hy
   ·exact .inl (zI.mp hy)
   ·cases hy
 ·have:=gd.each M (zD hM)
  have hi:i < ps.length:=by have:=(zB.mp hM).1;simpa using this
  refine ⟨by rw [nt.en,yR,if_pos hi];rfl,?_⟩
  show ((0:Nat):Int)<=_;omega
 ·have:∀ n,bagTo (w:Int) t.ls t.hs n=[]:=fun n=>by
   induction n with
   | zero=>rfl
   | succ n ih=>
    unfold bagTo
    rw [ih,if_neg]
    ·rfl
    intro z
    cases eh:t.hs[n]? with
    | none=>rw [eh] at z;cases e1:t.ls[n]? <;> rw [e1] at z <;> exact absurd z (by unfold inBag;exact zG)
    | some h=>
     obtain ⟨L,eL⟩:=hl n h eh
     rw [eL,eh,inBag_eq,hk n L h eL eh,wV] at z
     have zz:=(zk _ _).mp z
     by_cases c:(L.2.s:Int)=w
     ·have:=zz.2
      unfold takB at this
      rw [<-c] at this;simp at this
     ·rw [if_neg c] at zz;cases zz.1
  rw [this]
  exact rm w r hr
 ·obtain ⟨L,eL⟩:=hl n h eh
  rw [hk n L h eL eh,wV] at ek
  split at ek
  ·rename_i z
   have:=hb L (by rw [<-nt.el];exact zD eL)
   omega
  ·cases ek
 ·obtain ⟨L,eL⟩:=hl n h eh
  rw [hk n L h eL eh];simp
end Sm
set_option Elab.async false
set_option linter.all false
set_option maxRecDepth 100000
set_option maxHeartbeats 400000
namespace Sm
open PySem L2 SmSort
theorem TrOk.butO {C:Addr}{H H':Hp}{t:Tr}{rooms:List Int}{tr tm:Addr}{ps:List (Addr × M4)} {n0:Nat} (k:TrOk C H t rooms tr tm ps n0) {p:Addr}{o:HO} (b:But p H H') (hp:H p=some o) (no:∀ xs,o ≠ .tup xs) (np:¬ (t.own p\/p=t.lL\/p=t.lH)):TrOk C H' t rooms tr tm ps n0:=by
 refine k.keep fun c u hc e=>b c u (fun z=>?_) e
 subst z
 rcases hc with h | h | h | ⟨ys,h⟩
 ·exact np (.inl h)
 ·exact np (.inr (.inl h))
 ·exact np (.inr (.inr h))
 ·rw [hp] at h;cases h;exact no _ rfl
def DsAt (H:Hp) (ys:List (Addr × Dd)):Prop:=∀ y ∈ ys,H y.1=some (.tup y.2.vs)
theorem DsAt.same {H H':Hp}{ys:List (Addr × Dd)} (h:DsAt H ys) (s:Same H H'):DsAt H' ys:=fun y hy=>s _ _ (h y hy)
end Sm
set_option Elab.async false
set_option linter.all false
set_option maxRecDepth 100000
set_option maxHeartbeats 400000
namespace Sm
open PySem L2 SmSort
open Classical in
theorem eqv_tup {K:PySem.W.Frag}{H:Hp}{n:Nat}{a c:Addr}{xs ys:List V} (ha:H a=some (.tup xs)) (hc:H c=some (.tup ys)) (l:xs.length=ys.length) (h:∀ (i:Nat) (x y:V),xs[i]?=some x->ys[i]?=some y->Eqv K H n x y true):Eqv K H (n + 1) (.ref a) (.ref c) true:=
 .inr (.inr ⟨a,c,xs,ys,fun _=>true,rfl,rfl,.inr ⟨SqT.of ha,SqT.of hc⟩,fun _=>rfl,by simp [l],h⟩)
theorem eqv_flat {K:PySem.W.Frag}{H:Hp}{n:Nat}{x:V} (f:flatV x=true) (e:eqV x x=true):Eqv K H n x x true:=by
 cases n with
 | zero=>exact .inr ⟨f,f,e.symm⟩
 | succ n=>exact .inr (.inl ⟨f,f,e.symm⟩)
end Sm
set_option Elab.async false
set_option linter.all false
set_option maxRecDepth 100000
set_option maxHeartbeats 400000
namespace L2
open PySem PySem.Spec PyProof.Rows
section
variable {X:Cx}{pos:Pos}
end
end L2
namespace Sm
open PySem L2 SmSort
theorem eqv_deed {K:PySem.W.Frag}{H:Hp}{n:Nat}{a c:Addr}{d:Dd} (ha:H a=some (.tup d.vs)) (hc:H c=some (.tup d.vs)):Eqv K H (n + 1) (.ref a) (.ref c) true:=by
 refine eqv_tup ha hc rfl fun i x y hx hy=>?_
 rw [hx] at hy;cases hy
 have hm:=zD hx
 have fl:∀ x ∈ d.vs,flatV x=true/\eqV x x=true:=fun x hx=>by
  cases d with
  | drop l w=>
   rcases zR.mp hx with rfl | hx
   ·exact ⟨rfl,by simp [eqV]⟩
   ·rcases zR.mp hx with rfl | hx
    ·exact ⟨rfl,decide_eq_true rfl⟩
    ·rcases zR.mp hx with rfl | hx
     ·exact ⟨rfl,decide_eq_true rfl⟩
     ·cases hx
  | pass gv m l g=>
   rcases zR.mp hx with rfl | hx
   ·exact ⟨rfl,by simp [eqV]⟩
   ·rcases zR.mp hx with rfl | hx
    ·exact ⟨rfl,decide_eq_true rfl⟩
    ·rcases zR.mp hx with rfl | hx
     ·exact ⟨rfl,decide_eq_true rfl⟩
     ·rcases zR.mp hx with rfl | hx
      ·exact ⟨rfl,decide_eq_true rfl⟩
      ·cases hx
 exact eqv_flat (fl x hm).1 (fl x hm).2
theorem eq_deeds {K:PySem.W.Frag}{H:Hp}{l d:Addr}{ys zs:List (Addr × Dd)}{Q:VK} (hl:H l=some (.lst (ys.map fun y=>V.ref y.1))) (hd:H d=some (.lst (zs.map fun z=>V.ref z.1))) (dy:DsAt H ys) (dz:DsAt H zs) (e:ys.map (·.2)=zs.map (·.2)) (q:Q (.bl true) H):rEqv K false (.ref l) (.ref d) H Q:=by
 refine ⟨1,l,d,_,_,fun _=>true,true,by decide,rfl,rfl,.inl ⟨SqL.of hl,SqL.of hd⟩,?_,fun i x y hx hy=>?_,q⟩
 ·have:=congrArg List.length e
  rw [zA,zA] at this
  simp [this]
 obtain ⟨u,h1,rfl⟩:=xz hx
 obtain ⟨v,h2,rfl⟩:=xz hy
 have eq:u.2=v.2:=by
  have:=congrArg (·[i]?) e
  simp only [zC,h1,h2,yS,Option.some.injEq] at this
  exact this
 have k1:=dy u (zD h1)
 have k2:=dz v (zD h2)
 rw [<-eq] at k2
 exact eqv_deed k1 k2
end Sm
namespace Sm
open PySem L2 SmSort
theorem newTr_len (ls:List (Addr × L4)) (m:Nat):(newTr ls m).hs.length=(newTr ls m).ls.length:=by show (ls.map _).length=_;rw [zA];rfl
end Sm
namespace Sm
open PySem L2 SmSort
section
variable {C:Addr} {H0 H:Hp}{t u:Tr}{rooms:List Int}{tr tm:Addr}{ps:List (Addr × M4)} {n0 n1:Nat}
end
end Sm
namespace Sm
open PySem L2 SmSort
end Sm
set_option Elab.async false
set_option linter.all false
set_option maxRecDepth 100000
set_option maxHeartbeats 400000
namespace L2
open PySem PySem.Spec PyProof.Rows
def tTry0 (ok:Value->Option Bool) (tb:XK->TS) (th:TS):TS:=fun D σ H=>
 tb (fun cls _ H'=>ok cls=some true/\∃ C,cls=Value.ref C/\th D σ H') D σ H
section
variable {X:Cx}{K:PySem.W.Frag}
theorem ps_try0 {body:List Stmt}{tb:XK->TS}{b₀:Stmt}{suite:List Stmt}{t:Expr}{hpos pos:Pos}{th:TS}{ok:Value->Option Bool} (hb:PSx X body tb) (hs:X.stack=X.env :: X.outer) (hf:X.env.frame=some X.env.locals)
  (ht:∀ (e:Addr) (pins:List (Addr × Obj)) (σ:St) (H:Hp) (s:Shared) (C:Addr) (Q:Bool->Shared->Prop) (E E':Value->Shared->Prop),Inv X pins σ H s->PySem.W.Looks (model X.prog X.w) s.heap (typeOf (.ref e)) (.ref C)->ok (.ref C)=some true ->
   (∀ h',(∀ b o,s.heap.get? b=some o->h'.get? b=some o)->Q true { s with heap:=h' })->wpAny (model X.prog X.w) (X.hand e).A (eval t X.env) (fun c s1=>wpAny (model X.prog X.w) (X.hand e).A (excMatches (.ref e) c) Q E' s1) E s)
  (hh:∀ e,PSs (X.hand e) (b₀ :: suite) th):PS X (.Try body [.ExceptHandler (some t) none (b₀ :: suite) hpos] [] [] pos) (tTry0 ok tb th):=by
 intro pins s σ H D I h
 refine wpAny_Try_except (thn (hb pins s σ H D _ _ I h ?_) fun f s1 q=>?_)
 ·intro H1 s1 e s' I1 ⟨a,cls,H',B,ee,x,nb,ff,hty,em,C,ec,q⟩
  subst ee ec
  have fr:X.A.frames=some (X.env :: X.outer):=by rw [<-hs];exact I1.ok.frames
  have ff1:=I1.stack
  rw [hs] at ff
  refine note_fly (cls:=.ref C) fr hf x.stays ⟨nb,ff,.inr (.inl hty)⟩ fun h2 k2 u2 l2 t2=>?_
  refine mark_fly (fo:=none) k2 l2 t2 fun h3 k3 u3 l3 t3=>?_
  have x3:=(x.step ff1 k2 u2).step ff1 k3 u3
  have J3:Inv X pins σ H' { s' with heap:=h3 }:=I1.call' (ch:=[]) x3.os x3.un x3.hok x3.bare (fun b z=>absurd z (by simp))
  obtain ⟨oe,vs,T,oT,ts,he,hc,_⟩:=id t3
  have LT:PySem.W.Looks (model X.prog X.w) h3 (typeOf (.ref a)) (.ref C):=hc ▸ (PySem.W.Looks.ld he).andThen .now
  refine wpAny_handleBy_cons (codeAny_handlers_test (ht a pins σ H' { s' with heap:=h3 } C _ _ _ J3 LT em fun h3' kk=>?_)) (by intro z;cases z)
  have k3':B.StaysIn h3':=fun b o e=>kk b o (k3 b o e)
  have l3':h3'.FunFrames B (X.env :: X.outer):=l3.of_keeps fun b o q _=>⟨o,kk b o q,rfl⟩
  have t3':TrD h3' B a (Value.ref C) ((none:Option Addr).elim Value.none fun f=>rawInt ↑f):=by
   obtain ⟨oe,vs,T,oT,ts,he,hc,hdc,hd,h1,hn,hne,hT,hdT,h3⟩:=t3
   exact ⟨oe,vs,T,oT,ts,kk _ _ he,hc,hdc,hd,h1,hn,hne,kk _ _ hT,hdT,h3⟩
  have x3':=x3.step ff1 k3' (PySem.Heap.UpToSlots.of_keeps kk)
  refine codeAny_handlers_suite (mark_fly (fo:=none) k3' l3' t3' fun h4 k4 u4 l4 t4=>?_)
  have x4:=x3'.step ff1 k4 u4
  have J4:Inv X pins σ H' { s' with heap:=h4 }:=I1.call' (ch:=[]) x4.os x4.un x4.hok x4.bare (fun b z=>absurd z (by simp))
  refine wpAny_mono (hh a pins _ _ _ _ (J4.hand a) q) (fun f s6 z=>?_) fun _ _ z=>z.elim
  cases f with
  | next=>obtain ⟨σ',H2,I6,q6⟩:=z;exact ⟨σ',H2,I6.unhand I.ok,q6⟩
  | brk=>obtain ⟨σ',H2,I6,q6⟩:=z;exact ⟨σ',H2,I6.unhand I.ok,q6⟩
  | cont=>obtain ⟨σ',H2,I6,q6⟩:=z;exact ⟨σ',H2,I6.unhand I.ok,q6⟩
  | ret u=>obtain ⟨v,σ',H2,I6,r6,q6⟩:=z;exact ⟨v,σ',H2,I6.unhand I.ok,r6,q6⟩
 ·cases f with
  | next=>exact wpAny_execs_nil q
  | brk=>exact q
  | cont=>exact q
  | ret u=>exact q
theorem ps_try3 {body:List Stmt}{tb:XK->TS}{b₀:Stmt}{suite:List Stmt} {y1 y2 y3:Str} {p1 p2 p3 tp hpos pos:Pos}{kk:Nat}{th:TS} {c1 c2 c3:Value} (hK:X.K=K) (hb:PSx X body tb) (hs:X.stack=X.env :: X.outer) (hf:X.env.frame=some X.env.locals)
  (g1:Gl X y1) (m1:X.mg y1=some c1) (g2:Gl X y2) (m2:X.mg y2=some c2) (g3:Gl X y3) (m3:X.mg y3=some c3) (hh:∀ e,PSs (X.hand e) (b₀ :: suite) th)
  (d1:(y1 == ("__debug__" : Str))=false:=by decide) (d2:(y2 == ("__debug__" : Str))=false:=by decide) (d3:(y3 == ("__debug__" : Str))=false:=by decide) :
  PS X (.Try body [.ExceptHandler (some (.Tuple [.Name y1 p1,.Name y2 p2,.Name y3 p3] kk tp)) none (b₀ :: suite) hpos] [] [] pos) (tTry0 (fun cls=>yi K cls [c1,c2,c3]) tb th):=by
 subst hK
 refine ps_try0 hb hs hf (fun e pins σ H s C Q E E' I LT em q=>?_) hh
 refine wpAny_Tuple ?_
 refine wpAny_items_cons (ld_glob (X:=X.hand e) (I.hand e) g1 m1 ?_ d1)
 refine wpAny_items_cons (ld_glob (X:=X.hand e) (I.hand e) g2 m2 ?_ d2)
 refine wpAny_items_cons (ld_glob (X:=X.hand e) (I.hand e) g3 m3 ?_ d3)
 refine wpAny_items_nil ⟨by show 3<=sizeLine;rw [sizeLine_eq];decide,?_⟩
 have kp:∀ q o,s.heap.get? q=some o->(s.heap.push { cls:=.type "tuple", data:=.seq [c1,c2,c3].toArray }).get? q=some o:=fun _ _ z=>Heap.get?_push_of_some _ z
 exact (PySem.W.exm_tup3 (I.kIn.keeps kp) (LT.keeps kp) (Heap.get?_push_size s.heap rfl) em).here (q _ kp)
theorem pe_two {e:Expr} {t1 t2:TE} (h1:PE X e t1) (h2:PE X e t2):PE X e (fun σ H Q=>t1 σ H Q\/t2 σ H Q):=by
 intro pins s σ H Q I h
 rcases h with h | h
 ·exact h1 pins s σ H Q I h
 ·exact h2 pins s σ H Q I h
end
end L2
set_option Elab.async false
set_option linter.all false
set_option maxRecDepth 100000
set_option maxHeartbeats 2000000
namespace L2
open PySem PySem.Spec PyProof.Rows
theorem lk_list_keys:typeLookup (.type "list") "keys" = pure none:=by rw [typeLookup_type,builtinLookup_eq_fast];kernel_rfl
section
variable {prog:Program}{w:World}{A:Around}{E:Value->Shared->Prop}{s:Shared}
theorem keys_miss {a:Addr}{o:Obj}{xs:Array Value}{k:Nat}{Q:Option Value->Shared->Prop}
  (hx:s.heap.get? a=some o) (hc:o.cls=.type "list") (hdat:o.data=.seq xs k) (hd:o.dict=none) (hA:A.handled=none)
  (h:∀ h' tk,(∀ b ob,s.heap.get? b=some ob->h'.get? b=some ob)->Q none { s with heap:=h',toks:=tk }):wpAny (model prog w) A (getAttr? (.ref a) "keys") Q E s:=by
 obtain ⟨c,dct,dat,sl⟩:=o
 simp only at hc hdat hd
 subst hc hdat hd
 obtain ⟨hp,g,d,tk,os⟩:=s
 have hT:∀ tk',(⟨hp,g,d,tk',os⟩:Shared).TypeIs (.ref a) "list" := fun _=>⟨_,hx,rfl⟩
 have f1:=sub_AttributeError
 have f3:=F.slot_list_getattribute.lookup
 have f4:=F.slot_list_getattribute.bind (.ref a)
 have f5:=am_list_getattr_none
 have hsz:(Str.ofString "keys").length + 100<=sizeLine:=by rw [sizeLine_eq];decide +kernel
 unfold getAttr? getAttrBy? getAttrBy
 repeat (any_goals (first | assumption | exact hT _ | ((with_reducible show wpAny _ _ (call (Value.builtin "list.__getattribute__") _ _) _ _ _);refine call_meets F.slot_list_getattribute (hT _) am_entry_list_getattribute (F.args_list_getattribute_2 _ _) (meets_getattribute_miss_list a xs k sl "keys" _ lk_list_keys (by decide +kernel) hsz) ⟨hx,hA,fun h' tk' e' hx'=>?_⟩) | wp_step))
 obtain ⟨t',u',he⟩:=hx'.there
 show wpAny _ _ (getattributeRaised _ _ _ _ _ _ _) _ _ _
 unfold getattributeRaised
 repeat (any_goals (first | assumption | wp_step))
 exact h _ _ hx'.keeps
theorem entry_dul:entryFor table "dict.update.loop" = some Builtin.«dict.update.loop»:=entryFor_of_tree (by kernel_rfl)
theorem plain_dul:plainId "dict.update.loop" = true:=by decide +kernel
theorem dul {K:Type} [DecidableEq K] {knd:KeyKind prog w K}{R:Result->Shared->Prop} (hA:A.handled=none) (dd it l:Addr) (items:Array Value) (ps:List (K × Value)) (hlen:ps.length=items.size) (hsz:items.size<=sizeLine)
  (hdi:dd ≠ it) (hld:l ≠ dd) (hli:l ≠ it) :
  ∀ (m i:Nat) (s:Shared) (kvs:List (K × Value)),m + i=items.size->kvs.length<=i->s.heap.IsList l items->s.heap.IsListIter it l i->s.heap.DictOf knd dd kvs ->
   (∀ i,i < items.size->∃ t key v k,items[i]?=some (.ref t)/\IsTup s.heap t #[key,v]/\ps[i]?=some (k,v)/\knd.is k key=true/\t ≠ dd/\t ≠ it) ->
   (∀ h' tk,h'.DictOf knd dd (merged kvs (ps.drop i))->(∀ b o,b ≠ dd->b ≠ it->s.heap.get? b=some o->h'.get? b=some o)->R (.ok (.ret .none)) { s with heap:=h',toks:=tk }) ->
   codeAny (model prog w) A (.builtin "dict.update.loop" ⟨[.ref dd,.ref it,rawInt i,.none],[]⟩) R s:=by
 intro m
 induction m with
 | zero=>
  intro i s kvs hm hk hl hit hd hitem hR
  refine codeAny_builtin entry_dul ?_
  rw [Around.under_plainId plain_dul]
  unfold Builtin.«dict.update.loop»
  show wpAny _ _ (pyNext (.ref it) >>= _) _ _ _
  refine wpAny_bind (wpAny_pyNext_list_end hA hit hl (Array.getElem?_eq_none (by omega)) fun h' eb=>?_)
  show wpAny _ _ (Builtin.Dict.addKeywords dd [] >>= _) _ _ _
  refine wpAny_bind (wpAny_pure (wpAny_pure ?_))
  refine hR h' s.toks ?_ (fun b o _ hb e=>eb b o hb e)
  rw [List.drop_of_length_le (by omega)]
  exact hd.extBut eb hdi
 | succ m ih=>
  intro i s kvs hm hk hl hit hd hitem hR
  refine codeAny_builtin entry_dul ?_
  rw [Around.under_plainId plain_dul]
  unfold Builtin.«dict.update.loop»
  show wpAny _ _ (pyNext (.ref it) >>= _) _ _ _
  obtain ⟨t,key,v,k,hx,ht,hp,hkey,ntd,nti⟩:=hitem i (by omega)
  refine wpAny_bind (wpAny_pyNext_list_item hit hl (x:=.ref t) hx fun h1 st1 sb1=>?_)
  try dsimp only
  have ht1:IsTup h1 t #[key,v]:=by
   obtain ⟨o,e,r⟩:=ht
   exact ⟨o,(sb1.2 t nti).trans e,r⟩
  refine wpAny_bind (wpAny_holding ?_)
  refine wpAny_bind (wpAny_tryCatch ?_)
  unfold Builtin.Dict.pairItems
  refine wpAny_bind (wpAny_typeOf (T := "tuple") ht1.typeIs ?_)
  rw [if_pos (by decide)]
  obtain ⟨ot,eo,ec,en,ed⟩:=id ht1
  refine wpAny_bind (wpAny_seqItems eo ed (wpAny_pure ?_))
  show wpAny _ _ (holding [key,v] (dictSet dd key v)) _ _ _
  have hd1:h1.DictOf knd dd kvs:=hd.at fun o e=>(sb1.2 dd hdi).trans e
  refine wpAny_holding (wpAny_dictSet_pairs hkey hd1 (fun h2 hd2 sb2=>?_) (by omega))
  refine wpAny_pure ⟨plainId_quiet plain_dul _,?_⟩
  have keep:∀ b o,b ≠ dd->b ≠ it->s.heap.get? b=some o->h2.get? b=some o:=fun b o n1 n2 e=>(sb2.2 b n1).trans ((sb1.2 b n2).trans e)
  have e1:(rawInt ((i:Int) + 1))=rawInt ((i + 1:Nat):Int):=by rw [Int.natCast_succ]
  have st:=ih (i + 1) { s with heap:=h2,toks:=s.toks + 1 } (stored kvs k v) (by omega) (zq (stored_length_le kvs k v) (by omega))
   (hl.at fun o e=>keep l o hld hli e) (by obtain ⟨o,e,r⟩:=st1;exact ⟨o,(sb2.2 it hdi.symm).trans e,r⟩) hd2
   (fun j hj=>by
    obtain ⟨t',key',v',k',q1,⟨o,e,r⟩,q3,q4,q5,q6⟩:=hitem j hj
    exact ⟨t',key',v',k',q1,⟨o,keep t' o q5 q6 e,r⟩,q3,q4,q5,q6⟩)
   (fun h' tk hd' kk=>by
    refine hR h' tk ?_ fun b o n1 n2 e=>kk b o n1 n2 (keep b o n1 n2 e)
    have ed':ps.drop i=(k,v) :: ps.drop (i + 1):=by
     have hi:i < ps.length:=by omega
     rw [List.drop_eq_getElem_cons hi]
     congr 1
     exact Option.some.inj ((zE hi).symm.trans hp)
    rw [ed']
    exact hd')
  show codeAny _ _ (.builtin "dict.update.loop" ⟨[.ref dd,.ref it,rawInt ((i:Int) + 1),.none],[]⟩) _ _
  rw [e1]
  exact st
theorem call_dict_pairs {K:Type} [DecidableEq K] {knd:KeyKind prog w K}{l:Addr}{ol:Obj}{items:Array Value}{nl:Nat}{ps:List (K × Value)}{Q:Value->Shared->Prop} (hA:A.handled=none)
  (hl:s.heap.get? l=some ol) (hc:ol.cls=.type "list") (hd:ol.data=.seq items nl) (hn:ol.dict=none) (hlen:ps.length=items.size) (hsz:items.size<=sizeLine)
  (hitem:∀ i,i < items.size->∃ t key v k,items[i]?=some (.ref t)/\IsTup s.heap t #[key,v]/\ps[i]?=some (k,v)/\knd.is k key=true)
  (h:∀ p h' tk,s.heap.objs.size<=p->h'.DictOf knd p (merged [] ps)->(∀ b o,s.heap.get? b=some o->h'.get? b=some o)->Q (.ref p) { s with heap:=h',toks:=tk }) :
  wpAny (model prog w) A (call (.type "dict") [.ref l]) Q E s:=by
 refine callType_codes (Q₁:=fun obj s₁=>obj=.ref s.heap.objs.size/\s₁={ s with heap:=s.heap.push { cls:=.type "dict", data:=.dict #[] } }) F.kt_called_dict (F.kt_typeCall_dict_1 _) F.entry_dict_init (kt_code_dict_new _ ⟨rfl,rfl⟩) ?_
 rintro obj s₁ ⟨rfl,rfl⟩
 have hnew:(s.heap.push { cls:=.type "dict", data:=.dict #[] }).DictOf knd s.heap.objs.size []:=Heap.DictOf.new s.heap
 have hl1:(s.heap.push { cls:=.type "dict", data:=.dict #[] }).get? l=some ol:=Heap.get?_push_of_some _ hl
 refine ⟨hnew.typeIs,F.args_dict_init_2 _ _,?_⟩
 unfold Builtin.«dict.__init__»
 refine wpAny_bind ?_
 unfold Builtin.Dict.selfAndRest
 refine wpAny_bind (wpAny_notOrdered_dict hnew.typeIs ?_)
 show wpAny _ _ (pure (s.heap.objs.size,[Value.ref l])) _ _ _
 refine wpAny_pure ?_
 show wpAny _ _ (Builtin.Dict.updateFrom "dict.__init__" s.heap.objs.size (.ref l) [] .none) _ _ _
 unfold Builtin.Dict.updateFrom
 refine wpAny_bind (wpAny_typeOf (T := "list") ⟨ol,hl1,hc⟩ ?_)
 rw [if_pos (by decide)]
 refine wpAny_bind (keys_miss hl1 hc hd hn hA fun h2 tk2 k2=>?_)
 rw [if_pos (show (none:Option Value).isNone=true from rfl)]
 refine wpAny_bind (wpAny_rule ?_)
 have hl2:h2.get? l=some ol:=k2 _ _ hl1
 have L2':h2.IsList l items:=⟨ol,hl2,hc,nl,hd⟩
 have hd2:h2.DictOf knd s.heap.objs.size []:=hnew.keep k2
 have lts:l < s.heap.objs.size:=Heap.lt_size hl
 have ltd:s.heap.objs.size < h2.objs.size:=by
  obtain ⟨o,_,_,e,_⟩:=hd2
  exact Heap.lt_size e
 refine wpAny_bind (wpAny_pyIter_list L2' ?_)
 refine wpAny_pure ⟨plainId_quiet plain_dul _,?_⟩
 refine dul (A:=A.in1) (knd:=knd) hA s.heap.objs.size h2.objs.size l items ps hlen hsz (zU ltd) (zU lts) (zU (Nat.lt_trans lts ltd)) items.size 0 _ [] (by omega) (zJ _)
  (L2'.push _) ⟨_,Heap.get?_push_size _ rfl,rfl,rfl⟩ (hd2.push _) (fun i hi=>?_) (fun h' tk hd' kk=>⟨rfl,h _ h' tk (zJ _) hd' fun b o e=>?_⟩)
 ·obtain ⟨t,key,v,k,q1,⟨o,e,r⟩,q3,q4⟩:=hitem i hi
  have:=Heap.lt_size e
  exact ⟨t,key,v,k,q1,⟨o,Heap.get?_push_of_some _ (k2 _ _ (Heap.get?_push_of_some _ e)),r⟩,q3,q4,zU this,zU (Nat.lt_trans this ltd)⟩
 ·have:=Heap.lt_size e
  exact kk b o (zU this) (zU (Nat.lt_trans this ltd)) (Heap.get?_push_of_some _ (k2 _ _ (Heap.get?_push_of_some _ e)))
end
section
variable {X:Cx}
def rDictP (K:PySem.W.Frag):List V->Hp->VK->Prop:=fun xs H Q=>∃ l,∃ ks:List (Addr × Int × V),xs=[.ref l]/\SqL K H l (ks.map fun k=>V.ref k.1)/\(∀ k ∈ ks,SqT K H k.1 [.int k.2.1,k.2.2]) /\
 ∀ p,H p=none->Q (.ref p) (upd H p (.dK (mergeK [] (ks.map fun k=>(.inl k.2.1,k.2.2)))))
theorem call_dictP {K:PySem.W.Frag} (hK:X.K=K) (hc:X.calm=true):CallR X (.type "dict") (rDictP K):=by
 subst hK
 intro pins s σ H xs us Q I r h
 obtain ⟨l,ks,rfl,hl,ht,q⟩:=h
 obtain ⟨u,rfl,ru⟩:=vals1 r
 cases ru
 obtain ⟨its,rv,pl,hz⟩:=I.list hl
 have mk:∀ ks:List (Addr × Int × V),(∀ k ∈ ks,SqT X.K H k.1 [.int k.2.1,k.2.2])->∃ ps:List (Key × Value),KV (ks.map fun k=>((Sum.inl k.2.1:Key),k.2.2)) ps/\ps.length=ks.length /\
   ∀ (i:Nat) k,ks[i]?=some k->∃ key v,IsTup s.heap k.1 #[key,v]/\ps[i]?=some (.inl k.2.1,v)/\(mixKind X.prog X.w).is (.inl k.2.1) key=true:=by
  intro ks
  induction ks with
  | nil=>intro _;exact ⟨[],.nil,rfl,fun i k h=>by cases h⟩
  | cons k ks ih=>
   intro h
   obtain ⟨ps,r1,r2,r3⟩:=ih fun k hk=>h k (.tail _ hk)
   obtain ⟨jts,rt,pt,_⟩:=I.tuple (h k (.head _))
   cases rt with
   | cons ra rb=>
    cases rb with
    | cons rb rc=>
     cases rc
     obtain ⟨tk,rfl⟩:=ra
     refine ⟨(.inl k.2.1,_) :: ps,.cons ⟨rfl,rb⟩ r1,by rw [zg,r2,zg],fun i k' hk=>?_⟩
     cases i with
     | zero=>cases hk;exact ⟨_,_,pt,rfl,mixKind_int _ _ _ _⟩
     | succ i=>exact r3 i k' hk
 obtain ⟨ps,hkv,hpl,hps⟩:=mk ks ht
 obtain ⟨ol,nl,e,hcl,hdn,hdat⟩:=pl
 have ll:=rv.length
 rw [zA] at ll
 refine call_dict_pairs (knd:=mixKind X.prog X.w) (ps:=ps) (I.ok.hd hc) e hcl hdat hdn (by rw [zQ];omega) (by rw [zQ,<- ll];rw [zA] at hz;exact hz) (fun i hi=>?_) (fun p h' tk hp hd' kk=>?_)
 ·rw [zQ,<- ll] at hi
  obtain ⟨key,v,q1,q2,q3⟩:=hps i ks[i] (zE hi)
  obtain ⟨u,hu,ru⟩:=rv.get (i:=i) (x:=V.ref ks[i].1) (by rw [zC,zE hi];rfl)
  cases ru
  exact ⟨ks[i].1,key,v,_,by simpa using hu,q1,q2,q3⟩
 ·have hlk:=length_mergeK (ks.map fun k=>((Sum.inl k.2.1:Key),k.2.2)) []
  rw [zA] at hlk hz
  have I1:=I.laid (a:=p) (o:=.dK (mergeK [] (ks.map fun k=>(.inl k.2.1,k.2.2)))) (h':=h') (t':=tk) kk hp ⟨zq hlk (by simpa using hz),?_,_,KV.merge hkv .nil,hd'⟩
  ·exact ⟨.ref p,_,I1,rfl,q p (I.hok.fresh hp)⟩
  ·exact beq_eq_false_iff_ne.mpr (yz (zV I.big hp))
end
end L2
set_option Elab.async false
set_option linter.all false
set_option maxRecDepth 100000
set_option maxHeartbeats 400000
namespace Sm
open PySem L2 SmSort
def spPassOn9 (C:Addr):Sp:=fun vs H Q _=>∃ t,∃ m l:Nat,∃ g M L rooms tr tm ps n0,vs=[.ref t.x,.int (m:Int),.int (l:Int),.int g]/\TrOk C H t rooms tr tm ps n0/\(ps.map (·.2))[m]?=some M/\t.ls[l]?=some L/\(g=M.lo\/g=M.hi)/\n0 < 100000 /\
 ∀ H',Keeps t H H'->TrOk C H' (t.passed m l M L.2 (othI M g)) rooms tr tm ps (n0 + 1)->Q .non H'
def spDo9 (C:Addr) (X:XC):Sp:=fun vs H Q E=>∃ t y rooms tr tm ps n0,vs=[.ref t.x,y]/\TrOk C H t rooms tr tm ps n0/\n0 < 100000/\((∃ d,DeedAt H y d/\(codeT rooms (ps.map (·.2)) t d=8->∀ H',Keeps t H H'->TrOk C H' (t.doneT (ps.map (·.2)) y d) rooms tr tm ps (n0 + 1)->Q .non H')/\(codeT rooms (ps.map (·.2)) t d ≠ 8->∀ H',Same H H'->E (.ref (X.of (codeT rooms (ps.map (·.2)) t d))) none H')) \/
 ∃ a xs,y=.ref a/\H a=some (.lst xs)/\E (.ref X.deed) none H)
def oAt (os:List (Option Int)) (w:Int):Option Int:=(os[w.toNat]?).join
def loneH (M:M4) (os:List (Option Int)):Option Int:=
 if (oAt os M.lo).isNone=(oAt os M.hi).isNone then none else if (oAt os M.lo).isNone=true then some M.hi else some M.lo
def spLoneH:Sp:=fun vs H Q _=>∃ b,∃ m:Nat,∃ row os M rooms tr tm ps,vs=[.ref b,.int (m:Int),.ref row]/\BookAt H b rooms tr tm ps/\Good rooms.length (ps.map (·.2))/\(ps.map (·.2))[m]?=some M/\H row=some (.lst (os.map oV))/\os.length=rooms.length/\Q (oV (loneH M os)) H
def spIsDone (C:Addr):Sp:=fun vs H Q _=>∃ t y d rooms tr tm ps n0,vs=[.ref t.x,y]/\TrOk C H t rooms tr tm ps n0/\n0 < 100000/\DeedAt H y d/\(codeT rooms (ps.map (·.2)) t d=4\/codeT rooms (ps.map (·.2)) t d=6\/codeT rooms (ps.map (·.2)) t d=7\/codeT rooms (ps.map (·.2)) t d=8) /\
 (codeT rooms (ps.map (·.2)) t d=8->∀ H',Keeps t H H'->TrOk C H' (t.doneT (ps.map (·.2)) y d) rooms tr tm ps (n0 + 1)->Q (.bl true) H')/\(codeT rooms (ps.map (·.2)) t d ≠ 8->∀ H',Same H H'->Q (.bl false) H')
def tmsOf (n:Nat) (kv:List (Int × Int)):List (Option Int):=(List.range n).map fun w:Nat=>kvget kv (w:Int)
def spTimesOf:Sp:=fun vs H Q _=>∃ b l,∃ qs:List (Addr × List Int),∃ kv rooms tr tm ps,vs=[.ref b,.ref l]/\BookAt H b rooms tr tm ps/\rooms.length<=12/\H l=some (.lst (qs.map fun a=>V.ref a.1))/\(∀ a ∈ qs,H a.1=some (.tup (a.2.map V.int)))/\(qs.map (·.2)).Perm (kv.map fun p=>[p.1,p.2])/\(kv.map (·.1)).Nodup /\
 ∀ p H',Same H H'->H p=none->H' p=some (.lst ((tmsOf rooms.length kv).map oV))->Q (.ref p) H'
def RuleAt (CA CH CN:Addr) (H:Hp) (r:Addr) (n:Nat):Prop:=(∃ dx,H r=some (.ins CA dx []))\/(∃ k,HalfAt CH H r k/\1<=k/\k<=64)\/∃ pb rooms tr tm ps,NearAt CN H r pb/\BookAt H pb rooms tr tm ps/\rooms.length=n/\ps.length<=1000
def OsOk (t:Tr):Prop:=∀ (n:Nat) L h o,t.ls[n]?=some L->t.hs[n]?=some h->t.os[n]?=some o->o=(kvget h.2 (L.2.w:Int)).filter fun e=>decide (e<=L.2.z)
def kvAll (acc:List (Int × Int)) (more:List (Int × Int)):List (Int × Int):=more.foldl (fun a p=>kvput a p.1 p.2) acc
theorem kv_iff {kv:List (Int × Int)} (nd:(kv.map (·.1)).Nodup) {w e:Int}:kvget kv w=some e ↔ (w,e) ∈ kv:=by
 constructor
 ·intro h
  unfold kvget at h
  cases f:kv.find? fun a=>decide (a.1=w) with
  | none=>rw [f] at h;cases h
  | some p=>
   rw [f] at h
   have e1:=Option.some.inj h
   have e0:decide (p.1=w)=true:=List.find?_some (p:=fun a:Int × Int=>decide (a.1=w)) f
   have e2:=of_decide_eq_true e0
   have m:=List.mem_of_find?_eq_some f
   obtain ⟨p1,p2⟩:=p
   cases e1;cases e2;exact m
 ·intro h;exact kvget_mem nd (w,e) h
theorem kvget_all:∀ {more acc:List (Int × Int)}{w:Int},(more.map (·.1)).Nodup->kvget (kvAll acc more) w=match kvget more w with | some e=>some e | none=>kvget acc w
 | [],acc,w,_=>rfl
 | p :: more,acc,w,nd=>by
  have nd':=yT.mp nd
  show kvget (kvAll (kvput acc p.1 p.2) more) w=_
  rw [kvget_all nd'.2,kvget_put]
  by_cases h:w=p.1
  ·subst h
   have e0:kvget more p.1=none:=by
    cases e:kvget more p.1 with
    | none=>rfl
    | some x=>exact absurd (zM.mpr ⟨_,(kv_iff nd'.2).mp e,rfl⟩) nd'.1
   have e1:kvget (p :: more) p.1=some p.2:=kvget_mem nd p (.head _)
   rw [e0,e1,if_pos rfl]
  ·have e1:kvget (p :: more) w=kvget more w:=by
    unfold kvget
    rw [yU,decide_eq_false (fun z=>h z.symm)]
   rw [e1,if_neg h]
theorem merge_kv:∀ (more acc:List (Int × Int)),mergeK (kvV acc) (more.map fun p=>(Sum.inl p.1,V.int p.2))=kvV (kvAll acc more)
 | [],acc=>rfl
 | p :: more,acc=>by
  show mergeK (putK (kvV acc) (Sum.inl p.1) (V.int p.2)) (more.map fun p=>(Sum.inl p.1,V.int p.2))=_
  rw [putK_kv,merge_kv more];rfl
theorem kvget_perm {k1 k2:List (Int × Int)} (p:k1.Perm k2) (nd:(k2.map (·.1)).Nodup) (w:Int):kvget k1 w=kvget k2 w:=by
 have nd1:(k1.map (·.1)).Nodup:=((p.map (·.1)).nodup_iff).mpr nd
 cases e:kvget k1 w with
 | some x=>exact ((kv_iff nd).mpr (p.mem_iff.mp ((kv_iff nd1).mp e))).symm
 | none=>
  cases e2:kvget k2 w with
  | none=>rfl
  | some x=>rw [(kv_iff nd1).mpr (p.mem_iff.mpr ((kv_iff nd).mp e2))] at e;cases e
section
variable {CA CH CN:Addr}{H:Hp}{r:Addr}{n:Nat}{σ:St}{i:Nat}{Q:VK} {E1 E2 E3:XK}
end
def TokOk (n:Nat) (t:Tr) (ts:List (Addr × List (Option Int))):Prop:=ts.length=t.ls.length/\∀ (j:Nat) x h,ts[j]?=some x->t.hs[j]?=some h->x.2.length=n/\(∀ w:Nat,w < n->(oAt x.2 (w:Int)).isSome=(kvget h.2 (w:Int)).isSome)/\∀ w v,oAt x.2 w=some v->0<=v/\v<=64
theorem lone_code {rooms:List Int}{ms:List M4}{t:Tr}{m j:Nat}{M:M4}{x:Addr × List (Option Int)}{h:Addr × List (Int × Int)}{L:Addr × L4}{g:Int} (gd:Good rooms.length ms) (lh:t.hs.length=t.ls.length) (hM:ms[m]?=some M) (hr:t.r<=m) (hL:t.ls[j]?=some L) (hh:t.hs[j]?=some h)
  (hx:∀ w:Nat,w < rooms.length->(oAt x.2 (w:Int)).isSome=(kvget h.2 (w:Int)).isSome) (hg:loneH M x.2=some g) :
  (g=M.lo\/g=M.hi)/\(oAt x.2 g).isSome=true/\(oAt x.2 (othI M g)).isSome=false/\(codeT rooms ms t (.pass false (m:Int) (j:Int) g)=4\/codeT rooms ms t (.pass false (m:Int) (j:Int) g)=6\/codeT rooms ms t (.pass false (m:Int) (j:Int) g)=7\/codeT rooms ms t (.pass false (m:Int) (j:Int) g)=8):=by
 have ge:=gd.each M (zD hM)
 have key:(g=M.lo\/g=M.hi)/\(oAt x.2 g).isSome=true/\(oAt x.2 (othI M g)).isSome=false:=by
  unfold loneH at hg
  split at hg
  ·cases hg
  ·rename_i c1
   split at hg
   ·rename_i c2
    cases hg
    have o1:othI M M.hi=M.lo:=by unfold othI;rw [if_neg (by omega)]
    rw [o1]
    cases e1:oAt x.2 M.lo with
    | some z=>rw [e1] at c2;cases c2
    | none=>
     cases e2:oAt x.2 M.hi with
     | none=>rw [e1,e2] at c1;exact absurd rfl c1
     | some z=>exact ⟨.inr rfl,rfl,rfl⟩
   ·rename_i c2
    cases hg
    have o1:othI M M.lo=M.hi:=by unfold othI;rw [if_pos rfl]
    rw [o1]
    cases e1:oAt x.2 M.lo with
    | none=>rw [e1] at c2;exact absurd rfl c2
    | some z=>
     cases e2:oAt x.2 M.hi with
     | some y=>rw [e1,e2] at c1;exact absurd rfl c1
     | none=>exact ⟨.inl rfl,rfl,rfl⟩
 refine ⟨key.1,key.2.1,key.2.2,?_⟩
 have hm:=(zB.mp hM).1
 have hj:=(zB.mp hL).1
 have ob:0<=othI M g/\othI M g < rooms.length:=by unfold othI;split <;> omega
 obtain ⟨ow,eow⟩:=zO ob.1
 have nk:(kvget h.2 (othI M g)).isSome=false:=by
  rw [eow,<- hx ow (by omega),<- eow];exact key.2.2
 show codeP rooms ms t (m:Int) (j:Int) g=4\/_\/_\/_
 show codeP rooms ms t (m:Int) (j:Int) g=4\/codeP rooms ms t (m:Int) (j:Int) g=6\/codeP rooms ms t (m:Int) (j:Int) g=7\/codeP rooms ms t (m:Int) (j:Int) g=8
 unfold codeP
 rw [if_pos ⟨by omega,by omega,hr⟩,if_pos ⟨by omega,by omega⟩,zF,zF,hM,hL,hh]
 dsimp only
 unfold codeP2
 rw [if_pos key.1,nk]
 split
 ·rw [if_neg zG]
  split
  ·exact .inr (.inl rfl)
  ·split
   ·exact .inr (.inr (.inl rfl))
   ·exact .inr (.inr (.inr rfl))
 ·exact .inl rfl
theorem oAt_set {os:List (Option Int)}{w v:Int}{o:Option Int} (w0:0<=w) (w1:w < os.length) (v0:0<=v):oAt (os.set w.toNat o) v=if v=w then o else oAt os v:=by
 unfold oAt
 rw [zZ]
 by_cases z:v=w
 ·subst z;rw [if_pos rfl,if_pos rfl,if_pos (by omega)];rfl
 ·rw [if_neg (by omega),if_neg z]
theorem TokOk.step {rooms:List Int}{ms:List M4}{t:Tr}{m j:Nat}{M:M4}{x:Addr × List (Option Int)}{ts:List (Addr × List (Option Int))}{g:Int}{y:V}{sv gvv:Int} (gd:Good rooms.length ms) (lh:t.hs.length=t.ls.length) (k:TokOk rooms.length t ts) (hM:ms[m]?=some M) (hx:ts[j]?=some x) (hg:g=M.lo\/g=M.hi) (eg:oAt x.2 g=some gvv)
  (c:codeT rooms ms t (.pass false (m:Int) (j:Int) g)=8) (s0:0<=sv/\sv<=gvv) (g64:gvv<=64) :
  TokOk rooms.length (t.doneT ms y (.pass false (m:Int) (j:Int) g)) (ts.set j (x.1,(x.2.set (othI M g).toNat (some sv)).set g.toNat (some (gvv - sv)))):=by
 have ge:=gd.each M (zD hM)
 obtain ⟨n,h,en,ln,hh,ehs⟩:=doneT_hs lh y c
 obtain rfl:n=j:=by have:(j:Int)=n:=en;omega
 have ad:=doneT_ad t ms y (.pass false (m:Int) (n:Int) g)
 obtain ⟨lx,kx,vx⟩:=k.2 n x h hx hh
 have ob:0<=othI M g/\othI M g < rooms.length/\othI M g ≠ g:=by unfold othI;split <;> omega
 have gb:0<=g/\g < rooms.length:=by omega
 have lset:(x.2.set (othI M g).toNat (some sv)).length=rooms.length:=by rw [z8];exact lx
 refine ⟨by rw [z8,ad.ls];exact k.1,fun i z h' hz hh'=>?_⟩
 have eh':some h'.2=((t.hs.map (·.2)).set n (kvNext ms h.2 (.pass false (m:Int) (n:Int) g)))[i]?:=by rw [<-ehs,zC,hh'];rfl
 rw [zZ] at hz eh'
 by_cases e:n=i
 ·subst e
  rw [if_pos rfl,if_pos (zB.mp hx).1] at hz
  rw [if_pos rfl,if_pos (by rw [zA,lh];exact ln)] at eh'
  cases hz
  have e2:=Option.some.inj eh'
  have kn:kvNext ms h.2 (.pass false (m:Int) (n:Int) g)=kvput h.2 (othI M g) M.t:=by
   unfold kvNext;dsimp only;rw [zF,hM];rfl
  rw [kn] at e2
  have ev:∀ w:Int,0<=w->oAt ((x.2.set (othI M g).toNat (some sv)).set g.toNat (some (gvv - sv))) w=if w=g then some (gvv - sv) else if w=othI M g then some sv else oAt x.2 w:=fun w w0=>by
   rw [oAt_set gb.1 (by rw [lset];exact gb.2) w0,oAt_set ob.1 (by rw [lx];exact ob.2.1) w0]
  refine ⟨by show (List.set _ _ _).length=_;rw [z8];exact lset,fun w hw=>?_,fun w v hv=>?_⟩
  ·rw [e2,kvget_put]
   show (oAt ((x.2.set (othI M g).toNat (some sv)).set g.toNat (some (gvv - sv))) (w:Int)).isSome=_
   rw [ev _ (by omega)]
   by_cases c1:(w:Int)=g
   ·rw [if_pos c1,if_neg (by omega),<- kx w hw,c1,eg];rfl
   ·rw [if_neg c1]
    by_cases c2:(w:Int)=othI M g
    ·rw [if_pos c2,if_pos c2];rfl
    ·rw [if_neg c2,if_neg c2];exact kx w hw
  ·have hv':oAt ((x.2.set (othI M g).toNat (some sv)).set g.toNat (some (gvv - sv))) w=some v:=hv
   by_cases w0:0<=w
   ·rw [ev w w0] at hv'
    split at hv'
    ·cases hv';omega
    ·split at hv'
     ·cases hv';omega
     ·exact vx w v hv'
   ·have e0:w.toNat=(0:Int).toNat:=by omega
    have:oAt ((x.2.set (othI M g).toNat (some sv)).set g.toNat (some (gvv - sv))) 0=some v:=by rw [<-hv'];unfold oAt;rw [e0]
    rw [ev 0 (by decide)] at this
    split at this
    ·cases this;omega
    ·split at this
     ·cases this;omega
     ·exact vx 0 v this
 ·rw [if_neg e] at hz eh'
  rw [zC] at eh'
  obtain ⟨h0,e0⟩:∃ h0,t.hs[i]?=some h0:=by
   cases z:t.hs[i]? with
   | none=>rw [z] at eh';cases eh'
   | some h0=>exact ⟨h0,rfl⟩
  rw [e0] at eh'
  rw [show h'.2=h0.2 from Option.some.inj eh']
  exact k.2 i z h0 hz e0
theorem OsOk.step {rooms:List Int}{ms:List M4}{t:Tr}{m j:Nat}{g:Int}{y:V} (lh:t.hs.length=t.ls.length) (k:OsOk t) (c:codeT rooms ms t (.pass false (m:Int) (j:Int) g)=8):OsOk (t.doneT ms y (.pass false (m:Int) (j:Int) g)):=by
 obtain ⟨m',l',M,L,h,em,el,hM,hL,hh,hr,hg,hb,ho,hc⟩:=codeP8 lh c
 obtain rfl:m'=m:=by omega
 obtain rfl:l'=j:=by omega
 obtain ⟨n,h2,en,ln,hh2,ehs⟩:=doneT_hs lh y c
 obtain rfl:n=l':=by have:(l':Int)=n:=en;omega
 rw [hh] at hh2;cases hh2
 obtain ⟨d1,d2,d3⟩:=doneT_pass (t:=t) (gv:=false) (g:=g) (y:=y) hM hL
 have ad:=doneT_ad t ms y (.pass false (m':Int) (n:Int) g)
 intro i L' h' o eL eh eo
 rw [ad.ls] at eL
 rw [d1,noteA_at] at eo
 have eh':some h'.2=((t.hs.map (·.2)).set n (kvNext ms h.2 (.pass false (m':Int) (n:Int) g)))[i]?:=by rw [<-ehs,zC,eh];rfl
 rw [zZ] at eh'
 by_cases e:n=i
 ·subst e
  rw [hL] at eL;cases eL
  rw [if_pos rfl,if_pos (by rw [zA,lh];exact ln)] at eh'
  have kn:kvNext ms h.2 (.pass false (m':Int) (n:Int) g)=kvput h.2 (othI M g) M.t:=by
   unfold kvNext;dsimp only;rw [zF,hM];rfl
  rw [kn] at eh'
  rw [Option.some.inj eh',kvget_put]
  cases e1:t.os[n]? with
  | none=>rw [e1] at eo;split at eo <;> rename_i z <;> first | (exact absurd z.2.2.2 (by simp)) | cases eo
  | some o1=>
   have ok:=k n L h o1 hL hh e1
   rw [e1] at eo
   by_cases c1:(L.2.w:Int)=othI M g
   ·rw [if_pos c1]
    rw [c1] at ok
    have none1:kvget h.2 (othI M g)=none:=by
     cases z:kvget h.2 (othI M g) with
     | none=>rfl
     | some q=>rw [z] at ho;cases ho
    rw [none1] at ok
    by_cases c2:M.t<=L.2.z
    ·rw [if_pos ⟨rfl,c1.symm,c2,by rw [ok];rfl⟩] at eo
     cases eo
     simp [Option.filter,c2]
    ·rw [if_neg (fun z=>c2 z.2.2.1)] at eo
     cases eo
     rw [ok];simp [Option.filter,c2]
   ·rw [if_neg c1]
    rw [if_neg (fun z=>c1 z.2.1.symm)] at eo
    cases eo;exact ok
 ·rw [if_neg e,zC] at eh'
  rw [if_neg (fun z=>e z.1)] at eo
  obtain ⟨h0,e0⟩:∃ h0,t.hs[i]?=some h0:=by
   cases z:t.hs[i]? with
   | none=>rw [z] at eh';cases eh'
   | some h0=>exact ⟨h0,rfl⟩
  rw [e0] at eh'
  rw [show h'.2=h0.2 from Option.some.inj eh']
  exact k i L' h0 o eL e0 eo
theorem oAt_rep {n:Nat}{f:Fn}{w:Nat} (h:w < n):oAt (rep n f) (w:Int)=f w:=by
 unfold oAt rep
 rw [zF,zC,List.getElem?_range h];rfl
theorem TokOk.new {n:Nat}{ls:List (Addr × L4)}{t:Tr}{ts:List (Addr × List (Option Int))} (el:t.ls=ls) (eh:t.hs.map (·.2)=ls.map fun l=>[((l.2.s:Int),l.2.a)]) (lts:ts.length=ls.length) (ats:∀ (j:Nat) x L,ts[j]?=some x->ls[j]?=some L->∃ v:Int,0<=v/\v<=64/\x.2=rep n (lone L.2.s v)):TokOk n t ts:=by
 refine ⟨by rw [lts,el],fun j x h hx hh=>?_⟩
 obtain ⟨L,hL⟩:∃ L,ls[j]?=some L:=⟨_,zE (by rw [<-lts];exact (zB.mp hx).1)⟩
 have e1:h.2=[((L.2.s:Int),L.2.a)]:=by
  have:=congrArg (·[j]?) eh
  simp only [zC,hh,hL,yS,Option.some.injEq] at this
  exact this
 obtain ⟨v,v0,v64,ex⟩:=ats j x L hx hL
 rw [ex,e1]
 refine ⟨by unfold rep;rw [zA,zv],fun w hw=>?_,fun w z hz=>?_⟩
 ·rw [oAt_rep hw,wV]
  unfold lone
  by_cases c:w=L.2.s
  ·rw [if_pos c,if_pos (by omega)];rfl
  ·rw [if_neg c,if_neg (by omega)]
 ·have hz':oAt (rep n (lone L.2.s v)) ((w.toNat:Nat):Int)=some z:=by rw [<-hz];unfold oAt;rw [zF]
  by_cases hw:w.toNat < n
  ·rw [oAt_rep hw] at hz'
   unfold lone at hz'
   split at hz'
   ·cases hz';exact ⟨v0,v64⟩
   ·cases hz'
  ·unfold oAt at hz'
   rw [zp (by unfold rep;rw [zA,zv,zF];omega)] at hz'
   cases hz'
theorem OsOk.new {H:Hp}{x b:Addr}{ls:List (Addr × L4)}{m:Nat}{t:Tr} (nt:New H x b ls m t):OsOk t:=by
 intro n L h o eL eh eo
 rw [nt.el] at eL
 have e1:h.2=[((L.2.s:Int),L.2.a)]:=by
  have:=congrArg (·[n]?) nt.eh
  simp only [zC,eh,eL,yS,Option.some.injEq] at this
  exact this
 rw [nt.eo,zC,eL] at eo
 have e2:o=begA L.2:=(Option.some.inj eo).symm
 rw [e1,e2]
 by_cases c:L.2.s=L.2.w
 ·have k1:kvget [((L.2.s:Int),L.2.a)] (L.2.w:Int)=some L.2.a:=by rw [wV,if_pos (by omega)]
  rw [k1]
  unfold begA
  by_cases c2:L.2.a<=L.2.z
  ·rw [if_pos ⟨c,c2⟩];simp [Option.filter,c2]
  ·rw [if_neg (fun z=>c2 z.2)];simp [Option.filter,c2]
 ·have k1:kvget [((L.2.s:Int),L.2.a)] (L.2.w:Int)=none:=by rw [wV,if_neg (by omega)]
  rw [k1]
  unfold begA
  rw [if_neg (fun z=>c z.1)];rfl
theorem List.set_getElem?_self' {α:Type}{xs:List α}{j:Nat}{x:α} (h:xs[j]?=some x):xs.set j x=xs:=by
 refine yg fun i=>?_
 rw [zZ]
 by_cases e:j=i
 ·subst e;rw [if_pos rfl,if_pos (zB.mp h).1,h]
 ·rw [if_neg e]
structure RunF (H0:Hp) (t0:Tr) (tl:Addr) (as:List Addr):Prop where
 ft:∀ c,t0.own c->H0 c=none
 nt:¬ (t0.own tl\/tl=t0.lL\/tl=t0.lH)
 na:∀ c ∈ as,¬ (t0.own c\/c=t0.lL\/c=t0.lH)
 fa:∀ c ∈ as,H0 c=none
 ntl:tl ∉ as
 nd:as.Nodup
structure RunI (C:Addr) (H0 H:Hp) (t0:Tr) (tl:Addr) (as:List Addr) (t:Tr) (ts:List (Addr × List (Option Int))) (ys:List (Addr × Dd)) (rooms:List Int) (tr tm:Addr) (ps:List (Addr × M4)) (ls:List (Addr × L4)) (m:Nat):Prop where
 sm:Same H0 H
 kt:TrOk C H t rooms tr tm ps (ys.length + 1)
 ad:SameAd t0 t
 rr:t.r<=m
 hist:HistT rooms (ps.map (·.2)) t (ys.map (·.2))
 oso:OsOk t
 tok:TokOk rooms.length t ts
 tw:Twin t (runT (ps.map (·.2)) (newTr ls ps.length) ys)
 rok:RunOk rooms (ps.map (·.2)) (newTr ls ps.length) ys
 eds:t.ds=ys.map fun y=>V.ref y.1
 dsa:DsAt H ys
 ktl:H tl=some (.lst (ts.map fun x=>V.ref x.1))
 kts:∀ x ∈ ts,H x.1=some (.lst (x.2.map oV))
 ea:ts.map (·.1)=as
section
variable {C:Addr} {H0 H H':Hp} {t0 t:Tr}{tl:Addr}{as:List Addr}{ts:List (Addr × List (Option Int))}{ys:List (Addr × Dd)}{rooms:List Int}{tr tm:Addr}{ps:List (Addr × M4)}{ls:List (Addr × L4)}{m:Nat}
theorem RunI.same (w:RunI C H0 H t0 tl as t ts ys rooms tr tm ps ls m) (s:Same H H'):RunI C H0 H' t0 tl as t ts ys rooms tr tm ps ls m:=
 ⟨w.sm.trans s,w.kt.same s,w.ad,w.rr,w.hist,w.oso,w.tok,w.tw,w.rok,w.eds,w.dsa.same s,s _ _ w.ktl,fun x hx=>s _ _ (w.kts x hx),w.ea⟩
theorem RunI.mono (w:RunI C H0 H t0 tl as t ts ys rooms tr tm ps ls m) {m':Nat} (l:m<=m'):RunI C H0 H t0 tl as t ts ys rooms tr tm ps ls m':=
 ⟨w.sm,w.kt,w.ad,(by have:=w.rr;omega),w.hist,w.oso,w.tok,w.tw,w.rok,w.eds,w.dsa,w.ktl,w.kts,w.ea⟩
theorem RunI.step (f:RunF H0 t0 tl as) (w:RunI C H0 H t0 tl as t ts ys rooms tr tm ps ls m) {j:Nat}{M:M4}{x:Addr × List (Option Int)}{g gvv sv:Int}{ya:Addr} {HB H9:Hp} (hM:(ps.map (·.2))[m]?=some M) (hx:ts[j]?=some x) (hg:g=M.lo\/g=M.hi) (eg:oAt x.2 g=some gvv) (s0:0<=sv/\sv<=gvv) (g64:gvv<=64)
  (c:codeT rooms (ps.map (·.2)) t (.pass false (m:Int) (j:Int) g)=8) (kp:Keeps t H HB) (kB:TrOk C HB (t.doneT (ps.map (·.2)) (.ref ya) (.pass false (m:Int) (j:Int) g)) rooms tr tm ps (ys.length + 1 + 1)) (hy:H ya=some (.tup (Dd.pass false (m:Int) (j:Int) g).vs))
  (b9:But x.1 HB H9) (h9:H9 x.1=some (.lst (((x.2.set (othI M g).toNat (some sv)).set g.toNat (some (gvv - sv))).map oV))) :
  RunI C H0 H9 t0 tl as (t.doneT (ps.map (·.2)) (.ref ya) (.pass false (m:Int) (j:Int) g)) (ts.set j (x.1,(x.2.set (othI M g).toNat (some sv)).set g.toNat (some (gvv - sv)))) (ys ++ [(ya,.pass false (m:Int) (j:Int) g)]) rooms tr tm ps ls m:=by
 have gd:=w.kt.gd
 have adT:=doneT_ad t (ps.map (·.2)) (.ref ya) (.pass false (m:Int) (j:Int) g)
 have ad':SameAd t0 (t.doneT (ps.map (·.2)) (.ref ya) (.pass false (m:Int) (j:Int) g)):=⟨adT.x.trans w.ad.x,adT.b.trans w.ad.b,adT.lL.trans w.ad.lL,adT.lH.trans w.ad.lH,adT.lA.trans w.ad.lA,adT.lP.trans w.ad.lP,adT.lD.trans w.ad.lD,adT.ls.trans w.ad.ls,adT.hs.trans w.ad.hs⟩
 have xm:=zD hx
 have xa:x.1 ∈ as:=by rw [<-w.ea];exact zM.mpr ⟨x,xm,rfl⟩
 have nx:=f.na x.1 xa
 have nxT:¬ ((t.doneT (ps.map (·.2)) (.ref ya) (.pass false (m:Int) (j:Int) g)).own x.1\/x.1=(t.doneT (ps.map (·.2)) (.ref ya) (.pass false (m:Int) (j:Int) g)).lL\/x.1=(t.doneT (ps.map (·.2)) (.ref ya) (.pass false (m:Int) (j:Int) g)).lH):=by rw [ad'.own,ad'.lL,ad'.lH];exact nx
 have own:∀ c,t.own c ↔ t0.own c:=fun c=>w.ad.own c
 have ntl':¬ t.own tl:=fun z=>f.nt (.inl ((own tl).mp z))
 have nrow:∀ z ∈ ts,¬ t.own z.1:=fun z hz h=>f.na z.1 (by rw [<-w.ea];exact zM.mpr ⟨z,hz,rfl⟩) (.inl ((own _).mp h))
 have kx:HB x.1=some (.lst (x.2.map oV)):=kp _ _ (nrow x xm) (w.kts x xm)
 have tuB:Tups H HB:=fun c xs e=>kp c _ (fun z=>by obtain ⟨o,ho,no⟩:=w.kt.there (.inl z);rw [e] at ho;cases ho;exact no _ rfl) e
 have tu9:Tups HB H9:=fun c xs e=>b9 _ _ (wK e kx (by intro z;cases z)) e
 obtain ⟨d1,d2,d3⟩:(t.doneT (ps.map (·.2)) (.ref ya) (.pass false (m:Int) (j:Int) g)).r=m/\True/\True:=by
  obtain ⟨m',l',M',L,h,em,el,hM',hL,_⟩:=codeP8 w.kt.lh c
  obtain rfl:m'=m:=by omega
  obtain rfl:l'=j:=by omega
  exact ⟨(doneT_pass (t:=t) (gv:=false) (g:=g) (y:=.ref ya) hM' hL).2.2,trivial,trivial⟩
 have sm9:Same H0 H9:=fun c o e=>b9 c o (fun z=>by rw [z,f.fa _ xa] at e;cases e) (kp c o (fun z=>by rw [f.ft c ((own c).mp z)] at e;cases e) (w.sm c o e))
 have ly:(ys ++ [(ya,Dd.pass false (m:Int) (j:Int) g)]).length=ys.length + 1:=by rw [zT];rfl
 have ntx:tl ≠ x.1:=fun z=>f.ntl (by rw [z];exact xa)
 refine ⟨sm9,?_,ad',by rw [d1];exact yL _,?_,w.oso.step w.kt.lh c,w.tok.step gd w.kt.lh hM hx hg eg c s0 g64,?_,w.rok.snoc (by rw [<-w.tw.code];exact c),?_,fun y hy'=>?_,?_,fun z hz=>?_,?_⟩
 ·rw [ly];exact kB.butO b9 kx (by intro _ z;cases z) nxT
 ·rw [zN];exact w.hist.step w.kt c
 ·rw [runT_snoc];exact w.tw.done _
 ·rw [doneT_ds,w.eds,zN];rfl
 ·rcases zW.mp hy' with h1 | h1
  ·exact tu9 _ _ (tuB _ _ (w.dsa y h1))
  ·rw [zI.mp h1];exact tu9 _ _ (tuB _ _ hy)
 ·rw [zw]
  have e1:(ts.map fun x=>V.ref x.1).set j (V.ref x.1)=ts.map fun x=>V.ref x.1:=by
   refine List.set_getElem?_self' ?_
   rw [zC,hx];rfl
  show H9 tl=some (.lst ((ts.map fun x=>V.ref x.1).set j (V.ref x.1)))
  rw [e1]
  exact b9 _ _ ntx (kp _ _ ntl' w.ktl)
 ·by_cases e:z.1=x.1
  ·have ez:z=(x.1,(x.2.set (othI M g).toNat (some sv)).set g.toNat (some (gvv - sv))):=by
    obtain ⟨i,hi⟩:=List.getElem?_of_mem hz
    rw [zZ] at hi
    by_cases ij:j=i
    ·rw [if_pos ij,if_pos (zB.mp hx).1] at hi
     exact (Option.some.inj hi).symm
    ·rw [if_neg ij] at hi
     have nd:=f.nd
     rw [<-w.ea] at nd
     have pw:=yD.mp nd
     obtain ⟨li,ei⟩:=zB.mp hi
     obtain ⟨lj,ej⟩:=zB.mp hx
     rcases Nat.lt_or_gt_of_ne ij with h | h
     ·exact absurd (by rw [yC,yC,ei,ej,e]) (pw j i (by rw [zA];exact lj) (by rw [zA];exact li) h)
     ·exact absurd (by rw [yC,yC,ei,ej,e]) (pw i j (by rw [zA];exact li) (by rw [zA];exact lj) h)
   rw [ez];exact h9
  ·rcases List.mem_or_eq_of_mem_set hz with h1 | h1
   ·exact b9 _ _ e (kp _ _ (nrow z h1) (w.kts z h1))
   ·exact absurd (by rw [h1]) e
 ·rw [zw]
  have e1:(ts.map (·.1)).set j x.1=ts.map (·.1):=by
   refine List.set_getElem?_self' ?_
   rw [zC,hx];rfl
  show (ts.map (·.1)).set j x.1=as
  rw [e1];exact w.ea
end
theorem kv_few {kv:List (Int × Int)}{n:Nat} (nd:(kv.map (·.1)).Nodup) (kb:∀ w e,kvget kv w=some e->0<=w/\w < n):kv.length<=n:=by
 have:=nodup_len (xs:=kv.map (·.1)) (ys:=(List.range n).map fun i:Nat=>(i:Int)) nd fun x hx=>by
  obtain ⟨p,hp,rfl⟩:=zM.mp hx
  have b:=kb p.1 p.2 (kvget_mem nd p hp)
  exact zM.mpr ⟨p.1.toNat,zn.mpr (by omega),by omega⟩
 rw [zA,zA,zv] at this
 exact this
theorem HistT.few {rooms:List Int}{ms:List M4}{t:Tr}{ds:List Dd} (h:HistT rooms ms t ds) (lh:t.hs.length=t.ls.length) (lo:t.os.length=t.ls.length) {n:Nat}{x:Addr × List (Int × Int)} (hx:t.hs[n]?=some x):x.2.length<=rooms.length:=by
 have hn:n < t.ls.length:=by rw [<-lh];exact (zB.mp hx).1
 refine kv_few (h.nd n x hx) fun w e k=>⟨?_,h.kb n x hx w e k⟩
 obtain ⟨_,_,w',ew,_⟩:=(h.each n _ x _ (zE hn) hx (zE (by rw [lo];exact hn))).ch w e k
 omega
theorem runT_lens {ms:List M4}:∀ {ys:List (Addr × Dd)}{t:Tr},(runT ms t ys).hs.length=t.hs.length/\(runT ms t ys).ls=t.ls
 | [],t=>⟨rfl,rfl⟩
 | y :: ys,t=>by
  have h:=runT_lens (ms:=ms) (ys:=ys) (t:=t.doneT ms (.ref y.1) y.2)
  have ad:=doneT_ad t ms (.ref y.1) y.2
  refine ⟨h.1.trans ?_,h.2.trans ad.ls⟩
  have:=congrArg List.length ad.hs
  rw [zA,zA] at this
  exact this
end Sm
set_option Elab.async false
set_option linter.all false
set_option maxRecDepth 100000
set_option maxHeartbeats 400000
namespace L2
open PySem PySem.Spec PyProof.Rows
section
variable {X:Cx}
end
end L2
namespace Sm
open PySem L2 SmSort
inductive RuleD where
 | all
 | half (k:Int)
 | near (ms:List M4)
def RuleD.first:RuleD->Int
 | .half k=>k
 | _=>0
def RuleD.share:RuleD->L4->Int->Int->Int->Option Int
 | .all,_,_,_,_=>some 0
 | .half _,L,_,o,tok=>if o=L.w then some 0 else if 2<=tok then some (tok / 2) else none
 | .near ms,L,g,o,_=>if o=L.w\/metN ms g L.w < metN ms o L.w then some 0 else none
def RuleIs (CA CH CN:Addr) (H:Hp) (r:Addr) (n:Nat):RuleD->Prop
 | .all=>∃ dx,H r=some (.ins CA dx [])
 | .half k=>HalfAt CH H r k/\1<=k/\k<=64
 | .near ms=>∃ pb rooms tr tm ps,NearAt CN H r pb/\BookAt H pb rooms tr tm ps/\rooms.length=n/\ps.length<=1000/\ps.map (·.2)=ms
theorem RuleIs.same {CA CH CN:Addr}{H H':Hp}{r:Addr}{n:Nat}:∀ {d:RuleD},RuleIs CA CH CN H r n d->Same H H'->RuleIs CA CH CN H' r n d
 | .all,⟨dx,e⟩,s=>⟨dx,s _ _ e⟩
 | .half k,⟨e,k1⟩,s=>⟨e.same s,k1⟩
 | .near ms,⟨pb,rooms,tr,tm,ps,e,hb,l⟩,s=>⟨pb,rooms,tr,tm,ps,e.same s,hb.same s,l⟩
theorem RuleIs.at {CA CH CN:Addr}{H:Hp}{r:Addr}{n:Nat}:∀ {d:RuleD},RuleIs CA CH CN H r n d->RuleAt CA CH CN H r n
 | .all,⟨dx,e⟩=>.inl ⟨dx,e⟩
 | .half k,⟨e,k1,k2⟩=>.inr (.inl ⟨k,e,k1,k2⟩)
 | .near ms,⟨pb,rooms,tr,tm,ps,e,hb,l,n,_⟩=>.inr (.inr ⟨pb,rooms,tr,tm,ps,e,hb,l,n⟩)
theorem RuleD.first_b {CA CH CN:Addr}{H:Hp}{r:Addr}{n:Nat}:∀ {d:RuleD},RuleIs CA CH CN H r n d->0<=d.first/\d.first<=64
 | .all,_=>⟨yL _,(by decide:(0:Int)<=64)⟩
 | .half k,⟨_,k1,k2⟩=>⟨by show 0<=k;omega,k2⟩
 | .near _,_=>⟨yL _,(by decide:(0:Int)<=64)⟩
theorem RuleD.share_b {d:RuleD}{L:L4}{g o tok s:Int} (t0:0<=tok) (h:d.share L g o tok=some s):0<=s/\s<=tok:=by
 cases d with
 | all=>cases h;exact ⟨by decide,t0⟩
 | half k=>
  have h':(if o=L.w then some 0 else if 2<=tok then some (tok / 2) else none)=some s:=h
  split at h'
  ·cases h';exact ⟨by decide,t0⟩
  ·split at h'
   ·cases h';omega
   ·cases h'
 | near ms=>
  have h':(if o=L.w\/metN ms g L.w < metN ms o L.w then some 0 else none)=some s:=h
  split at h'
  ·cases h';exact ⟨by decide,t0⟩
  ·cases h'
section
variable {CA CH CN:Addr}{H:Hp}{r:Addr}{n:Nat}{σ:St}{i:Nat}{Q:VK} {E1 E2 E3:XK}
theorem rule_firstX {d:RuleD} (h:RuleIs CA CH CN H r n d) (hv:σ[i]?=some (some (.ref r))) (q:Q (.int d.first) H) :
  tMeth CA (Str.ofString "at_first") spFirst0 [] E1 (tVar i) tNil σ H Q\/tMeth CH (Str.ofString "at_first") (spFirstH CH) [] E2 (tVar i) tNil σ H Q\/tMeth CN (Str.ofString "at_first") spFirst0 [] E3 (tVar i) tNil σ H Q:=by
 cases d with
 | all=>obtain ⟨dx,e⟩:=h;exact .inl ⟨_,hv,r,dx,_,rfl,e,rfl,_,rfl,q⟩
 | half k=>obtain ⟨⟨dx,e⟩,k1,k2⟩:=h;exact .inr (.inl ⟨_,hv,r,dx,_,rfl,e,rfl,r,k,rfl,⟨dx,e⟩,q⟩)
 | near ms=>obtain ⟨pb,rooms,tr,tm,ps,⟨dx,e⟩,hb,l⟩:=h;exact .inr (.inr ⟨_,hv,r,dx,_,rfl,e,rfl,_,rfl,q⟩)
theorem rule_shareX {d:RuleD} {t1 t2 t3:TA}{lt:Addr}{g o tok:Int}{L:L4} (h:RuleIs CA CH CN H r n d) (hv:σ[i]?=some (some (.ref r))) (ht:∀ Z:List V->Hp->Prop,Z [.ref lt,.int g,.int o,.int tok] H->t1 σ H Z/\t2 σ H Z/\t3 σ H Z) (hl:H lt=some (.tup (letRow L))) (t0:0<=tok) (t64:tok<=64)
  (q:∀ H',Same H H'->Q (oV (d.share L g o tok)) H') :
  tMeth CA (Str.ofString "share") spShare0 [] E1 (tVar i) t1 σ H Q\/tMeth CH (Str.ofString "share") spShareH [] E2 (tVar i) t2 σ H Q\/tMeth CN (Str.ofString "share") (spShare CN) [] E3 (tVar i) t3 σ H Q:=by
 cases d with
 | all=>
  obtain ⟨dx,e⟩:=h
  exact .inl ⟨_,hv,r,dx,_,rfl,e,rfl,(ht _ ⟨_,_,_,_,_,rfl,q H (Same.refl _)⟩).1⟩
 | half k=>
  obtain ⟨⟨dx,e⟩,k1,k2⟩:=h
  refine .inr (.inl ⟨_,hv,r,dx,_,rfl,e,rfl,(ht _ ⟨_,lt,g,o,tok,_,_,_,_,rfl,hl,t0,t64,?_⟩).2.1⟩)
  have:Q (oV (if o=L.w then some 0 else if 2<=tok then some (tok / 2) else none)) H:=q H (Same.refl _)
  unfold halfV
  split
  ·rename_i c;rw [if_pos c] at this;exact this
  ·rename_i c;rw [if_neg c] at this
   split
   ·rename_i c2;rw [if_pos c2] at this;exact this
   ·rename_i c2;rw [if_neg c2] at this;exact this
 | near ms=>
  obtain ⟨pb,rooms,tr,tm,ps,⟨dx,e⟩,hb,l,n,em⟩:=h
  refine .inr (.inr ⟨_,hv,r,dx,_,rfl,e,rfl,(ht _ ⟨r,pb,lt,g,o,tok,_,_,_,_,rooms,tr,tm,ps,rfl,⟨dx,e⟩,hb,n,hl,fun H' s'=>?_⟩).2.2⟩)
  have:Q (oV (if o=L.w\/metN ms g L.w < metN ms o L.w then some 0 else none)) H':=q H' s'
  rw [em]
  unfold shareV
  split
  ·rename_i c;rw [if_pos c] at this;exact this
  ·rename_i c;rw [if_neg c] at this;exact this
end
structure RS where
 t:Tr
 toks:List (List (Option Int))
 ds:List Dd
def RS.step (rooms:List Int) (ms:List M4) (d:RuleD) (m:Nat) (M:M4) (j:Nat) (L:L4) (s:RS):RS:=
 match loneH M (s.toks[j]?.getD []) with
 | none=>s
 | some g=>match d.share L g (othI M g) ((oAt (s.toks[j]?.getD []) g).getD 0) with
  | none=>s
  | some v=>if codeT rooms ms s.t (.pass false (m:Int) (j:Int) g)=8 then ⟨s.t.doneT ms .non (.pass false (m:Int) (j:Int) g),s.toks.set j (((s.toks[j]?.getD []).set (othI M g).toNat (some v)).set g.toNat (some ((oAt (s.toks[j]?.getD []) g).getD 0 - v))),s.ds ++ [.pass false (m:Int) (j:Int) g]⟩ else s
def meetTo (rooms:List Int) (ms:List M4) (d:RuleD) (ls:List (Addr × L4)) (m:Nat) (M:M4) (s:RS):Nat->RS
 | 0=>s
 | j + 1=>match ls[j]? with
  | some L=>(meetTo rooms ms d ls m M s j).step rooms ms d m M j L.2
  | none=>meetTo rooms ms d ls m M s j
def runTo (rooms:List Int) (ms:List M4) (d:RuleD) (ls:List (Addr × L4)):Nat->RS
 | 0=>⟨newTr ls ms.length,ls.map fun l=>rep rooms.length (lone l.2.s d.first),[]⟩
 | m + 1=>match ms[m]? with
  | some M=>meetTo rooms ms d ls m M (runTo rooms ms d ls m) ls.length
  | none=>runTo rooms ms d ls m
structure RunX (t:Tr) (ts:List (Addr × List (Option Int))) (ys:List (Addr × Dd)) (s:RS):Prop where
 tw:Twin t s.t
 ts:ts.map (·.2)=s.toks
 ds:ys.map (·.2)=s.ds
section
variable {rooms:List Int}{ms:List M4}{d:RuleD}{m j:Nat}{M:M4}{L:L4}{s:RS}{t:Tr}{ts:List (Addr × List (Option Int))}{ys:List (Addr × Dd)}{x:Addr × List (Option Int)}{g:Int}
theorem RunX.row (w:RunX t ts ys s) (hx:ts[j]?=some x):s.toks[j]?.getD []=x.2:=by rw [<-w.ts,zC,hx];rfl
theorem RunX.none1 (w:RunX t ts ys s) (hx:ts[j]?=some x) (h:loneH M x.2=none):RunX t ts ys (s.step rooms ms d m M j L):=by
 unfold RS.step;rw [w.row hx,h];exact w
theorem RunX.none2 (w:RunX t ts ys s) (hx:ts[j]?=some x) (h:loneH M x.2=some g) {tok:Int} (e:oAt x.2 g=some tok) (h2:d.share L g (othI M g) tok=none):RunX t ts ys (s.step rooms ms d m M j L):=by
 unfold RS.step;rw [w.row hx,h];dsimp only;rw [e];dsimp only [ym];rw [h2];exact w
theorem RunX.none3 (w:RunX t ts ys s) (hx:ts[j]?=some x) (h:loneH M x.2=some g) (c:codeT rooms ms t (.pass false (m:Int) (j:Int) g) ≠ 8):RunX t ts ys (s.step rooms ms d m M j L):=by
 unfold RS.step;rw [w.row hx,h];dsimp only
 split
 ·exact w
 ·rw [if_neg (by rw [<-w.tw.code];exact c)];exact w
theorem RunX.done (w:RunX t ts ys s) (hx:ts[j]?=some x) (h:loneH M x.2=some g) {tok v:Int} (e:oAt x.2 g=some tok) (h2:d.share L g (othI M g) tok=some v) (c:codeT rooms ms t (.pass false (m:Int) (j:Int) g)=8) (ya:Addr) (y:V) :
  RunX (t.doneT ms y (.pass false (m:Int) (j:Int) g)) (ts.set j (x.1,(x.2.set (othI M g).toNat (some v)).set g.toNat (some (tok - v)))) (ys ++ [(ya,.pass false (m:Int) (j:Int) g)]) (s.step rooms ms d m M j L):=by
 unfold RS.step;rw [w.row hx,h];dsimp only;rw [e];dsimp only [ym];rw [h2];dsimp only
 rw [if_pos (by rw [<-w.tw.code];exact c)]
 exact ⟨w.tw.done _,by rw [zw,w.ts],by rw [zN,w.ds];rfl⟩
end
def spRunX (C CA CH CN:Addr):Sp:=fun vs H Q _=>∃ b ll r ls rooms tr tm ps d,vs=[.ref b,.ref ll,.ref r]/\BookAt H b rooms tr tm ps/\1<=rooms.length/\rooms.length<=12/\(∀ r ∈ rooms,(0:Int)<=r)/\Good rooms.length (ps.map (·.2))/\LetsL H ll ls/\ls.length<=41/\(∀ l ∈ ls,l.2.s < rooms.length/\l.2.w < rooms.length)/\RuleIs CA CH CN H r rooms.length d /\
 ∀ p dl tl kl ys,∀ (rws tks:List (Addr × List (Option Int))) (t:Tr) H',Same H H'->H' p=some (.tup [.ref dl,.ref tl,.ref kl])->H' dl=some (.lst (ys.map fun y=>V.ref y.1))->DsAt H' ys->ys.length<=2460->RunOk rooms (ps.map (·.2)) (newTr ls ps.length) ys->Twin t (runT (ps.map (·.2)) (newTr ls ps.length) ys)->HistT rooms (ps.map (·.2)) t (ys.map (·.2))->OsOk t->H' tl=some (.lst (rws.map fun x=>V.ref x.1))->(∀ x ∈ rws,H' x.1=some (.lst (x.2.map oV)))->rws.map (·.2)=(t.hs.map fun h=>tmsOf rooms.length h.2) ->
  H' kl=some (.lst (tks.map fun x=>V.ref x.1))->(∀ x ∈ tks,H' x.1=some (.lst (x.2.map oV)))->RunX t tks ys (runTo rooms (ps.map (·.2)) d ls ps.length)->TokOk rooms.length t tks->(H dl=none/\H tl=none/\H kl=none/\(∀ x ∈ rws,H x.1=none)/\∀ x ∈ tks,H x.1=none)->Q (.ref p) H'
def spNever:Sp:=fun _ _ _ _=>False
end Sm
set_option Elab.async false
set_option linter.all false
set_option maxRecDepth 100000
set_option maxHeartbeats 400000
namespace Sm
open PySem L2 SmSort
section
variable {H0 H H':Hp}{tl kl:Addr}{ta ka:List Addr}{T K:List (List (Option Int))}{j:Nat}{c:Addr}{row:List (Option Int)}
end
structure RSok (rooms:List Int) (ms:List M4) (ls:List (Addr × L4)) (m:Nat) (s:RS):Prop where
 ls:s.t.ls=ls
 lh:s.t.hs.length=s.t.ls.length
 r:s.t.r<=m
 ln:s.t.ns.length=ms.length
 ns:∀ i:Nat,m < i->s.t.ns[i]?.getD 0=0
 tok:TokOk rooms.length s.t (s.toks.map fun x=>((0:Addr),x))
theorem oAt_tms {n:Nat}{kv:List (Int × Int)}{w:Nat} (h:w < n):oAt (tmsOf n kv) (w:Int)=kvget kv (w:Int):=by
 unfold oAt tmsOf
 rw [zF,zC,List.getElem?_range h];rfl
theorem RSok.code {rooms:List Int}{ms:List M4}{ls:List (Addr × L4)}{m j:Nat}{s:RS}{M:M4}{L:Addr × L4}{h:Addr × List (Int × Int)}{g:Int} (k:RSok rooms ms ls m s) (gd:Good rooms.length ms) (hM:ms[m]?=some M) (hL:ls[j]?=some L) (hh:s.t.hs[j]?=some h) {row:List (Option Int)} (hx:s.toks[j]?=some row) (eg:loneH M row=some g) :
  (codeT rooms ms s.t (.pass false (m:Int) (j:Int) g)=8) ↔ (below (kvget h.2 g) M.t=true/\¬ M.m<=s.t.ns[m]?.getD 0/\¬ (takB L.2 (othI M g)=true/\(rooms[(othI M g).toNat]?.getD 0)<=((bagTo (othI M g) s.t.ls s.t.hs s.t.hs.length).length:Int))):=by
 have hL':s.t.ls[j]?=some L:=by rw [k.ls];exact hL
 have hx':(s.toks.map fun x=>((0:Addr),x))[j]?=some (0,row):=by rw [zC,hx];rfl
 obtain ⟨lx,kx,vx⟩:=k.tok.2 j (0,row) h hx' hh
 obtain ⟨hg,e1,e2,_⟩:=lone_code (x:=(0,row)) gd k.lh hM k.r hL' hh kx eg
 have ge:=gd.each M (zD hM)
 have hm:=(zB.mp hM).1
 have hj:=(zB.mp hL').1
 have ob:0<=othI M g/\othI M g < rooms.length:=by unfold othI;split <;> omega
 obtain ⟨ow,eow⟩:=zO ob.1
 have nk:(kvget h.2 (othI M g)).isSome=false:=by
  rw [eow,<- kx ow (by omega),<- eow];exact e2
 have hr:=k.r
 show codeP rooms ms s.t (m:Int) (j:Int) g=8 ↔ _
 unfold codeP
 rw [if_pos ⟨by omega,by omega,hr⟩,if_pos ⟨by omega,by omega⟩,zF,zF,hM,hL',hh]
 dsimp only
 unfold codeP2
 rw [if_pos hg,nk]
 by_cases c1:below (kvget h.2 g) M.t=true
 ·rw [if_pos c1,if_neg zG]
  by_cases c2:M.m<=s.t.ns[m]?.getD 0
  ·rw [if_pos c2];exact ⟨fun z=>(by omega),fun z=>absurd c2 z.2.1⟩
  ·rw [if_neg c2]
   by_cases c3:(takB L.2 (othI M g) && decide ((rooms[(othI M g).toNat]?.getD 0)<=((bagTo (othI M g) s.t.ls s.t.hs s.t.hs.length).length:Int)))=true
   ·rw [if_pos c3]
    have a:=(zk _ _).mp c3
    exact ⟨fun z=>(by omega),fun z=>absurd ⟨a.1,of_decide_eq_true a.2⟩ z.2.2⟩
   ·rw [if_neg c3]
    exact ⟨fun _=>⟨c1,c2,fun z=>c3 ((zk _ _).mpr ⟨z.1,decide_eq_true z.2⟩)⟩,fun _=>rfl⟩
 ·rw [if_neg c1];exact ⟨fun z=>(by omega),fun z=>absurd z.1 c1⟩
theorem RSok.step {rooms:List Int}{ms:List M4}{ls:List (Addr × L4)}{m j:Nat}{s:RS}{M:M4}{L:Addr × L4}{d:RuleD} (k:RSok rooms ms ls m s) (gd:Good rooms.length ms) (hM:ms[m]?=some M) (hL:ls[j]?=some L):RSok rooms ms ls m (s.step rooms ms d m M j L.2):=by
 have hL':s.t.ls[j]?=some L:=by rw [k.ls];exact hL
 have hj:=(zB.mp hL').1
 obtain ⟨h,hh⟩:∃ h,s.t.hs[j]?=some h:=⟨_,zE (by rw [k.lh];exact hj)⟩
 obtain ⟨row,hx⟩:∃ row,s.toks[j]?=some row:=⟨_,zE (by have:=k.tok.1;rw [zA] at this;omega)⟩
 unfold RS.step
 rw [hx]
 dsimp only [ym]
 cases eg:loneH M row with
 | none=>exact k
 | some g=>
  have hx':(s.toks.map fun x=>((0:Addr),x))[j]?=some (0,row):=by rw [zC,hx];rfl
  obtain ⟨lx,kx,vx⟩:=k.tok.2 j (0,row) h hx' hh
  obtain ⟨hg,e1,e2,_⟩:=lone_code (x:=(0,row)) gd k.lh hM k.r hL' hh kx eg
  obtain ⟨tok,et⟩:∃ tok,oAt row g=some tok:=zf.mp e1
  dsimp only
  rw [et]
  dsimp only
  cases es:d.share L.2 g (othI M g) tok with
  | none=>exact k
  | some v=>
   dsimp only
   split
   ·rename_i c
    have ad:=doneT_ad s.t ms .non (.pass false (m:Int) (j:Int) g)
    obtain ⟨d1,d2,d3⟩:=doneT_pass (t:=s.t) (gv:=false) (g:=g) (y:=.non) hM hL'
    obtain ⟨n9,h9,en,ln9,hh9,ehs⟩:=doneT_hs k.lh .non c
    have lhs:(s.t.doneT ms .non (.pass false (m:Int) (j:Int) g)).hs.length=s.t.hs.length:=by have:=congrArg List.length ehs;rw [zA,z8,zA] at this;exact this
    have tb:=vx g tok et
    refine ⟨ad.ls.trans k.ls,by rw [lhs,ad.ls];exact k.lh,by rw [d3];exact yL _,by rw [d2,z8];exact k.ln,fun i hi=>?_,?_⟩
    ·rw [d2,set_getD,if_neg (by omega)];exact k.ns i hi
    ·have:=k.tok.step (y:=.non) gd k.lh hM hx' hg et c (RuleD.share_b tb.1 es) tb.2
     rw [zw];exact this
   ·exact k
theorem RS.step_skip {rooms:List Int}{ms:List M4}{d:RuleD}{m j:Nat}{M:M4}{L:L4}{s:RS}{row:List (Option Int)} (hx:s.toks[j]?=some row) (h:∀ g,loneH M row=some g->d.share L g (othI M g) ((oAt row g).getD 0)=none\/codeT rooms ms s.t (.pass false (m:Int) (j:Int) g) ≠ 8):s.step rooms ms d m M j L=s:=by
 have er:s.toks[j]?.getD []=row:=by rw [hx];rfl
 unfold RS.step
 rw [er]
 cases eg:loneH M row with
 | none=>rfl
 | some g=>
  dsimp only
  have hh:=h g eg
  cases e:d.share L g (othI M g) ((oAt row g).getD 0) with
  | none=>rfl
  | some v=>
   dsimp only
   rcases hh with hh | hh
   ·rw [hh] at e;cases e
   ·rw [if_neg hh]
theorem RS.step_do {rooms:List Int}{ms:List M4}{d:RuleD}{m j:Nat}{M:M4}{L:L4}{s:RS}{row:List (Option Int)}{g tok v:Int} (hx:s.toks[j]?=some row) (eg:loneH M row=some g) (et:oAt row g=some tok) (es:d.share L g (othI M g) tok=some v) (c:codeT rooms ms s.t (.pass false (m:Int) (j:Int) g)=8) :
  s.step rooms ms d m M j L=⟨s.t.doneT ms .non (.pass false (m:Int) (j:Int) g),s.toks.set j ((row.set (othI M g).toNat (some v)).set g.toNat (some (tok - v))),s.ds ++ [.pass false (m:Int) (j:Int) g]⟩:=by
 unfold RS.step
 rw [hx]
 dsimp only [ym]
 rw [eg]
 dsimp only
 rw [et]
 dsimp only
 rw [es]
 dsimp only
 rw [if_pos c]
theorem tms_set {n:Nat}{kv:List (Int × Int)}{w:Nat}{t:Int} (h:w < n):(tmsOf n kv).set w (some t)=tmsOf n (kvput kv (w:Int) t):=by
 refine yg fun k=>?_
 rw [zZ]
 unfold tmsOf
 rw [zC,zC]
 by_cases hk:k < n
 ·rw [List.getElem?_range hk]
  by_cases e:w=k
  ·subst e
   rw [if_pos rfl,if_pos (by rw [zA,zv];exact h)]
   show _=some (kvget (kvput kv (w:Int) t) (w:Int))
   rw [kvget_put,if_pos rfl]
  ·rw [if_neg e]
   show some _=some (kvget (kvput kv (w:Int) t) (k:Int))
   rw [kvget_put,if_neg (by omega)]
 ·rw [zp (by rw [zv];omega),if_neg (by omega)];rfl
theorem RSok.start {rooms:List Int}{ms:List M4}{d:RuleD}{ls:List (Addr × L4)} (b:0<=d.first/\d.first<=64):RSok rooms ms ls 0 (runTo rooms ms d ls 0)/\(runTo rooms ms d ls 0).t.ns[0]?.getD 0=0:=by
 have z:∀ i:Nat,(List.replicate ms.length (0:Int))[i]?.getD 0=0:=fun i=>by
  rw [yR];split <;> rfl
 refine ⟨⟨rfl,newTr_len ls ms.length,yL _,by show (List.replicate _ _).length=_;rw [zY],fun i _=>z i,?_⟩,z 0⟩
 refine TokOk.new (ls:=ls) rfl ?_ ?_ fun j x L hx hL=>⟨d.first,b.1,b.2,?_⟩
 ·show ((ls.map fun l=>((0:Addr),[((l.2.s:Int),l.2.a)])).map (·.2))=_
  rw [zX];rfl
 ·show ((ls.map fun l=>rep rooms.length (lone l.2.s d.first)).map fun x=>((0:Addr),x)).length=_
  rw [zA,zA]
 ·have hx':((ls.map fun l=>rep rooms.length (lone l.2.s d.first)).map fun x=>((0:Addr),x))[j]?=some x:=hx
  rw [zC,zC,hL] at hx'
  rw [<-Option.some.inj hx']
end Sm
set_option Elab.async false
set_option linter.all false
set_option maxRecDepth 100000
set_option maxHeartbeats 400000
namespace L2
open PySem PySem.Spec PyProof.Rows
section
variable {X:Cx}
end
end L2
namespace Sm
open PySem L2 SmSort
structure TK where
 T:List (List (Option Int))
 K:List (List (Option Int))
structure TKst (n:Nat) (ms:List M4) (ls:List (Addr × L4)) (d:RuleD) (s s':TK) (x:Dd) (m j:Nat) (g:Int) (M:M4) (L:Addr × L4) (rT rK:List (Option Int)) (e tok v:Int):Prop where
 ex:x=.pass false (m:Int) (j:Int) g
 hM:ms[m]?=some M
 hL:ls[j]?=some L
 hg:g=M.lo\/g=M.hi
 hT:s.T[j]?=some rT
 hK:s.K[j]?=some rK
 lT:rT.length=n
 lK:rK.length=n
 eg:oAt rT g=some e
 lt:e < M.t
 eo:oAt rT (othI M g)=none
 kg:oAt rK g=some tok
 ko:oAt rK (othI M g)=none
 t0:0<=tok
 t64:tok<=64
 sh:d.share L.2 g (othI M g) tok=some v
 es:s'=⟨s.T.set j (rT.set (othI M g).toNat (some M.t)),s.K.set j ((rK.set (othI M g).toNat (some v)).set g.toNat (some (tok - v)))⟩
def TKstep (n:Nat) (ms:List M4) (ls:List (Addr × L4)) (d:RuleD) (s s':TK) (x:Dd):Prop:=∃ m j g M L rT rK e tok v,TKst n ms ls d s s' x m j g M L rT rK e tok v
def tkOf (n:Nat) (s:RS):TK:=⟨s.t.hs.map fun h=>tmsOf n h.2,s.toks⟩
def Path (n:Nat) (ms:List M4) (ls:List (Addr × L4)) (d:RuleD) (s0:TK) (ds:List Dd) (s1:TK):Prop:=∃ S:Nat->TK,S 0=s0/\S ds.length=s1/\∀ (k:Nat) x,ds[k]?=some x->TKstep n ms ls d (S k) (S (k + 1)) x
section
variable {rooms:List Int}{ms:List M4}{ls:List (Addr × L4)}{d:RuleD}{m j:Nat}{s:RS}{M:M4}{L:Addr × L4}
theorem Path.snoc {n:Nat} {s0 s1 s2:TK}{ds:List Dd}{x:Dd} (p:Path n ms ls d s0 ds s1) (h:TKstep n ms ls d s1 s2 x):Path n ms ls d s0 (ds ++ [x]) s2:=by
 obtain ⟨S,e0,e1,st⟩:=p
 refine ⟨fun k=>if k<=ds.length then S k else s2,by dsimp only;rw [if_pos (zb _)];exact e0,by dsimp only;rw [zT,if_neg (by simp)],fun k y hy=>?_⟩
 dsimp only
 by_cases c:k < ds.length
 ·rw [List.getElem?_append_left c] at hy
  rw [if_pos (by omega),if_pos (by omega)];exact st k y hy
 ·rw [z6 (by omega)] at hy
  obtain ⟨l,e⟩:=zB.mp hy
  have lk:k=ds.length:=by have:k - ds.length < 1:=l;omega
  subst lk
  have ey:x=y:=by rw [Nat.sub_self] at hy;exact Option.some.inj hy
  rw [if_pos (zJ _),if_neg (by omega),e1,<- ey];exact h
theorem path_step (k:RSok rooms ms ls m s) (gd:Good rooms.length ms) (hM:ms[m]?=some M) (hL:ls[j]?=some L):s.step rooms ms d m M j L.2=s\/∃ x,(s.step rooms ms d m M j L.2).ds=s.ds ++ [x]/\TKstep rooms.length ms ls d (tkOf rooms.length s) (tkOf rooms.length (s.step rooms ms d m M j L.2)) x:=by
 have hL':s.t.ls[j]?=some L:=by rw [k.ls];exact hL
 have hj:=(zB.mp hL').1
 obtain ⟨h,hh⟩:∃ h,s.t.hs[j]?=some h:=⟨_,zE (by rw [k.lh];exact hj)⟩
 obtain ⟨row,hx⟩:∃ row,s.toks[j]?=some row:=⟨_,zE (by have:=k.tok.1;rw [zA] at this;omega)⟩
 have hx':(s.toks.map fun x=>((0:Addr),x))[j]?=some (0,row):=by rw [zC,hx];rfl
 obtain ⟨lx,kx,vx⟩:=k.tok.2 j (0,row) h hx' hh
 cases eg:loneH M row with
 | none=>exact .inl (RS.step_skip hx fun g h=>by rw [eg] at h;cases h)
 | some g=>
  obtain ⟨hg,e1,e2,_⟩:=lone_code (x:=(0,row)) gd k.lh hM k.r hL' hh kx eg
  obtain ⟨tok,et⟩:∃ tok,oAt row g=some tok:=zf.mp e1
  have tb:=vx g tok et
  cases es:d.share L.2 g (othI M g) tok with
  | none=>exact .inl (RS.step_skip hx fun g' h'=>.inl (by rw [eg] at h';cases h';rw [et];exact es))
  | some v=>
   by_cases c:codeT rooms ms s.t (.pass false (m:Int) (j:Int) g)=8
   ·refine .inr ⟨_,by rw [RS.step_do hx eg et es c],?_⟩
    rw [RS.step_do hx eg et es c]
    have ge:=gd.each M (zD hM)
    have ob:0<=othI M g/\othI M g < rooms.length:=by unfold othI;split <;> omega
    obtain ⟨ow,eow⟩:=zO ob.1
    obtain ⟨gw,egw⟩:=zO (show 0<=g by omega)
    obtain ⟨b1,_,_⟩:=(k.code gd hM hL hh hx eg).mp c
    obtain ⟨e,ee,le⟩:∃ e,kvget h.2 g=some e/\e < M.t:=by
     cases z:kvget h.2 g with
     | none=>rw [z] at b1;cases b1
     | some e=>rw [z] at b1;exact ⟨e,rfl,by simpa [below] using b1⟩
    obtain ⟨n9,h9,en,ln9,hh9,ehs⟩:=doneT_hs k.lh .non c
    obtain rfl:n9=j:=by have:(j:Int)=n9:=en;omega
    rw [hh] at hh9;cases hh9
    have kn:kvNext ms h.2 (.pass false (m:Int) (n9:Int) g)=kvput h.2 (othI M g) M.t:=by
     unfold kvNext;dsimp only;rw [zF,hM];rfl
    refine ⟨m,n9,g,M,L,tmsOf rooms.length h.2,row,e,tok,v,rfl,hM,hL,hg,?_,hx,by unfold tmsOf;rw [zA,zv],lx,?_,le,?_,et,?_,tb.1,tb.2,es,?_⟩
    ·show (s.t.hs.map _)[n9]?=_;rw [zC,hh];rfl
    ·rw [egw,oAt_tms (by omega),<- egw];exact ee
    ·rw [eow,oAt_tms (by omega),<- Option.not_isSome_iff_eq_none,<- kx ow (by omega),<- eow,e2];exact zG
    ·rw [<-Option.not_isSome_iff_eq_none,e2];exact zG
    ·unfold tkOf
     have mm:∀ xs:List (Addr × List (Int × Int)),(xs.map fun h=>tmsOf rooms.length h.2)=(xs.map (·.2)).map (tmsOf rooms.length):=fun xs=>by rw [zX];rfl
     congr 1
     dsimp only
     rw [mm,ehs,kn,zw,<- mm,eow,zF,tms_set (by omega)]
   ·exact .inl (RS.step_skip hx fun g' h'=>.inr (by rw [eg] at h';cases h';exact c))
theorem RSok.mono (k:RSok rooms ms ls m s):RSok rooms ms ls (m + 1) s:=⟨k.ls,k.lh,by have:=k.r;omega,k.ln,fun i hi=>k.ns i (by omega),k.tok⟩
theorem path_meet {s0:TK} (gd:Good rooms.length ms) (hM:ms[m]?=some M) (k:RSok rooms ms ls m s) (p:Path rooms.length ms ls d s0 s.ds (tkOf rooms.length s)):∀ j,RSok rooms ms ls m (meetTo rooms ms d ls m M s j)/\Path rooms.length ms ls d s0 (meetTo rooms ms d ls m M s j).ds (tkOf rooms.length (meetTo rooms ms d ls m M s j))
 | 0=>⟨k,p⟩
 | j + 1=>by
  obtain ⟨k',p'⟩:=path_meet gd hM k p j
  unfold meetTo
  split
  ·rename_i L hL
   refine ⟨k'.step gd hM hL,?_⟩
   rcases path_step (d:=d) k' gd hM hL with e | ⟨x,e,st⟩
   ·rw [e];exact p'
   ·rw [e];exact p'.snoc st
  ·exact ⟨k',p'⟩
theorem path_run (gd:Good rooms.length ms) (b:0<=d.first/\d.first<=64):∀ m,RSok rooms ms ls m (runTo rooms ms d ls m)/\Path rooms.length ms ls d (tkOf rooms.length (runTo rooms ms d ls 0)) (runTo rooms ms d ls m).ds (tkOf rooms.length (runTo rooms ms d ls m))
 | 0=>⟨(RSok.start b).1,fun _=>tkOf rooms.length (runTo rooms ms d ls 0),rfl,rfl,fun k x h=>by
   have h':([]:List Dd)[k]?=some x:=h
   cases h'⟩
 | m + 1=>by
  obtain ⟨k,p⟩:=path_run gd b m
  unfold runTo
  split
  ·rename_i M hM
   have:=path_meet gd hM k p ls.length
   exact ⟨this.1.mono,this.2⟩
  ·exact ⟨k.mono,p⟩
end
section
variable {CA CH:Addr}{H:Hp}{r:Addr}{σ:St}{i:Nat}{Q:VK} {E2:XK}{d:RuleD}
end
def IsCopy (ms:List M4) (k:Nat) (d:Dd):Prop:=∃ (m j:Nat) (g:Int) (M:M4),d=.pass false (m:Int) (j:Int) g/\ms[m]?=some M/\j < k/\(g=M.lo\/g=M.hi)
theorem Path.copies {n:Nat}{ms:List M4}{ls:List (Addr × L4)}{d:RuleD} {s0 s1:TK}{ds:List Dd} (p:Path n ms ls d s0 ds s1):∀ x ∈ ds,IsCopy ms ls.length x:=by
 obtain ⟨S,_,_,st⟩:=p
 intro x hx
 obtain ⟨k,hk⟩:=List.getElem?_of_mem hx
 obtain ⟨m,j,g,M,L,rT,rK,e,tok,v,w⟩:=st k x hk
 exact ⟨m,j,g,M,w.ex,w.hM,(zB.mp w.hL).1,w.hg⟩
theorem tok_of {rooms:List Int}{ms:List M4}{d:RuleD}{ls:List (Addr × L4)}{n:Nat}{t:Tr}{ys:List (Addr × Dd)}{rws tks:List (Addr × List (Option Int))} (w:RunX t tks ys (runTo rooms ms d ls n)) (er:rws.map (·.2)=(t.hs.map fun h=>tmsOf rooms.length h.2)) (tok:TokOk rooms.length t tks) (tw:Twin t (runT ms (newTr ls n) ys)) (gd:Good rooms.length ms) (b:0<=d.first/\d.first<=64) :
  Path rooms.length ms ls d (tkOf rooms.length (runTo rooms ms d ls 0)) (ys.map (·.2)) (tkOf rooms.length (runTo rooms ms d ls n))/\rws.map (·.2)=(tkOf rooms.length (runTo rooms ms d ls n)).T/\tks.map (·.2)=(tkOf rooms.length (runTo rooms ms d ls n)).K/\rws.length=ls.length/\tks.length=ls.length/\(∀ x ∈ rws,x.2.length=rooms.length)/\∀ x ∈ tks,x.2.length=rooms.length:=by
 have lh:t.hs.length=ls.length:=by
  rw [tw.len,runT_lens.1];show (ls.map _).length=_;rw [zA]
 have ll:t.ls.length=ls.length:=by rw [tw.ls,runT_lens.2];rfl
 have mm:∀ xs:List (Addr × List (Int × Int)),(xs.map fun h=>tmsOf rooms.length h.2)=(xs.map (·.2)).map (tmsOf rooms.length):=fun xs=>by rw [zX];rfl
 refine ⟨by rw [w.ds];exact (path_run gd b n).2,?_,w.ts,?_,by rw [tok.1];exact ll,fun x hx=>?_,fun x hx=>?_⟩
 ·show rws.map (·.2)=(runTo rooms ms d ls n).t.hs.map fun h=>tmsOf rooms.length h.2
  rw [er,mm,mm,w.tw.hs]
 ·have:=congrArg List.length er
  rw [zA,zA] at this;omega
 ·have:x.2 ∈ rws.map (·.2):=zM.mpr ⟨x,hx,rfl⟩
  rw [er] at this
  obtain ⟨h,_,e⟩:=zM.mp this
  rw [<-e];unfold tmsOf;rw [zA,zv]
 ·obtain ⟨j,hj⟩:=List.getElem?_of_mem hx
  have lj:=(zB.mp hj).1
  exact (tok.2 j x _ hj (zE (by rw [tok.1] at lj;omega))).1
end Sm
set_option Elab.async false
set_option linter.all false
set_option maxRecDepth 100000
set_option maxHeartbeats 400000
namespace Sm
open PySem L2 SmSort
structure OL where
 T:List (Option Int)
 K:List (Option Int)
 ds:List (Int × Int)
def OL.step (d:RuleD) (m:Nat) (M:M4) (L:L4) (s:OL):OL:=
 match loneH M s.K with
 | none=>s
 | some g=>match d.share L g (othI M g) ((oAt s.K g).getD 0) with
  | none=>s
  | some v=>if below (oAt s.T g) M.t=true then ⟨s.T.set (othI M g).toNat (some M.t),(s.K.set (othI M g).toNat (some v)).set g.toNat (some ((oAt s.K g).getD 0 - v)),s.ds ++ [((m:Int),g)]⟩ else s
def oneTo (ms:List M4) (d:RuleD) (n:Nat) (L:L4):Nat->OL
 | 0=>⟨rep n (lone L.s L.a),rep n (lone L.s d.first),[]⟩
 | m + 1=>match ms[m]? with
  | some M=>(oneTo ms d n L m).step d m M L
  | none=>oneTo ms d n L m
def pickD (j:Nat):Dd->Option (Int × Int)
 | .pass _ m l g=>if l=(j:Int) then some (m,g) else none
 | _=>none
def seenL (n:Nat) (s:RS) (j:Nat):OL:=⟨((tkOf n s).T[j]?).getD [],(s.toks[j]?).getD [],s.ds.filterMap (pickD j)⟩
structure WideB (rooms:List Int) (ms:List M4):Prop where
 r:∀ r ∈ rooms,42<=r
 m:∀ M ∈ ms,42<=M.m
section
variable {rooms:List Int}{ms:List M4}{ls:List (Addr × L4)}{d:RuleD}{m j:Nat}{s:RS}{M:M4}{L:Addr × L4}
theorem alone_step (k:RSok rooms ms ls m s) (gd:Good rooms.length ms) (wd:WideB rooms ms) (l41:ls.length<=41) (hM:ms[m]?=some M) (hL:ls[j]?=some L) (hn:s.t.ns[m]?.getD 0<=j) :
  seenL rooms.length (s.step rooms ms d m M j L.2) j=(seenL rooms.length s j).step d m M L.2/\(∀ i,i ≠ j->seenL rooms.length (s.step rooms ms d m M j L.2) i=seenL rooms.length s i)/\(s.step rooms ms d m M j L.2).t.ns[m]?.getD 0<=((j + 1:Nat):Int):=by
 have hL':s.t.ls[j]?=some L:=by rw [k.ls];exact hL
 have hj:=(zB.mp hL').1
 have hjl:j < ls.length:=(zB.mp hL).1
 obtain ⟨h,hh⟩:∃ h,s.t.hs[j]?=some h:=⟨_,zE (by rw [k.lh];exact hj)⟩
 obtain ⟨row,hx⟩:∃ row,s.toks[j]?=some row:=⟨_,zE (by have:=k.tok.1;rw [zA] at this;omega)⟩
 have hx':(s.toks.map fun x=>((0:Addr),x))[j]?=some (0,row):=by rw [zC,hx];rfl
 obtain ⟨lx,kx,vx⟩:=k.tok.2 j (0,row) h hx' hh
 have eK:(seenL rooms.length s j).K=row:=by show (s.toks[j]?).getD []=row;rw [hx];rfl
 have hT:(tkOf rooms.length s).T[j]?=some (tmsOf rooms.length h.2):=by show (s.t.hs.map _)[j]?=_;rw [zC,hh];rfl
 have eT:(seenL rooms.length s j).T=tmsOf rooms.length h.2:=by show ((tkOf rooms.length s).T[j]?).getD []=_;rw [hT];rfl
 have same:s.step rooms ms d m M j L.2=s->(seenL rooms.length s j).step d m M L.2=seenL rooms.length s j->seenL rooms.length (s.step rooms ms d m M j L.2) j=(seenL rooms.length s j).step d m M L.2/\(∀ i,i ≠ j->seenL rooms.length (s.step rooms ms d m M j L.2) i=seenL rooms.length s i)/\(s.step rooms ms d m M j L.2).t.ns[m]?.getD 0<=((j + 1:Nat):Int):=fun e1 e2=>by
  rw [e1,e2];exact ⟨rfl,fun _ _=>rfl,by omega⟩
 cases eg:loneH M row with
 | none=>exact same (RS.step_skip hx fun g h=>by rw [eg] at h;cases h) (by unfold OL.step;rw [eK,eg])
 | some g=>
  obtain ⟨hg,e1,e2,_⟩:=lone_code (x:=(0,row)) gd k.lh hM k.r hL' hh kx eg
  obtain ⟨tok,et⟩:∃ tok,oAt row g=some tok:=zf.mp e1
  have tb:=vx g tok et
  have ge:=gd.each M (zD hM)
  obtain ⟨gw,egw⟩:=zO (show 0<=g by omega)
  have eTg:oAt (tmsOf rooms.length h.2) g=kvget h.2 g:=by rw [egw];exact oAt_tms (by omega)
  cases es:d.share L.2 g (othI M g) tok with
  | none=>exact same (RS.step_skip hx fun g' h'=>.inl (by rw [eg] at h';cases h';rw [et];exact es)) (by unfold OL.step;rw [eK,eg];dsimp only;rw [et];dsimp only [ym];rw [es])
  | some v=>
   by_cases bl:below (kvget h.2 g) M.t=true
   ·have ob:0<=othI M g/\othI M g < rooms.length:=by unfold othI;split <;> omega
    obtain ⟨ow,eow⟩:=zO ob.1
    have c:codeT rooms ms s.t (.pass false (m:Int) (j:Int) g)=8:=by
     refine (k.code gd hM hL hh hx eg).mpr ⟨bl,?_,?_⟩
     ·have:=wd.m M (zD hM);omega
     ·rintro ⟨_,z⟩
      have hr:rooms[(othI M g).toNat]?=some (rooms[(othI M g).toNat]'(by omega)):=zE (by omega)
      have:=wd.r _ (zD hr)
      rw [hr] at z
      have lb:=bagTo_len (othI M g) s.t.ls s.t.hs s.t.hs.length
      have ll:=k.lh
      rw [k.ls] at ll
      dsimp only [ym] at z
      omega
    obtain ⟨n9,h9,en,ln9,hh9,ehs⟩:=doneT_hs k.lh .non c
    obtain rfl:n9=j:=by have:(j:Int)=n9:=en;omega
    rw [hh] at hh9;cases hh9
    obtain ⟨d1,d2,d3⟩:=doneT_pass (t:=s.t) (gv:=false) (g:=g) (y:=.non) hM hL'
    have kn:kvNext ms h.2 (.pass false (m:Int) (n9:Int) g)=kvput h.2 (othI M g) M.t:=by
     unfold kvNext;dsimp only;rw [zF,hM];rfl
    have eTT:(tkOf rooms.length (s.step rooms ms d m M n9 L.2)).T=(tkOf rooms.length s).T.set n9 ((tmsOf rooms.length h.2).set (othI M g).toNat (some M.t)):=by
     rw [RS.step_do hx eg et es c]
     have mm:∀ xs:List (Addr × List (Int × Int)),(xs.map fun h=>tmsOf rooms.length h.2)=(xs.map (·.2)).map (tmsOf rooms.length):=fun xs=>by rw [zX];rfl
     show ((s.t.doneT ms .non (.pass false (m:Int) (n9:Int) g)).hs.map fun h=>tmsOf rooms.length h.2)=(s.t.hs.map fun h=>tmsOf rooms.length h.2).set n9 _
     rw [mm,ehs,kn,zw,<- mm,eow,zF,tms_set (by omega)]
    have eds:(s.step rooms ms d m M n9 L.2).ds=s.ds ++ [.pass false (m:Int) (n9:Int) g]:=by rw [RS.step_do hx eg et es c]
    have etk:(s.step rooms ms d m M n9 L.2).toks=s.toks.set n9 ((row.set (othI M g).toNat (some v)).set g.toNat (some (tok - v))):=by rw [RS.step_do hx eg et es c]
    refine ⟨?_,fun i ij=>?_,?_⟩
    ·have r:(seenL rooms.length s n9).step d m M L.2=⟨(seenL rooms.length s n9).T.set (othI M g).toNat (some M.t),((seenL rooms.length s n9).K.set (othI M g).toNat (some v)).set g.toNat (some (tok - v)),(seenL rooms.length s n9).ds ++ [((m:Int),g)]⟩:=by
      unfold OL.step
      rw [eK,eg];dsimp only;rw [et];dsimp only [ym];rw [es];dsimp only
      rw [eT,eTg,if_pos bl]
     rw [r,eK,eT]
     unfold seenL
     rw [eTT,etk,eds,zZ,if_pos rfl,if_pos (zB.mp hT).1,zZ,if_pos rfl,if_pos (zB.mp hx).1,zy]
     congr 1
     show _=_ ++ [((m:Int),g)]
     congr 1
     show List.filterMap (pickD n9) [Dd.pass false (m:Int) (n9:Int) g]=[((m:Int),g)]
     simp [pickD]
    ·unfold seenL
     rw [eTT,etk,eds,zZ,if_neg (fun z=>ij z.symm),zZ,if_neg (fun z=>ij z.symm),zy]
     congr 1
     have:List.filterMap (pickD i) [Dd.pass false (m:Int) (n9:Int) g]=[]:=by
      simp [pickD];omega
     rw [this,za]
    ·rw [RS.step_do hx eg et es c]
     show (s.t.doneT ms .non (.pass false (m:Int) (n9:Int) g)).ns[m]?.getD 0<=_
     rw [d2,set_getD]
     split <;> omega
   ·refine same (RS.step_skip hx fun g' h'=>.inr (fun c8=>?_)) ?_
    ·rw [eg] at h';cases h'
     exact bl ((k.code gd hM hL hh hx eg).mp c8).1
    ·unfold OL.step;rw [eK,eg];dsimp only;rw [et];dsimp only [ym];rw [es];dsimp only;rw [eT,eTg,if_neg bl]
theorem alone_meet (gd:Good rooms.length ms) (wd:WideB rooms ms) (l41:ls.length<=41) (hM:ms[m]?=some M) (k:RSok rooms ms ls m s) (hn:s.t.ns[m]?.getD 0=0):∀ j,j<=ls.length->RSok rooms ms ls m (meetTo rooms ms d ls m M s j)/\(meetTo rooms ms d ls m M s j).t.ns[m]?.getD 0<=(j:Int)/\∀ (i:Nat) L,ls[i]?=some L->seenL rooms.length (meetTo rooms ms d ls m M s j) i=if i < j then (seenL rooms.length s i).step d m M L.2 else seenL rooms.length s i
 | 0,_=>⟨k,by show s.t.ns[m]?.getD 0<=_;rw [hn];omega,fun i L _=>by rw [if_neg (yq _)];rfl⟩
 | j + 1,hj=>by
  obtain ⟨k',n',e'⟩:=alone_meet gd wd l41 hM k hn j (by omega)
  obtain ⟨L,hL⟩:∃ L,ls[j]?=some L:=⟨_,zE (by omega)⟩
  have mS:meetTo rooms ms d ls m M s (j + 1)=(meetTo rooms ms d ls m M s j).step rooms ms d m M j L.2:=by
   show (match ls[j]? with | some L=>_ | none=>_)=_
   rw [hL]
  obtain ⟨a1,a2,a3⟩:=alone_step (d:=d) k' gd wd l41 hM hL n'
  rw [mS]
  refine ⟨k'.step gd hM hL,a3,fun i L' hL'=>?_⟩
  by_cases ij:i=j
  ·subst ij
   rw [hL] at hL';cases hL'
   rw [a1,e' i L hL,if_neg (ze _),if_pos (yB _)]
  ·rw [a2 i ij,e' i L' hL']
   by_cases c:i < j
   ·rw [if_pos c,if_pos (by omega)]
   ·rw [if_neg c,if_neg (by omega)]
theorem alone_run (gd:Good rooms.length ms) (wd:WideB rooms ms) (l41:ls.length<=41) (b:0<=d.first/\d.first<=64):∀ m,RSok rooms ms ls m (runTo rooms ms d ls m)/\(runTo rooms ms d ls m).t.ns[m]?.getD 0=0/\∀ (i:Nat) L,ls[i]?=some L->seenL rooms.length (runTo rooms ms d ls m) i=oneTo ms d rooms.length L.2 m
 | 0=>by
  obtain ⟨k,hn⟩:=RSok.start (rooms:=rooms) (ms:=ms) (d:=d) (ls:=ls) b
  refine ⟨k,hn,fun i L hL=>?_⟩
  unfold seenL oneTo
  have e1:(tkOf rooms.length (runTo rooms ms d ls 0)).T[i]?=some (tmsOf rooms.length [((L.2.s:Int),L.2.a)]):=by
   show ((ls.map fun l=>((0:Addr),[((l.2.s:Int),l.2.a)])).map fun h=>tmsOf rooms.length h.2)[i]?=_
   rw [zC,zC,hL];rfl
  have e2:(runTo rooms ms d ls 0).toks[i]?=some (rep rooms.length (lone L.2.s d.first)):=by
   show (ls.map fun l=>rep rooms.length (lone l.2.s d.first))[i]?=_
   rw [zC,hL];rfl
  rw [e1,e2]
  congr 1
  show tmsOf rooms.length [((L.2.s:Int),L.2.a)]=_
  unfold rep tmsOf lone
  refine yF fun x _=>?_
  rw [wV]
  by_cases c:x=L.2.s
  ·rw [if_pos c,if_pos (by omega)]
  ·rw [if_neg c,if_neg (by omega)]
 | m + 1=>by
  obtain ⟨k,hn,e⟩:=alone_run gd wd l41 b m
  cases hM:ms[m]? with
  | none=>
   have er:runTo rooms ms d ls (m + 1)=runTo rooms ms d ls m:=by
    show (match ms[m]? with | some M=>_ | none=>_)=_
    rw [hM]
   rw [er]
   refine ⟨k.mono,k.ns (m + 1) (by omega),fun i L hL=>?_⟩
   rw [e i L hL]
   show _=(match ms[m]? with | some M=>_ | none=>_)
   rw [hM]
  | some M=>
   have er:runTo rooms ms d ls (m + 1)=meetTo rooms ms d ls m M (runTo rooms ms d ls m) ls.length:=by
    show (match ms[m]? with | some M=>_ | none=>_)=_
    rw [hM]
   rw [er]
   obtain ⟨k',_,e'⟩:=alone_meet (d:=d) gd wd l41 hM k hn ls.length (zJ _)
   refine ⟨k'.mono,k'.ns (m + 1) (by omega),fun i L hL=>?_⟩
   rw [e' i L hL,if_pos (zB.mp hL).1,e i L hL]
   show _=(match ms[m]? with | some M=>_ | none=>_)
   rw [hM]
end
end Sm
set_option Elab.async false
set_option linter.all false
set_option maxRecDepth 100000
set_option maxHeartbeats 400000
namespace Sm
open PySem L2 SmSort
def straight (L:L4) (M:M4):Prop:=L.a < M.t/\L.s ≠ L.w/\(M.lo=(L.s:Int)\/M.hi=(L.s:Int))/\(M.lo=(L.w:Int)\/M.hi=(L.w:Int))
instance (L:L4) (M:M4):Decidable (straight L M):=by unfold straight;infer_instance
def fsS (ms:List M4) (L:L4):Nat->Option (Nat × Int)
 | 0=>none
 | m + 1=>match fsS ms L m with
  | some x=>some x
  | none=>match ms[m]? with
   | some M=>if straight L M then some (m,M.t) else none
   | none=>none
def bareT (n:Nat) (L:L4):Option (Nat × Int)->List (Option Int)
 | none=>rep n (lone L.s L.a)
 | some x=>(rep n (lone L.s L.a)).set L.w (some x.2)
structure BareB (rooms:List Int) (ms:List M4):Prop where
 r:∀ r ∈ rooms,r<=0
 m:∀ M ∈ ms,42<=M.m
def bareO (L:L4) (o:Option (Nat × Int)) (w:Nat):Option Int:=if w=L.s then some L.a else match o with | some x=>if w=L.w then some x.2 else none | none=>none
theorem bare_at {n:Nat}{L:L4}{o:Option (Nat × Int)} (so:o.isSome=true->L.s ≠ L.w) (hs:L.s < n) (hw:L.w < n) {w:Nat} (h:w < n):oAt (bareT n L o) (w:Int)=bareO L o w:=by
 unfold bareO
 cases o with
 | none=>
  show oAt (rep n (lone L.s L.a)) (w:Int)=_
  rw [oAt_rep h]
  unfold lone
  split <;> rfl
 | some x=>
  have ne:=so rfl
  have e:=oAt_set (os:=rep n (lone L.s L.a)) (w:=(L.w:Int)) (v:=(w:Int)) (o:=some x.2) (by omega) (by unfold rep;rw [zA,zv];omega) (by omega)
  rw [zF] at e
  show oAt ((rep n (lone L.s L.a)).set L.w (some x.2)) (w:Int)=_
  rw [e,oAt_rep h]
  unfold lone
  by_cases c1:w=L.s
  ·rw [if_neg (by omega),if_pos c1,if_pos c1]
  ·rw [if_neg c1]
   dsimp only
   by_cases c2:w=L.w
   ·rw [if_pos (by omega),if_pos c2,if_neg c1]
   ·rw [if_neg (by omega),if_neg c2,if_neg c1]
theorem share_wish (d:RuleD) (L:L4) (g tok:Int):d.share L g (L.w:Int) tok=some 0:=by
 cases d with
 | all=>rfl
 | half k=>show (if (L.w:Int)=(L.w:Int) then some 0 else _)=_;rw [if_pos rfl]
 | near ms=>show (if (L.w:Int)=(L.w:Int)\/_ then some 0 else none)=_;rw [if_pos (.inl rfl)]
section
variable {rooms:List Int}{ms:List M4}{ls:List (Addr × L4)}{d:RuleD}{m j:Nat}{s:RS}{M:M4}{L:Addr × L4}{o:Option (Nat × Int)}
theorem bare_step (k:RSok rooms ms ls m s) (gd:Good rooms.length ms) (wd:BareB rooms ms) (l41:ls.length<=41) (lb:L.2.s < rooms.length/\L.2.w < rooms.length) (hM:ms[m]?=some M) (hL:ls[j]?=some L) (hn:s.t.ns[m]?.getD 0<=j) (hT:(tkOf rooms.length s).T[j]?=some (bareT rooms.length L.2 o)) (so:o.isSome=true->L.2.s ≠ L.2.w) :
  (o=none/\straight L.2 M->(tkOf rooms.length (s.step rooms ms d m M j L.2)).T=(tkOf rooms.length s).T.set j (bareT rooms.length L.2 (some (m,M.t)))/\(s.step rooms ms d m M j L.2).ds=s.ds ++ [.pass false (m:Int) (j:Int) (L.2.s:Int)]/\(s.step rooms ms d m M j L.2).t.ns[m]?.getD 0<=((j + 1:Nat):Int))/\(¬ (o=none/\straight L.2 M)->s.step rooms ms d m M j L.2=s):=by
 have hL':s.t.ls[j]?=some L:=by rw [k.ls];exact hL
 have hj:=(zB.mp hL').1
 obtain ⟨h,hh⟩:∃ h,s.t.hs[j]?=some h:=⟨_,zE (by rw [k.lh];exact hj)⟩
 obtain ⟨row,hx⟩:∃ row,s.toks[j]?=some row:=⟨_,zE (by have:=k.tok.1;rw [zA] at this;omega)⟩
 have hx':(s.toks.map fun x=>((0:Addr),x))[j]?=some (0,row):=by rw [zC,hx];rfl
 obtain ⟨lx,kx,vx⟩:=k.tok.2 j (0,row) h hx' hh
 have ge:=gd.each M (zD hM)
 have eT:tmsOf rooms.length h.2=bareT rooms.length L.2 o:=by
  have:(tkOf rooms.length s).T[j]?=some (tmsOf rooms.length h.2):=by show (s.t.hs.map _)[j]?=_;rw [zC,hh];rfl
  rw [hT] at this;exact (Option.some.inj this).symm
 have kv:∀ w:Nat,w < rooms.length->kvget h.2 (w:Int)=bareO L.2 o w:=fun w hw=>by
  rw [<-oAt_tms hw,eT,bare_at so lb.1 lb.2 hw]
 have has:∀ w:Nat,w < rooms.length->((oAt row (w:Int)).isSome=true ↔ (w=L.2.s\/(o.isSome=true/\w=L.2.w))):=fun w hw=>by
  rw [kx w hw,kv w hw]
  unfold bareO
  by_cases c1:w=L.2.s
  ·rw [if_pos c1];exact ⟨fun _=>.inl c1,fun _=>rfl⟩
  ·rw [if_neg c1]
   cases o with
   | none=>
    refine ⟨fun z=>(by cases z),fun z=>?_⟩
    rcases z with z | ⟨z,_⟩
    ·exact absurd z c1
    ·cases z
   | some x=>
    dsimp only
    by_cases c2:w=L.2.w
    ·rw [if_pos c2];exact ⟨fun _=>.inr ⟨rfl,c2⟩,fun _=>rfl⟩
    ·rw [if_neg c2]
     refine ⟨fun z=>(by cases z),fun z=>?_⟩
     rcases z with z | ⟨_,z⟩
     ·exact absurd z c1
     ·exact absurd z c2
 have flo:∃ a:Nat,M.lo=(a:Int)/\a < rooms.length:=⟨M.lo.toNat,by omega,by omega⟩
 have fhi:∃ a:Nat,M.hi=(a:Int)/\a < rooms.length:=⟨M.hi.toNat,by omega,by omega⟩
 obtain ⟨lo,elo,llo⟩:=flo
 obtain ⟨hi,ehi,lhi⟩:=fhi
 cases eg:loneH M row with
 | none=>
  refine ⟨fun ⟨ho,st⟩=>?_,fun _=>RS.step_skip hx fun g h=>by rw [eg] at h;cases h⟩
  exfalso
  obtain ⟨st1,st2,st3,st4⟩:=st
  subst ho
  have h1:=has lo llo
  have h2:=has hi lhi
  unfold loneH at eg
  rw [elo,ehi] at eg
  have b1:(oAt row (lo:Int)).isNone=!(oAt row (lo:Int)).isSome:=by cases oAt row (lo:Int) <;> rfl
  have b2:(oAt row (hi:Int)).isNone=!(oAt row (hi:Int)).isSome:=by cases oAt row (hi:Int) <;> rfl
  rw [b1,b2] at eg
  by_cases c:lo=L.2.s
  ·have x1:=h1.mpr (.inl c)
   have x2:(oAt row (hi:Int)).isSome=false:=by
    cases z:(oAt row (hi:Int)).isSome with
    | false=>rfl
    | true=>rcases h2.mp z with y | ⟨y,_⟩;omega;cases y
   rw [x1,x2] at eg
   simp at eg
  ·have x1:(oAt row (lo:Int)).isSome=false:=by
    cases z:(oAt row (lo:Int)).isSome with
    | false=>rfl
    | true=>rcases h1.mp z with y | ⟨y,_⟩;omega;cases y
   have x2:=h2.mpr (.inl (by omega))
   rw [x1,x2] at eg
   simp at eg
 | some g=>
  obtain ⟨hg,e1,e2,_⟩:=lone_code (x:=(0,row)) gd k.lh hM k.r hL' hh kx eg
  obtain ⟨tok,et⟩:∃ tok,oAt row g=some tok:=zf.mp e1
  have ob:0<=othI M g/\othI M g < rooms.length/\othI M g ≠ g/\(othI M g=M.lo\/othI M g=M.hi):=by unfold othI;split <;> omega
  obtain ⟨ow,eow⟩:=zO ob.1
  obtain ⟨gw,egw⟩:=zO (show 0<=g by omega)
  have hgw:=(has gw (by omega)).mp (by rw [<-egw];exact e1)
  have how:¬ (ow=L.2.s\/(o.isSome=true/\ow=L.2.w)):=fun z=>by
   have:=(has ow (by omega)).mpr z
   rw [<-eow,e2] at this;cases this
  have cod:=k.code gd hM hL hh hx eg
  by_cases cw:ow=L.2.w
  ·have on:o=none:=by
    cases o with
    | none=>rfl
    | some x=>exact absurd (.inr ⟨rfl,cw⟩) how
   have gs:gw=L.2.s:=by
    rcases hgw with z | ⟨z,_⟩
    ·exact z
    ·rw [on] at z;cases z
   have nsw:L.2.s ≠ L.2.w:=fun z=>how (.inl (by omega))
   have egs:g=(L.2.s:Int):=by omega
   have eos:othI M g=(L.2.w:Int):=by omega
   have kg:kvget h.2 g=some L.2.a:=by rw [egw,kv gw (by omega)];unfold bareO;rw [if_pos gs]
   have es:d.share L.2 g (othI M g) tok=some 0:=by rw [eos];exact share_wish d L.2 g tok
   have tk:takB L.2 (othI M g)=false:=by unfold takB;rw [eos];simp
   by_cases bl:L.2.a < M.t
   ·have st:straight L.2 M:=⟨bl,nsw,by omega,by omega⟩
    have c:codeT rooms ms s.t (.pass false (m:Int) (j:Int) g)=8:=by
     refine cod.mpr ⟨by rw [kg];simpa [below] using bl,?_,fun z=>by rw [tk] at z;cases z.1⟩
     have:=wd.m M (zD hM)
     have:j < ls.length:=(zB.mp hL).1
     omega
    refine ⟨fun _=>?_,fun z=>absurd ⟨on,st⟩ z⟩
    obtain ⟨n9,h9,en,ln9,hh9,ehs⟩:=doneT_hs k.lh .non c
    obtain rfl:n9=j:=by have:(j:Int)=n9:=en;omega
    rw [hh] at hh9;cases hh9
    obtain ⟨d1,d2,d3⟩:=doneT_pass (t:=s.t) (gv:=false) (g:=g) (y:=.non) hM hL'
    have kn:kvNext ms h.2 (.pass false (m:Int) (n9:Int) g)=kvput h.2 (othI M g) M.t:=by
     unfold kvNext;dsimp only;rw [zF,hM];rfl
    rw [RS.step_do hx eg et es c]
    refine ⟨?_,by rw [egs],?_⟩
    ·have mm:∀ xs:List (Addr × List (Int × Int)),(xs.map fun h=>tmsOf rooms.length h.2)=(xs.map (·.2)).map (tmsOf rooms.length):=fun xs=>by rw [zX];rfl
     show ((s.t.doneT ms .non (.pass false (m:Int) (n9:Int) g)).hs.map fun h=>tmsOf rooms.length h.2)=(s.t.hs.map fun h=>tmsOf rooms.length h.2).set n9 _
     rw [mm,ehs,kn,zw,<- mm,eow,<- tms_set (by omega),eT,on,cw];rfl
    ·show (s.t.doneT ms .non (.pass false (m:Int) (n9:Int) g)).ns[m]?.getD 0<=_
     rw [d2,set_getD]
     split <;> omega
   ·refine ⟨fun ⟨_,st⟩=>absurd st.1 bl,fun _=>RS.step_skip hx fun g' h'=>.inr fun c8=>?_⟩
    rw [eg] at h';cases h'
    have:=(cod.mp c8).1
    rw [kg] at this
    exact bl (by simpa [below] using this)
  ·have tk:takB L.2 (othI M g)=true:=by
    unfold takB
    rw [eow,decide_eq_false (fun z=>how (.inl (by omega))),decide_eq_false (by omega)];rfl
   refine ⟨fun ⟨on,st⟩=>?_,fun _=>RS.step_skip hx fun g' h'=>.inr fun c8=>?_⟩
   ·exfalso
    obtain ⟨_,st2,st3,st4⟩:=st
    have gs:gw=L.2.s:=by
     rcases hgw with z | ⟨z,_⟩
     ·exact z
     ·rw [on] at z;cases z
    omega
   ·rw [eg] at h';cases h'
    refine (cod.mp c8).2.2 ⟨tk,?_⟩
    have hr:rooms[(othI M g).toNat]?=some (rooms[(othI M g).toNat]'(by omega)):=zE (by omega)
    have:=wd.r _ (zD hr)
    rw [hr]
    dsimp only [ym]
    omega
def newD (ms:List M4) (ls:List (Addr × L4)) (m:Nat) (M:M4) (j:Nat):List Dd:=(List.range j).filterMap fun i=>match ls[i]? with
 | some L=>if fsS ms L.2 m=none/\straight L.2 M then some (.pass false (m:Int) (i:Int) (L.2.s:Int)) else none
 | none=>none
def dsB (ms:List M4) (ls:List (Addr × L4)):Nat->List Dd
 | 0=>[]
 | m + 1=>match ms[m]? with
  | some M=>dsB ms ls m ++ newD ms ls m M ls.length
  | none=>dsB ms ls m
theorem wP {L:L4} (hM:ms[m]?=some M):fsS ms L (m + 1)=if fsS ms L m=none/\straight L M then some (m,M.t) else fsS ms L m:=by
 show (match fsS ms L m with | some x=>some x | none=>match ms[m]? with | some M=>if straight L M then some (m,M.t) else none | none=>none)=_
 cases e:fsS ms L m with
 | some x=>rw [if_neg (fun z=>by cases z.1)]
 | none=>
  dsimp only
  rw [hM]
  dsimp only
  by_cases c:straight L M
  ·rw [if_pos c,if_pos ⟨rfl,c⟩]
  ·rw [if_neg c,if_neg (fun z=>c z.2)]
theorem fsS_ne {L:L4}:∀ m,(fsS ms L m).isSome=true->L.s ≠ L.w
 | 0,h=>by cases h
 | m + 1,h=>by
  cases hM:ms[m]? with
  | none=>
   have:fsS ms L (m + 1)=fsS ms L m:=by
    show (match fsS ms L m with | some x=>some x | none=>match ms[m]? with | some M=>_ | none=>none)=_
    cases fsS ms L m with
    | some x=>rfl
    | none=>dsimp only;rw [hM]
   rw [this] at h;exact fsS_ne m h
  | some M=>
   rw [wP hM] at h
   split at h
   ·rename_i c;exact c.2.2.1
   ·exact fsS_ne m h
theorem bare_meet (gd:Good rooms.length ms) (wd:BareB rooms ms) (l41:ls.length<=41) (lb:∀ l ∈ ls,l.2.s < rooms.length/\l.2.w < rooms.length) (hM:ms[m]?=some M) (k:RSok rooms ms ls m s) (hn:s.t.ns[m]?.getD 0=0) (hT:∀ (i:Nat) L,ls[i]?=some L->(tkOf rooms.length s).T[i]?=some (bareT rooms.length L.2 (fsS ms L.2 m))):∀ j,j<=ls.length->RSok rooms ms ls m (meetTo rooms ms d ls m M s j)/\(meetTo rooms ms d ls m M s j).t.ns[m]?.getD 0<=(j:Int)/\(∀ (i:Nat) L,ls[i]?=some L->(tkOf rooms.length (meetTo rooms ms d ls m M s j)).T[i]?=some (bareT rooms.length L.2 (if i < j then fsS ms L.2 (m + 1) else fsS ms L.2 m)))/\(meetTo rooms ms d ls m M s j).ds=s.ds ++ newD ms ls m M j
 | 0,_=>⟨k,by show s.t.ns[m]?.getD 0<=_;rw [hn];omega,fun i L hL=>by rw [if_neg (yq _)];exact hT i L hL,by show s.ds=s.ds ++ [];rw [za]⟩
 | j + 1,hj=>by
  obtain ⟨k',n',e',d'⟩:=bare_meet gd wd l41 lb hM k hn hT j (by omega)
  obtain ⟨L,hL⟩:∃ L,ls[j]?=some L:=⟨_,zE (by omega)⟩
  have mS:meetTo rooms ms d ls m M s (j + 1)=(meetTo rooms ms d ls m M s j).step rooms ms d m M j L.2:=by
   show (match ls[j]? with | some L=>_ | none=>_)=_
   rw [hL]
  have hTj:=e' j L hL
  rw [if_neg (ze _)] at hTj
  obtain ⟨a1,a2⟩:=bare_step (d:=d) k' gd wd l41 (lb L (zD hL)) hM hL n' hTj (fsS_ne m)
  have nd:newD ms ls m M (j + 1)=newD ms ls m M j ++ (if fsS ms L.2 m=none/\straight L.2 M then [Dd.pass false (m:Int) (j:Int) (L.2.s:Int)] else []):=by
   unfold newD
   rw [yt,zy]
   congr 1
   rw [zi,hL]
   dsimp only
   by_cases c:fsS ms L.2 m=none/\straight L.2 M
   ·rw [if_pos c,if_pos c];rfl
   ·rw [if_neg c,if_neg c];rfl
  have other:∀ (i:Nat) L',ls[i]?=some L'->i ≠ j->(if i < j then fsS ms L'.2 (m + 1) else fsS ms L'.2 m)=if i < j + 1 then fsS ms L'.2 (m + 1) else fsS ms L'.2 m:=fun i L' _ ij=>by
   by_cases c:i < j
   ·rw [if_pos c,if_pos (by omega)]
   ·rw [if_neg c,if_neg (by omega)]
  rw [mS,nd]
  refine ⟨k'.step gd hM hL,?_⟩
  by_cases c:fsS ms L.2 m=none/\straight L.2 M
  ·obtain ⟨b1,b2,b3⟩:=a1 c
   refine ⟨b3,fun i L' hL'=>?_,by rw [b2,d',if_pos c,List.append_assoc]⟩
   rw [b1,zZ]
   by_cases ij:j=i
   ·subst ij
    rw [hL] at hL';cases hL'
    rw [if_pos rfl,if_pos (zB.mp hTj).1,if_pos (yB _),wP hM,if_pos c]
   ·rw [if_neg ij,e' i L' hL',other i L' hL' (fun z=>ij z.symm)]
  ·rw [a2 c]
   refine ⟨by omega,fun i L' hL'=>?_,by rw [d',if_neg c,za]⟩
   rw [e' i L' hL']
   by_cases ij:i=j
   ·subst ij
    rw [hL] at hL';cases hL'
    rw [if_neg (ze _),if_pos (yB _),wP hM,if_neg c]
   ·rw [other i L' hL' ij]
theorem bare_run (gd:Good rooms.length ms) (wd:BareB rooms ms) (l41:ls.length<=41) (lb:∀ l ∈ ls,l.2.s < rooms.length/\l.2.w < rooms.length) (b:0<=d.first/\d.first<=64):∀ m,RSok rooms ms ls m (runTo rooms ms d ls m)/\(runTo rooms ms d ls m).t.ns[m]?.getD 0=0/\(∀ (i:Nat) L,ls[i]?=some L->(tkOf rooms.length (runTo rooms ms d ls m)).T[i]?=some (bareT rooms.length L.2 (fsS ms L.2 m)))/\(runTo rooms ms d ls m).ds=dsB ms ls m
 | 0=>by
  obtain ⟨k,hn⟩:=RSok.start (rooms:=rooms) (ms:=ms) (d:=d) (ls:=ls) b
  refine ⟨k,hn,fun i L hL=>?_,rfl⟩
  show ((ls.map fun l=>((0:Addr),[((l.2.s:Int),l.2.a)])).map fun h=>tmsOf rooms.length h.2)[i]?=_
  rw [zC,zC,hL]
  show some (tmsOf rooms.length [((L.2.s:Int),L.2.a)])=some (rep rooms.length (lone L.2.s L.2.a))
  congr 1
  unfold rep tmsOf lone
  refine yF fun x _=>?_
  rw [wV]
  by_cases c:x=L.2.s
  ·rw [if_pos c,if_pos (by omega)]
  ·rw [if_neg c,if_neg (by omega)]
 | m + 1=>by
  obtain ⟨k,hn,e,ed⟩:=bare_run gd wd l41 lb b m
  cases hM:ms[m]? with
  | none=>
   have er:runTo rooms ms d ls (m + 1)=runTo rooms ms d ls m:=by
    show (match ms[m]? with | some M=>_ | none=>_)=_
    rw [hM]
   have ef:∀ L,fsS ms L (m + 1)=fsS ms L m:=fun L=>by
    show (match fsS ms L m with | some x=>some x | none=>match ms[m]? with | some M=>_ | none=>none)=_
    cases fsS ms L m with
    | some x=>rfl
    | none=>dsimp only;rw [hM]
   have eb:dsB ms ls (m + 1)=dsB ms ls m:=by
    show (match ms[m]? with | some M=>_ | none=>_)=_
    rw [hM]
   rw [er,eb]
   exact ⟨k.mono,k.ns (m + 1) (by omega),fun i L hL=>by rw [ef];exact e i L hL,ed⟩
  | some M=>
   have er:runTo rooms ms d ls (m + 1)=meetTo rooms ms d ls m M (runTo rooms ms d ls m) ls.length:=by
    show (match ms[m]? with | some M=>_ | none=>_)=_
    rw [hM]
   have eb:dsB ms ls (m + 1)=dsB ms ls m ++ newD ms ls m M ls.length:=by
    show (match ms[m]? with | some M=>_ | none=>_)=_
    rw [hM]
   rw [er,eb]
   obtain ⟨k',_,e',d'⟩:=bare_meet (d:=d) gd wd l41 lb hM k hn e ls.length (zJ _)
   refine ⟨k'.mono,k'.ns (m + 1) (by omega),fun i L hL=>?_,by rw [d',ed]⟩
   rw [e' i L hL,if_pos (zB.mp hL).1]
def rowD:Dd->List Int
 | .pass _ m l g=>[m,l,g]
 | _=>[]
def dueB (ms:List M4) (ls:List (Addr × L4)) (N:Nat) (k:Nat):List (List Int):=(List.range k).filterMap fun j=>match ls[j]? with
 | some L=>(fsS ms L.2 N).map fun x=>[(x.1:Int),(j:Int),(L.2.s:Int)]
 | none=>none
theorem mem_newD {j:Nat}{x:Dd}:x ∈ newD ms ls m M j ↔ ∃ (i:Nat) (L:Addr × L4),i < j/\ls[i]?=some L/\(fsS ms L.2 m=none/\straight L.2 M)/\x=.pass false (m:Int) (i:Int) (L.2.s:Int):=by
 unfold newD
 rw [z4]
 constructor
 ·rintro ⟨i,hi,e⟩
  cases hL:ls[i]? with
  | none=>rw [hL] at e;cases e
  | some L=>
   rw [hL] at e
   dsimp only at e
   split at e
   ·rename_i c;exact ⟨i,L,zn.mp hi,hL,c,(Option.some.inj e).symm⟩
   ·cases e
 ·rintro ⟨i,L,hi,hL,c,rfl⟩
  exact ⟨i,zn.mpr hi,by rw [hL];dsimp only;rw [if_pos c]⟩
theorem mem_dsB {x:Dd}:∀ N,N<=ms.length->(x ∈ dsB ms ls N ↔ ∃ (j:Nat) (L:Addr × L4) (y:Nat × Int),ls[j]?=some L/\fsS ms L.2 N=some y/\y.1 < N/\x=.pass false (y.1:Int) (j:Int) (L.2.s:Int))
 | 0,_=>⟨fun z=>(nomatch z),fun z=>(by obtain ⟨j,L,y,_,z,_⟩:=z;cases z)⟩
 | N + 1,hN=>by
  obtain ⟨M,hM⟩:∃ M,ms[N]?=some M:=⟨_,zE (by omega)⟩
  have eb:dsB ms ls (N + 1)=dsB ms ls N ++ newD ms ls N M ls.length:=by
   show (match ms[N]? with | some M=>_ | none=>_)=_
   rw [hM]
  rw [eb,zW,mem_dsB N (by omega),mem_newD]
  constructor
  ·rintro (⟨j,L,y,hL,hy,ly,rfl⟩ | ⟨j,L,_,hL,c,rfl⟩)
   ·exact ⟨j,L,y,hL,by rw [wP hM,if_neg (fun z=>by rw [hy] at z;cases z.1)];exact hy,by omega,rfl⟩
   ·exact ⟨j,L,(N,M.t),hL,by rw [wP hM,if_pos c],yB _,rfl⟩
  ·rintro ⟨j,L,y,hL,hy,ly,rfl⟩
   rw [wP hM] at hy
   split at hy
   ·rename_i c
    cases hy
    exact .inr ⟨j,L,(zB.mp hL).1,hL,c,rfl⟩
   ·refine .inl ⟨j,L,y,hL,hy,?_,rfl⟩
    have lt:∀ k z,fsS ms L.2 k=some z->z.1 < k:=by
     intro k
     induction k with
     | zero=>intro z h;cases h
     | succ k ih=>
      intro z h
      have h':(match fsS ms L.2 k with | some x=>some x | none=>match ms[k]? with | some M=>if straight L.2 M then some (k,M.t) else none | none=>none)=some z:=h
      cases e:fsS ms L.2 k with
      | some y=>rw [e] at h';cases h';have:=ih _ e;omega
      | none=>
       rw [e] at h'
       dsimp only at h'
       cases e2:ms[k]? with
       | none=>rw [e2] at h';cases h'
       | some M'=>
        rw [e2] at h'
        dsimp only at h'
        split at h'
        ·cases h';exact yB _
        ·cases h'
    exact lt N y hy
theorem lx_lt {a b:Int}{xs ys:List Int} (h:a < b):lx (a :: xs) (b :: ys)=true:=by unfold lx;rw [if_neg (by omega)];exact decide_eq_true h
theorem lx_eq {a:Int}{xs ys:List Int}:lx (a :: xs) (a :: ys)=lx xs ys:=by simp [lx]
theorem dsB_sorted:∀ N,N<=ms.length->((dsB ms ls N).map rowD).Pairwise fun a b=>lx a b=true
 | 0,_=>List.Pairwise.nil
 | N + 1,hN=>by
  obtain ⟨M,hM⟩:∃ M,ms[N]?=some M:=⟨_,zE (by omega)⟩
  have eb:dsB ms ls (N + 1)=dsB ms ls N ++ newD ms ls N M ls.length:=by
   show (match ms[N]? with | some M=>_ | none=>_)=_
   rw [hM]
  rw [eb,zN]
  refine yQ.mpr ⟨dsB_sorted N (by omega),?_,fun a ha b hb=>?_⟩
  ·have key:∀ j,((newD ms ls N M j).map rowD).Pairwise fun a b=>lx a b=true:=by
    intro j
    induction j with
    | zero=>exact List.Pairwise.nil
    | succ j ih=>
     have:newD ms ls N M (j + 1)=newD ms ls N M j ++ ([j].filterMap fun i=>match ls[i]? with
      | some L=>if fsS ms L.2 N=none/\straight L.2 M then some (Dd.pass false (N:Int) (i:Int) (L.2.s:Int)) else none
      | none=>none):=by
      unfold newD;rw [yt,zy]
     rw [this,zN]
     refine yQ.mpr ⟨ih,?_,fun a ha b hb=>?_⟩
     ·rw [zi]
      split
      ·exact List.Pairwise.nil
      ·exact zt _ _
     ·obtain ⟨x,hx,rfl⟩:=zM.mp ha
      obtain ⟨y,hy,rfl⟩:=zM.mp hb
      obtain ⟨i,L,hi,hL,c,rfl⟩:=mem_newD.mp hx
      obtain ⟨i2,hi2,e⟩:=z4.mp hy
      obtain rfl:=zI.mp hi2
      cases hL2:ls[i2]? with
      | none=>rw [hL2] at e;cases e
      | some L2=>
       rw [hL2] at e
       dsimp only at e
       split at e
       ·cases e
        show lx [(N:Int),(i:Int),_] [(N:Int),(i2:Int),_]=true
        rw [lx_eq]
        exact lx_lt (by omega)
       ·cases e
   exact key _
  ·obtain ⟨x,hx,rfl⟩:=zM.mp ha
   obtain ⟨y,hy,rfl⟩:=zM.mp hb
   obtain ⟨j,L,z,hL,hz,lz,rfl⟩:=(mem_dsB N (by omega)).mp hx
   obtain ⟨i,L2,_,_,_,rfl⟩:=mem_newD.mp hy
   exact lx_lt (by omega)
theorem mem_dueB {N k:Nat}{r:List Int}:r ∈ dueB ms ls N k ↔ ∃ (j:Nat) (L:Addr × L4) (y:Nat × Int),j < k/\ls[j]?=some L/\fsS ms L.2 N=some y/\r=[(y.1:Int),(j:Int),(L.2.s:Int)]:=by
 unfold dueB
 rw [z4]
 constructor
 ·rintro ⟨j,hj,e⟩
  cases hL:ls[j]? with
  | none=>rw [hL] at e;cases e
  | some L=>
   rw [hL] at e
   dsimp only at e
   cases hy:fsS ms L.2 N with
   | none=>rw [hy] at e;cases e
   | some y=>rw [hy] at e;exact ⟨j,L,y,zn.mp hj,hL,hy,(Option.some.inj e).symm⟩
 ·rintro ⟨j,L,y,hj,hL,hy,rfl⟩
  exact ⟨j,zn.mpr hj,by rw [hL];dsimp only;rw [hy];rfl⟩
theorem dueB_nodup {N:Nat}:∀ k,(dueB ms ls N k).Nodup
 | 0=>List.nodup_nil
 | k + 1=>by
  have:dueB ms ls N (k + 1)=dueB ms ls N k ++ ([k].filterMap fun j=>match ls[j]? with
   | some L=>(fsS ms L.2 N).map fun x=>[(x.1:Int),(j:Int),(L.2.s:Int)]
   | none=>none):=by
   unfold dueB;rw [yt,zy]
  rw [this]
  refine List.nodup_append.mpr ⟨dueB_nodup k,?_,fun a ha b hb z=>?_⟩
  ·rw [zi]
   split
   ·exact List.nodup_nil
   ·exact zt _ _
  ·obtain ⟨j,L,y,hj,hL,hy,rfl⟩:=mem_dueB.mp ha
   obtain ⟨i2,hi2,e⟩:=z4.mp hb
   obtain rfl:=zI.mp hi2
   cases hL2:ls[i2]? with
   | none=>rw [hL2] at e;cases e
   | some L2=>
    rw [hL2] at e
    dsimp only at e
    cases hy2:fsS ms L2.2 N with
    | none=>rw [hy2] at e;cases e
    | some y2=>
     rw [hy2] at e
     have e':=Option.some.inj e
     rw [<-z] at e'
     have:((i2:Int))=(j:Int):=(List.cons.inj (List.cons.inj e').2).1
     omega
theorem bare_sorted {rs:List (List Int)} (p:rs.Perm (dueB ms ls ms.length ls.length)) (s:rs.Pairwise fun a b=>lx b a=false):rs=(dsB ms ls ms.length).map rowD:=by
 have st:=dsB_sorted (ms:=ms) (ls:=ls) ms.length (zJ _)
 have asy:∀ {a b:List Int},lx a b=true->lx b a=false:=fun {a b} h=>by
  cases z:lx b a with
  | false=>rfl
  | true=>have:=lx_tr h z;rw [lx_irr] at this;cases this
 have nd:((dsB ms ls ms.length).map rowD).Nodup:=st.imp fun {a b} h z=>by rw [z,lx_irr] at h;cases h
 have pm:((dsB ms ls ms.length).map rowD).Perm (dueB ms ls ms.length ls.length):=by
  refine (List.perm_ext_iff_of_nodup nd (dueB_nodup _)).mpr fun r=>?_
  rw [zM,mem_dueB]
  constructor
  ·rintro ⟨x,hx,rfl⟩
   obtain ⟨j,L,y,hL,hy,_,rfl⟩:=(mem_dsB ms.length (zJ _)).mp hx
   exact ⟨j,L,y,(zB.mp hL).1,hL,hy,rfl⟩
  ·rintro ⟨j,L,y,hj,hL,hy,rfl⟩
   have lt:y.1 < ms.length:=by
    have:∀ k z,k<=ms.length->fsS ms L.2 k=some z->z.1 < ms.length:=by
     intro k
     induction k with
     | zero=>intro z _ h;cases h
     | succ k ih=>
      intro z hk h
      obtain ⟨M,hM⟩:∃ M,ms[k]?=some M:=⟨_,zE (by omega)⟩
      rw [wP hM] at h
      split at h
      ·cases h;omega
      ·exact ih z (by omega) h
    exact this _ _ (zJ _) hy
   exact ⟨_,(mem_dsB ms.length (zJ _)).mpr ⟨j,L,y,hL,hy,lt,rfl⟩,rfl⟩
 exact (p.trans pm.symm).eq_of_pairwise (fun a b _ _ h1 h2=>lx_tot h2 h1) s (st.imp fun h=>asy h)
end
end Sm
set_option Elab.async false
set_option linter.all false
set_option maxRecDepth 100000
set_option maxHeartbeats 400000
namespace Sm
open PySem L2 SmSort
def wideM (M:M4):M4:=⟨M.lo,M.hi,M.t,99⟩
theorem Good.wide {w:Int}{ms:List M4} (g:Good w ms):Good w (ms.map wideM):=by
 refine ⟨by rw [zA];exact g.few,fun r hr=>?_,?_⟩
 ·obtain ⟨M,hM,rfl⟩:=zM.mp hr
  have:=g.each M hM
  exact ⟨this.1,this.2.1,this.2.2.1,this.2.2.2.1,this.2.2.2.2.1,by show (1:Int)<=99;decide,by show (99:Int)<=99;decide⟩
 ·exact List.pairwise_map.mpr (g.order.imp fun h=>h)
def spWide58:Sp:=fun vs H Q _=>∃ b r rooms tr tm ps,vs=[.ref b,.int r]/\BookAt H b rooms tr tm ps/\rooms.length<=12/\ps.length<=60/\∀ b2 tr2 tm2 ps2 H',Same H H'->BookAt H' b2 (List.replicate rooms.length r) tr2 tm2 ps2->ps2.map (·.2)=(ps.map (·.2)).map wideM->Q (.ref b2) H'
def spRule58 (CA CH CN:Addr):Sp:=fun vs H Q _=>∃ p p2,∃ n:Nat,vs=[.ref p,.ref p2,.int (n:Int)]/\1<=n/\n<=12/\Purse H p/\Purse H p2/\p ≠ p2/\∀ r d H',(∀ c o,c ≠ p->c ≠ p2->H c=some o->H' c=some o)->RuleIs CA CH CN H' r n d->Q (.ref r) H'
def spThree58:Sp:=fun vs H Q _=>∃ p dl tl kl,∃ k:Nat,∃ xs ys zs:List V,vs=[.ref p,.int (k:Int)]/\H p=some (.tup [.ref dl,.ref tl,.ref kl])/\H dl=some (.lst xs)/\H tl=some (.lst ys)/\H kl=some (.lst zs)/\ys.length=k/\zs.length=k/\Q (.bl true) H
def stV (ms:List M4) (L:L4):Int:=match fsS ms L ms.length with
 | some x=>(x.1:Int)
 | none=>-1
def spStraight58:Sp:=fun vs H Q _=>∃ b lt rooms tr tm ps L,vs=[.ref b,.ref lt]/\BookAt H b rooms tr tm ps/\ps.length<=60/\H lt=some (.tup (letRow L))/\∀ H',Same H H'->Q (.int (stV (ps.map (·.2)) L)) H'
def spBare58 (C CA CH CN:Addr):Sp:=fun vs H Q _=>∃ b ll r ls rooms tr tm ps d,vs=[.ref b,.ref ll,.ref r]/\BookAt H b rooms tr tm ps/\1<=rooms.length/\rooms.length<=12/\(∀ r ∈ rooms,r=(0:Int))/\(∀ M ∈ ps.map (·.2),M.m=99)/\Good rooms.length (ps.map (·.2))/\LetsL H ll ls/\ls.length<=41/\(∀ l ∈ ls,l.2.s < rooms.length/\l.2.w < rooms.length)/\RuleIs CA CH CN H r rooms.length d/\∀ H',Same H H'->Q (.bl true) H'
theorem eqV_refl {x:V} (h:flatV x=true):eqV x x=true:=by
 cases x with
 | non=>rfl
 | bl b=>show (b == b)=true;simp
 | int i=>show (i == i)=true;simp
 | str z=>show (z == z)=true;simp
 | _=>cases h
theorem eqv_flatS {K:PySem.W.Frag}{H:Hp}{n:Nat}{a c:Addr}{xs:List V} (hf:∀ x ∈ xs,flatV x=true) (h:(SqL K H a xs/\SqL K H c xs)\/(SqT K H a xs/\SqT K H c xs)):Eqv K H (n + 1) (.ref a) (.ref c) true:=by
 refine .inr (.inr ⟨a,c,xs,xs,fun _=>true,rfl,rfl,h,fun _=>rfl,by simp,fun i x y hx hy=>?_⟩)
 rw [hx] at hy;cases hy
 have f:=hf x (zD hx)
 cases n with
 | zero=>exact .inr ⟨f,f,(eqV_refl f).symm⟩
 | succ n=>exact .inr (.inl ⟨f,f,(eqV_refl f).symm⟩)
theorem eqv_refs {K:PySem.W.Frag}{H:Hp}{n:Nat}{a c:Addr}{as cs:List Addr} (le:as.length=cs.length) (h:∀ (i:Nat) x y,as[i]?=some x->cs[i]?=some y->Eqv K H n (.ref x) (.ref y) true) (hl:H a=some (.lst (as.map V.ref))) (hc:H c=some (.lst (cs.map V.ref))):Eqv K H (n + 1) (.ref a) (.ref c) true:=by
 refine .inr (.inr ⟨a,c,_,_,fun _=>true,rfl,rfl,.inl ⟨SqL.of hl,SqL.of hc⟩,fun _=>rfl,by simp [le],fun i x y hx hy=>?_⟩)
 obtain ⟨u,hu,rfl⟩:=xz hx
 obtain ⟨v,hv,rfl⟩:=xz hy
 exact h i u v hu hv
theorem ne_three {K:PySem.W.Frag}{H:Hp} {p q a b c a2 b2 c2:Addr}{Q:VK} (hp:H p=some (.tup [.ref a,.ref b,.ref c])) (hq:H q=some (.tup [.ref a2,.ref b2,.ref c2])) (h1:Eqv K H 2 (.ref a) (.ref a2) true) (h2:Eqv K H 2 (.ref b) (.ref b2) true) (h3:Eqv K H 2 (.ref c) (.ref c2) true) (z:Q (.bl false) H):rEqv K true (.ref p) (.ref q) H Q:=by
 refine ⟨2,p,q,_,_,fun _=>true,true,by decide,rfl,rfl,.inr ⟨SqT.of hp,SqT.of hq⟩,by simp,fun i x y hx hy=>?_,z⟩
 match i,hx,hy with
 | 0,hx,hy=>cases hx;cases hy;exact h1
 | 1,hx,hy=>cases hx;cases hy;exact h2
 | 2,hx,hy=>cases hx;cases hy;exact h3
 | i + 3,hx,hy=>cases hx
section
variable {ms:List M4}{L:L4}{M:M4}{m:Nat}
theorem fsS_stay {x:Nat × Int}:∀ {m:Nat} (k:Nat),fsS ms L m=some x->fsS ms L (m + k)=some x
 | m,0,h=>h
 | m,k + 1,h=>by
  have ih:=fsS_stay k h
  show (match fsS ms L (m + k) with | some x=>some x | none=>match ms[m + k]? with | some M=>if straight L M then some (m + k,M.t) else none | none=>none)=_
  rw [ih]
theorem fsS_hit (h:fsS ms L m=none) (hM:ms[m]?=some M) (st:straight L M):fsS ms L ms.length=some (m,M.t):=by
 have e:fsS ms L (m + 1)=some (m,M.t):=by rw [wP hM,if_pos ⟨h,st⟩]
 have lt:=(zB.mp hM).1
 have:=fsS_stay (ms.length - (m + 1)) e
 rwa [show m + 1 + (ms.length - (m + 1))=ms.length by omega] at this
theorem fsS_miss (h:fsS ms L m=none) (hM:ms[m]?=some M) (st:¬ straight L M):fsS ms L (m + 1)=none:=by rw [wP hM,if_neg (fun z=>st z.2)];exact h
theorem fsS_is:∀ (m:Nat) x,fsS ms L m=some x->∃ M,ms[x.1]?=some M/\M.t=x.2
 | 0,x,h=>by cases h
 | m + 1,x,h=>by
  cases hM:ms[m]? with
  | none=>
   have:fsS ms L (m + 1)=fsS ms L m:=by
    show (match fsS ms L m with | some x=>some x | none=>match ms[m]? with | some M=>_ | none=>none)=_
    cases fsS ms L m with
    | some x=>rfl
    | none=>dsimp only;rw [hM]
   rw [this] at h;exact fsS_is m x h
  | some M=>
   rw [wP hM] at h
   split at h
   ·cases h;exact ⟨M,hM,rfl⟩
   ·exact fsS_is m x h
theorem dueB_succ {ls:List (Addr × L4)}{N k:Nat}{Lk:Addr × L4} (hL:ls[k]?=some Lk):dueB ms ls N (k + 1)=dueB ms ls N k ++ (match fsS ms Lk.2 N with | some x=>[[(x.1:Int),(k:Int),(Lk.2.s:Int)]] | none=>[]):=by
 unfold dueB
 rw [yt,zy]
 congr 1
 rw [zi,hL]
 dsimp only
 cases fsS ms Lk.2 N <;> rfl
end
theorem set_lone {n s0:Nat}{v:Int} (hs:s0 < n):(List.replicate n (none:Option Int)).set s0 (some v)=rep n (lone s0 v):=by
 refine yg fun k=>?_
 rw [zZ,yR]
 unfold rep lone
 rw [zC]
 by_cases hk:k < n
 ·rw [List.getElem?_range hk,if_pos hk]
  by_cases e:s0=k
  ·subst e;rw [if_pos rfl,if_pos (by rw [zY];exact hs)];show _=some (if s0=s0 then some v else none);rw [if_pos rfl]
  ·rw [if_neg e];show _=some (if k=s0 then some v else none);rw [if_neg (fun z=>e z.symm)]
 ·rw [if_neg (by omega),if_neg hk,zp (by rw [zv];omega)];rfl
section
variable {rooms:List Int}{ms:List M4}{ls:List (Addr × L4)}{d:RuleD}{m:Nat}{M:M4}{s:RS}
theorem step_len {j:Nat}{L:L4}:(s.step rooms ms d m M j L).ds.length<=s.ds.length + 1:=by
 unfold RS.step
 split
 ·omega
 ·split
  ·omega
  ·split
   ·show (s.ds ++ [_]).length<=_
    rw [zT];exact zJ _
   ·omega
theorem meet_len:∀ j,(meetTo rooms ms d ls m M s j).ds.length<=s.ds.length + j
 | 0=>zJ _
 | j + 1=>by
  have ih:=meet_len j
  unfold meetTo
  split
  ·rename_i L _
   have:=step_len (rooms:=rooms) (ms:=ms) (d:=d) (m:=m) (M:=M) (s:=meetTo rooms ms d ls m M s j) (j:=j) (L:=L.2);omega
  ·omega
theorem run_len:∀ m,(runTo rooms ms d ls m).ds.length<=m * ls.length
 | 0=>zb _
 | m + 1=>by
  have ih:=run_len m
  unfold runTo
  rw [Nat.succ_mul]
  split
  ·rename_i M _
   have:=meet_len (rooms:=rooms) (ms:=ms) (ls:=ls) (d:=d) (m:=m) (M:=M) (s:=runTo rooms ms d ls m) ls.length;omega
  ·omega
end
def toD0 (x:Int × Int):Dd:=.pass false x.1 0 x.2
theorem alone_ds {ms:List M4}:∀ {ds:List Dd},(∀ x ∈ ds,IsCopy ms 1 x)->ds=(ds.filterMap (pickD 0)).map toD0
 | [],_=>rfl
 | x :: ds,h=>by
  obtain ⟨m,j,g,M,rfl,_,hj,_⟩:=h x yb
  obtain rfl:j=0:=by omega
  have ih:=alone_ds (ds:=ds) fun y hy=>h y (zo _ hy)
  have e:pickD 0 (Dd.pass false (m:Int) ((0:Nat):Int) g)=some ((m:Int),g):=by show (if ((0:Nat):Int)=((0:Nat):Int) then some ((m:Int),g) else none)=_;rw [if_pos rfl]
  rw [zi,e,zj,<- ih];rfl
theorem flat_deed (x:Int × Int):∀ v ∈ (toD0 x).vs,flatV v=true:=by
 intro v hv
 have hv':v ∈ [V.str (Str.ofString "copy"),V.int x.1,V.int 0,V.int x.2]:=hv
 simp only [zR,List.not_mem_nil,or_false] at hv'
 rcases hv' with rfl | rfl | rfl | rfl <;> rfl
theorem flat_row (os:List (Option Int)):∀ v ∈ os.map oV,flatV v=true:=fun v hv=>by
 obtain ⟨o,_,rfl⟩:=zM.mp hv
 cases o <;> rfl
theorem eqv_deeds {K:PySem.W.Frag}{H:Hp}{l c:Addr}{ys zs:List (Addr × Dd)}{xs:List (Int × Int)} (ey:ys.map (·.2)=xs.map toD0) (ez:zs.map (·.2)=xs.map toD0) (hy:H l=some (.lst (ys.map fun y=>V.ref y.1))) (hz:H c=some (.lst (zs.map fun y=>V.ref y.1))) (dy:DsAt H ys) (dz:DsAt H zs):Eqv K H 2 (.ref l) (.ref c) true:=by
 have ly:ys.length=xs.length:=by have:=congrArg List.length ey;rwa [zA,zA] at this
 have lz:zs.length=xs.length:=by have:=congrArg List.length ez;rwa [zA,zA] at this
 refine eqv_refs (as:=ys.map (·.1)) (cs:=zs.map (·.1)) (by rw [zA,zA];omega) (fun i a b ha hb=>?_) (by rw [hy,zX];rfl) (by rw [hz,zX];rfl)
 rw [zC] at ha hb
 obtain ⟨y,hy',rfl⟩:=Option.map_eq_some_iff.mp ha
 obtain ⟨z,hz',rfl⟩:=Option.map_eq_some_iff.mp hb
 obtain ⟨x,hx⟩:∃ x,xs[i]?=some x:=⟨_,zE (by rw [<-ly];exact (zB.mp hy').1)⟩
 have e1:y.2=toD0 x:=by
  have:(ys.map (·.2))[i]?=some y.2:=by rw [zC,hy'];rfl
  rw [ey,zC,hx] at this;exact (Option.some.inj this).symm
 have e2:z.2=toD0 x:=by
  have:(zs.map (·.2))[i]?=some z.2:=by rw [zC,hz'];rfl
  rw [ez,zC,hx] at this;exact (Option.some.inj this).symm
 have k1:=dy y (zD hy')
 have k2:=dz z (zD hz')
 rw [e1] at k1
 rw [e2] at k2
 exact eqv_flatS (flat_deed x) (.inr ⟨SqT.of k1,SqT.of k2⟩)
theorem eqv_one {K:PySem.W.Frag}{H:Hp}{l c a b:Addr}{os:List (Option Int)} (hl:H l=some (.lst [.ref a])) (hc:H c=some (.lst [.ref b])) (ha:H a=some (.lst (os.map oV))) (hb:H b=some (.lst (os.map oV))):Eqv K H 2 (.ref l) (.ref c) true:=by
 refine eqv_refs (as:=[a]) (cs:=[b]) rfl (fun i x y hx hy=>?_) hl hc
 cases i with
 | zero=>cases hx;cases hy;exact eqv_flatS (flat_row os) (.inl ⟨SqL.of ha,SqL.of hb⟩)
 | succ i=>cases hx
theorem wide_of {rooms:List Int}{ms:List M4}{d:RuleD}{ls:List (Addr × L4)}{n:Nat}{t:Tr}{ys:List (Addr × Dd)}{rws tks:List (Addr × List (Option Int))} (w:RunX t tks ys (runTo rooms ms d ls n)) (er:rws.map (·.2)=(t.hs.map fun h=>tmsOf rooms.length h.2)) (tok:TokOk rooms.length t tks) (tw:Twin t (runT ms (newTr ls n) ys)) (gd:Good rooms.length ms) (wd:WideB rooms ms) (l41:ls.length<=41) (b:0<=d.first/\d.first<=64) {i:Nat}{L:Addr × L4} (hL:ls[i]?=some L) :
  ∃ x y,rws[i]?=some x/\tks[i]?=some y/\x.2=(oneTo ms d rooms.length L.2 n).T/\y.2=(oneTo ms d rooms.length L.2 n).K/\(ys.map (·.2)).filterMap (pickD i)=(oneTo ms d rooms.length L.2 n).ds:=by
 obtain ⟨pth,e1,e2,l1,l2,_,_⟩:=tok_of w er tok tw gd b
 obtain ⟨_,_,e⟩:=alone_run (d:=d) (ls:=ls) gd wd l41 b n
 have es:=e i L hL
 have hi:=(zB.mp hL).1
 obtain ⟨x,hx⟩:∃ x,rws[i]?=some x:=⟨_,zE (by omega)⟩
 obtain ⟨y,hy⟩:∃ y,tks[i]?=some y:=⟨_,zE (by omega)⟩
 refine ⟨x,y,hx,hy,?_,?_,?_⟩
 ·rw [<-es]
  show _=((tkOf rooms.length (runTo rooms ms d ls n)).T[i]?).getD []
  rw [<-e1,zC,hx];rfl
 ·rw [<-es]
  show _=((runTo rooms ms d ls n).toks[i]?).getD []
  rw [<-w.ts,zC,hy];rfl
 ·rw [<-es]
  show _=(runTo rooms ms d ls n).ds.filterMap (pickD i)
  rw [<-w.ds]
end Sm
namespace Sm
open PySem L2
theorem line9:1002<=sizeLine:=by rw [sizeLine_eq];decide
end Sm

set_option Elab.async false
set_option linter.all false
set_option maxRecDepth 100000
set_option maxHeartbeats 4000000

namespace Sm
open PySem L2
def top (i:Nat):Stmt:=PySem.Challenge.pw_satchelmeet_k58_whole_letters_one_by_one.main.body.getD i (.Pass ⟨0,0,0,0⟩)
abbrev s__wall:Stmt:=top 0
abbrev s__law_purse:Stmt:=top 39
abbrev s__law_take:Stmt:=top 40
abbrev s__law_far:Stmt:=top 45
abbrev s__law_rooms:Stmt:=top 41
abbrev s__law_step:Stmt:=top 42
abbrev wQ:Stmt:=top 43
abbrev s__law_book:Stmt:=top 44
abbrev s__law_time:Stmt:=top 46
abbrev s__law_letter:Stmt:=top 47
abbrev s_is_whole:Stmt:=top 13
abbrev s_is_within:Stmt:=top 14
abbrev s_is_below:Stmt:=top 15
abbrev wL:Stmt:=top 17
abbrev s_is_walker:Stmt:=top 18
abbrev s_other_at:Stmt:=top 19
abbrev s_lone_row:Stmt:=top 20
abbrev wZ:Stmt:=inClass (top 24) 0
abbrev wa:Stmt:=inClass (top 24) 1
abbrev s_AllMet_share:Stmt:=inClass (top 24) 2
abbrev wc:Stmt:=inClass (top 25) 0
abbrev we:Stmt:=inClass (top 25) 1
abbrev s_Halves_share:Stmt:=inClass (top 25) 2
abbrev s_times_met:Stmt:=top 27
abbrev wf:Stmt:=inClass (top 26) 0
abbrev wg:Stmt:=inClass (top 26) 1
abbrev s_Nearer_share:Stmt:=inClass (top 26) 2
abbrev s_are_wholes:Stmt:=top 32
abbrev s_is_passing:Stmt:=top 30
abbrev s_is_drop:Stmt:=top 31
abbrev wj:Stmt:=inClass (top 29) 6
abbrev wM:Stmt:=inClass (top 29) 11
abbrev xq:Stmt:=inClass (top 29) 0
abbrev s_Trip_having:Stmt:=inClass (top 29) 2
abbrev s_Trip_bag:Stmt:=inClass (top 29) 3
abbrev s_Trip_done:Stmt:=inClass (top 29) 5
abbrev wT:Stmt:=inClass (top 29) 9
abbrev s_Trip_need_drop:Stmt:=inClass (top 29) 8
abbrev wN:Stmt:=inClass (top 29) 7
abbrev s_Trip_pass_on:Stmt:=inClass (top 29) 10
abbrev s_Trip_do:Stmt:=inClass (top 29) 1
abbrev s_lone_holder:Stmt:=top 35
abbrev s_is_done:Stmt:=top 36
abbrev s_times_of:Stmt:=top 37
abbrev s_run:Stmt:=top 34
abbrev s__law_wide:Stmt:=top 48
abbrev s__law_rule:Stmt:=top 49
abbrev s__law_three:Stmt:=top 50
abbrev s__law_straight:Stmt:=top 51
abbrev wl:Stmt:=top 52
abbrev s_law:Stmt:=top 53
set_option genInjectivity false
set_option genSizeOf false
structure Ad where
 a__wall:Addr
 d__wall:FuncData
 a__law_purse:Addr
 d__law_purse:FuncData
 a__law_take:Addr
 d__law_take:FuncData
 a__law_far:Addr
 d__law_far:FuncData
 a__law_rooms:Addr
 d__law_rooms:FuncData
 a__law_step:Addr
 d__law_step:FuncData
 a__law_meetings:Addr
 d__law_meetings:FuncData
 a__law_book:Addr
 d__law_book:FuncData
 a__law_time:Addr
 d__law_time:FuncData
 a__law_letter:Addr
 d__law_letter:FuncData
 a_is_whole:Addr
 d_is_whole:FuncData
 a_is_within:Addr
 d_is_within:FuncData
 a_is_below:Addr
 d_is_below:FuncData
 a_is_meeting_number:Addr
 d_is_meeting_number:FuncData
 a_is_walker:Addr
 d_is_walker:FuncData
 a_other_at:Addr
 d_other_at:FuncData
 a_lone_row:Addr
 d_lone_row:FuncData
 a_AllMet___init__:Addr
 d_AllMet___init__:FuncData
 a_AllMet_at_first:Addr
 d_AllMet_at_first:FuncData
 a_AllMet_share:Addr
 d_AllMet_share:FuncData
 a_Halves___init__:Addr
 d_Halves___init__:FuncData
 a_Halves_at_first:Addr
 d_Halves_at_first:FuncData
 a_Halves_share:Addr
 d_Halves_share:FuncData
 a_times_met:Addr
 d_times_met:FuncData
 a_Nearer___init__:Addr
 d_Nearer___init__:FuncData
 a_Nearer_at_first:Addr
 d_Nearer_at_first:FuncData
 a_Nearer_share:Addr
 d_Nearer_share:FuncData
 a_are_wholes:Addr
 d_are_wholes:FuncData
 a_is_passing:Addr
 d_is_passing:FuncData
 a_is_drop:Addr
 d_is_drop:FuncData
 a_Trip_takes_room:Addr
 d_Trip_takes_room:FuncData
 a_Trip_note_arrival:Addr
 d_Trip_note_arrival:FuncData
 a_Trip___init__:Addr
 d_Trip___init__:FuncData
 a_Trip_having:Addr
 d_Trip_having:FuncData
 a_Trip_bag:Addr
 d_Trip_bag:FuncData
 a_Trip_done:Addr
 d_Trip_done:FuncData
 a_Trip_need_letter:Addr
 d_Trip_need_letter:FuncData
 a_Trip_need_drop:Addr
 d_Trip_need_drop:FuncData
 a_Trip_need_passing:Addr
 d_Trip_need_passing:FuncData
 a_Trip_pass_on:Addr
 d_Trip_pass_on:FuncData
 a_Trip_do:Addr
 d_Trip_do:FuncData
 a_lone_holder:Addr
 d_lone_holder:FuncData
 a_is_done:Addr
 d_is_done:FuncData
 a_times_of:Addr
 d_times_of:FuncData
 a_run:Addr
 d_run:FuncData
 a__law_wide:Addr
 d__law_wide:FuncData
 a__law_rule:Addr
 d__law_rule:FuncData
 a__law_three:Addr
 d__law_three:FuncData
 a__law_straight:Addr
 d__law_straight:FuncData
 a__law_bare_so:Addr
 d__law_bare_so:FuncData
 a_law:Addr
 d_law:FuncData
 c_AllMet:Addr
 c_Halves:Addr
 c_HasIt:Addr
 c_Nearer:Addr
 c_NoDeed:Addr
 c_NoLetter:Addr
 c_NoMeeting:Addr
 c_NoPass:Addr
 c_NoRoom:Addr
 c_NoRule:Addr
 c_NoWalker:Addr
 c_NotThere:Addr
 c_Trip:Addr
structure Tx (K:PySem.W.Frag) (mg:Str->Option Value) (a:Ad) (a_MOST_TOKENS:Tok):Prop where
 F__wall:Fun K "_wall" "_wall" s__wall a.a__wall a.d__wall
 i__wall:Binds K a.d__wall ["k"] []
 m__wall:mg "_wall" = some (.ref a.a__wall)
 k__wall:zH K (.ref a.a__wall)=true
 F__law_purse:Fun K "_law_purse" "_law_purse" s__law_purse a.a__law_purse a.d__law_purse
 i__law_purse:Binds K a.d__law_purse ["_law_script", "_law_k"] []
 m__law_purse:mg "_law_purse" = some (.ref a.a__law_purse)
 k__law_purse:zH K (.ref a.a__law_purse)=true
 F__law_take:Fun K "_law_take" "_law_take" s__law_take a.a__law_take a.d__law_take
 i__law_take:Binds K a.d__law_take ["_law_purse_here", "_law_many"] []
 m__law_take:mg "_law_take" = some (.ref a.a__law_take)
 k__law_take:zH K (.ref a.a__law_take)=true
 F__law_far:Fun K "_law_far" "_law_far" s__law_far a.a__law_far a.d__law_far
 i__law_far:Binds K a.d__law_far ["_law_purse_here"] []
 m__law_far:mg "_law_far" = some (.ref a.a__law_far)
 k__law_far:zH K (.ref a.a__law_far)=true
 F__law_rooms:Fun K "_law_rooms" "_law_rooms" s__law_rooms a.a__law_rooms a.d__law_rooms
 i__law_rooms:Binds K a.d__law_rooms ["_law_purse_here", "_law_walkers"] []
 m__law_rooms:mg "_law_rooms" = some (.ref a.a__law_rooms)
 k__law_rooms:zH K (.ref a.a__law_rooms)=true
 F__law_step:Fun K "_law_step" "_law_step" s__law_step a.a__law_step a.d__law_step
 i__law_step:Binds K a.d__law_step ["_law_purse_here"] []
 m__law_step:mg "_law_step" = some (.ref a.a__law_step)
 k__law_step:zH K (.ref a.a__law_step)=true
 F__law_meetings:Fun K "_law_meetings" "_law_meetings" wQ a.a__law_meetings a.d__law_meetings
 i__law_meetings:Binds K a.d__law_meetings ["_law_purse_here", "_law_walkers", "_law_most"] []
 m__law_meetings:mg "_law_meetings" = some (.ref a.a__law_meetings)
 k__law_meetings:zH K (.ref a.a__law_meetings)=true
 F__law_book:Fun K "_law_book" "_law_book" s__law_book a.a__law_book a.d__law_book
 i__law_book:Binds K a.d__law_book ["_law_purse_here", "_law_most_walkers", "_law_most_meetings"] []
 m__law_book:mg "_law_book" = some (.ref a.a__law_book)
 k__law_book:zH K (.ref a.a__law_book)=true
 F__law_time:Fun K "_law_time" "_law_time" s__law_time a.a__law_time a.d__law_time
 i__law_time:Binds K a.d__law_time ["_law_purse_here", "_law_book_here", "_law_later"] []
 m__law_time:mg "_law_time" = some (.ref a.a__law_time)
 k__law_time:zH K (.ref a.a__law_time)=true
 F__law_letter:Fun K "_law_letter" "_law_letter" s__law_letter a.a__law_letter a.d__law_letter
 i__law_letter:Binds K a.d__law_letter ["_law_purse_here", "_law_book_here"] []
 m__law_letter:mg "_law_letter" = some (.ref a.a__law_letter)
 k__law_letter:zH K (.ref a.a__law_letter)=true
 F_is_whole:Fun K "is_whole" "is_whole" s_is_whole a.a_is_whole a.d_is_whole
 i_is_whole:Binds K a.d_is_whole ["thing"] []
 m_is_whole:mg "is_whole" = some (.ref a.a_is_whole)
 k_is_whole:zH K (.ref a.a_is_whole)=true
 F_is_within:Fun K "is_within" "is_within" s_is_within a.a_is_within a.d_is_within
 i_is_within:Binds K a.d_is_within ["thing", "least", "most"] []
 m_is_within:mg "is_within" = some (.ref a.a_is_within)
 k_is_within:zH K (.ref a.a_is_within)=true
 F_is_below:Fun K "is_below" "is_below" s_is_below a.a_is_below a.d_is_below
 i_is_below:Binds K a.d_is_below ["number", "bound"] []
 m_is_below:mg "is_below" = some (.ref a.a_is_below)
 k_is_below:zH K (.ref a.a_is_below)=true
 F_is_meeting_number:Fun K "is_meeting_number" "is_meeting_number" wL a.a_is_meeting_number a.d_is_meeting_number
 i_is_meeting_number:Binds K a.d_is_meeting_number ["book", "thing"] []
 m_is_meeting_number:mg "is_meeting_number" = some (.ref a.a_is_meeting_number)
 k_is_meeting_number:zH K (.ref a.a_is_meeting_number)=true
 F_is_walker:Fun K "is_walker" "is_walker" s_is_walker a.a_is_walker a.d_is_walker
 i_is_walker:Binds K a.d_is_walker ["book", "thing"] []
 m_is_walker:mg "is_walker" = some (.ref a.a_is_walker)
 k_is_walker:zH K (.ref a.a_is_walker)=true
 F_other_at:Fun K "other_at" "other_at" s_other_at a.a_other_at a.d_other_at
 i_other_at:Binds K a.d_other_at ["book", "number", "walker"] []
 m_other_at:mg "other_at" = some (.ref a.a_other_at)
 k_other_at:zH K (.ref a.a_other_at)=true
 F_lone_row:Fun K "lone_row" "lone_row" s_lone_row a.a_lone_row a.d_lone_row
 i_lone_row:Binds K a.d_lone_row ["book", "walker", "number"] []
 m_lone_row:mg "lone_row" = some (.ref a.a_lone_row)
 k_lone_row:zH K (.ref a.a_lone_row)=true
 F_AllMet___init__:Fun K "__init__" "AllMet.__init__" wZ a.a_AllMet___init__ a.d_AllMet___init__
 i_AllMet___init__:Binds K a.d_AllMet___init__ ["self"] []
 M_AllMet___init__:Meth K a.c_AllMet "__init__" a.a_AllMet___init__
 k_AllMet___init__:zH K (.ref a.a_AllMet___init__)=true
 F_AllMet_at_first:Fun K "at_first" "AllMet.at_first" wa a.a_AllMet_at_first a.d_AllMet_at_first
 i_AllMet_at_first:Binds K a.d_AllMet_at_first ["self"] []
 M_AllMet_at_first:Meth K a.c_AllMet "at_first" a.a_AllMet_at_first
 k_AllMet_at_first:zH K (.ref a.a_AllMet_at_first)=true
 F_AllMet_share:Fun K "share" "AllMet.share" s_AllMet_share a.a_AllMet_share a.d_AllMet_share
 i_AllMet_share:Binds K a.d_AllMet_share ["self", "letter", "giver", "other", "tokens"] []
 M_AllMet_share:Meth K a.c_AllMet "share" a.a_AllMet_share
 k_AllMet_share:zH K (.ref a.a_AllMet_share)=true
 F_Halves___init__:Fun K "__init__" "Halves.__init__" wc a.a_Halves___init__ a.d_Halves___init__
 i_Halves___init__:Binds K a.d_Halves___init__ ["self", "tokens"] []
 M_Halves___init__:Meth K a.c_Halves "__init__" a.a_Halves___init__
 k_Halves___init__:zH K (.ref a.a_Halves___init__)=true
 F_Halves_at_first:Fun K "at_first" "Halves.at_first" we a.a_Halves_at_first a.d_Halves_at_first
 i_Halves_at_first:Binds K a.d_Halves_at_first ["self"] []
 M_Halves_at_first:Meth K a.c_Halves "at_first" a.a_Halves_at_first
 k_Halves_at_first:zH K (.ref a.a_Halves_at_first)=true
 F_Halves_share:Fun K "share" "Halves.share" s_Halves_share a.a_Halves_share a.d_Halves_share
 i_Halves_share:Binds K a.d_Halves_share ["self", "letter", "giver", "other", "tokens"] []
 M_Halves_share:Meth K a.c_Halves "share" a.a_Halves_share
 k_Halves_share:zH K (.ref a.a_Halves_share)=true
 F_times_met:Fun K "times_met" "times_met" s_times_met a.a_times_met a.d_times_met
 i_times_met:Binds K a.d_times_met ["book", "one", "other"] []
 m_times_met:mg "times_met" = some (.ref a.a_times_met)
 k_times_met:zH K (.ref a.a_times_met)=true
 F_Nearer___init__:Fun K "__init__" "Nearer.__init__" wf a.a_Nearer___init__ a.d_Nearer___init__
 i_Nearer___init__:Binds K a.d_Nearer___init__ ["self", "past"] []
 M_Nearer___init__:Meth K a.c_Nearer "__init__" a.a_Nearer___init__
 k_Nearer___init__:zH K (.ref a.a_Nearer___init__)=true
 F_Nearer_at_first:Fun K "at_first" "Nearer.at_first" wg a.a_Nearer_at_first a.d_Nearer_at_first
 i_Nearer_at_first:Binds K a.d_Nearer_at_first ["self"] []
 M_Nearer_at_first:Meth K a.c_Nearer "at_first" a.a_Nearer_at_first
 k_Nearer_at_first:zH K (.ref a.a_Nearer_at_first)=true
 F_Nearer_share:Fun K "share" "Nearer.share" s_Nearer_share a.a_Nearer_share a.d_Nearer_share
 i_Nearer_share:Binds K a.d_Nearer_share ["self", "letter", "giver", "other", "tokens"] []
 M_Nearer_share:Meth K a.c_Nearer "share" a.a_Nearer_share
 k_Nearer_share:zH K (.ref a.a_Nearer_share)=true
 F_are_wholes:Fun K "are_wholes" "are_wholes" s_are_wholes a.a_are_wholes a.d_are_wholes
 i_are_wholes:Binds K a.d_are_wholes ["things"] []
 m_are_wholes:mg "are_wholes" = some (.ref a.a_are_wholes)
 k_are_wholes:zH K (.ref a.a_are_wholes)=true
 F_is_passing:Fun K "is_passing" "is_passing" s_is_passing a.a_is_passing a.d_is_passing
 i_is_passing:Binds K a.d_is_passing ["thing"] []
 m_is_passing:mg "is_passing" = some (.ref a.a_is_passing)
 k_is_passing:zH K (.ref a.a_is_passing)=true
 F_is_drop:Fun K "is_drop" "is_drop" s_is_drop a.a_is_drop a.d_is_drop
 i_is_drop:Binds K a.d_is_drop ["thing"] []
 m_is_drop:mg "is_drop" = some (.ref a.a_is_drop)
 k_is_drop:zH K (.ref a.a_is_drop)=true
 F_Trip_takes_room:Fun K "takes_room" "Trip.takes_room" wj a.a_Trip_takes_room a.d_Trip_takes_room
 i_Trip_takes_room:Binds K a.d_Trip_takes_room ["self", "letter", "walker"] []
 M_Trip_takes_room:Meth K a.c_Trip "takes_room" a.a_Trip_takes_room
 k_Trip_takes_room:zH K (.ref a.a_Trip_takes_room)=true
 F_Trip_note_arrival:Fun K "note_arrival" "Trip.note_arrival" wM a.a_Trip_note_arrival a.d_Trip_note_arrival
 i_Trip_note_arrival:Binds K a.d_Trip_note_arrival ["self", "letter", "walker", "time"] []
 M_Trip_note_arrival:Meth K a.c_Trip "note_arrival" a.a_Trip_note_arrival
 k_Trip_note_arrival:zH K (.ref a.a_Trip_note_arrival)=true
 F_Trip___init__:Fun K "__init__" "Trip.__init__" xq a.a_Trip___init__ a.d_Trip___init__
 i_Trip___init__:Binds K a.d_Trip___init__ ["self", "book", "letters"] []
 M_Trip___init__:Meth K a.c_Trip "__init__" a.a_Trip___init__
 k_Trip___init__:zH K (.ref a.a_Trip___init__)=true
 F_Trip_having:Fun K "having" "Trip.having" s_Trip_having a.a_Trip_having a.d_Trip_having
 i_Trip_having:Binds K a.d_Trip_having ["self", "letter"] []
 M_Trip_having:Meth K a.c_Trip "having" a.a_Trip_having
 k_Trip_having:zH K (.ref a.a_Trip_having)=true
 F_Trip_bag:Fun K "bag" "Trip.bag" s_Trip_bag a.a_Trip_bag a.d_Trip_bag
 i_Trip_bag:Binds K a.d_Trip_bag ["self", "walker"] []
 M_Trip_bag:Meth K a.c_Trip "bag" a.a_Trip_bag
 k_Trip_bag:zH K (.ref a.a_Trip_bag)=true
 F_Trip_done:Fun K "done" "Trip.done" s_Trip_done a.a_Trip_done a.d_Trip_done
 i_Trip_done:Binds K a.d_Trip_done ["self"] []
 M_Trip_done:Meth K a.c_Trip "done" a.a_Trip_done
 k_Trip_done:zH K (.ref a.a_Trip_done)=true
 F_Trip_need_letter:Fun K "need_letter" "Trip.need_letter" wT a.a_Trip_need_letter a.d_Trip_need_letter
 i_Trip_need_letter:Binds K a.d_Trip_need_letter ["self", "letter"] []
 M_Trip_need_letter:Meth K a.c_Trip "need_letter" a.a_Trip_need_letter
 k_Trip_need_letter:zH K (.ref a.a_Trip_need_letter)=true
 F_Trip_need_drop:Fun K "need_drop" "Trip.need_drop" s_Trip_need_drop a.a_Trip_need_drop a.d_Trip_need_drop
 i_Trip_need_drop:Binds K a.d_Trip_need_drop ["self", "letter", "walker"] []
 M_Trip_need_drop:Meth K a.c_Trip "need_drop" a.a_Trip_need_drop
 k_Trip_need_drop:zH K (.ref a.a_Trip_need_drop)=true
 F_Trip_need_passing:Fun K "need_passing" "Trip.need_passing" wN a.a_Trip_need_passing a.d_Trip_need_passing
 i_Trip_need_passing:Binds K a.d_Trip_need_passing ["self", "meeting", "letter", "giver"] []
 M_Trip_need_passing:Meth K a.c_Trip "need_passing" a.a_Trip_need_passing
 k_Trip_need_passing:zH K (.ref a.a_Trip_need_passing)=true
 F_Trip_pass_on:Fun K "pass_on" "Trip.pass_on" s_Trip_pass_on a.a_Trip_pass_on a.d_Trip_pass_on
 i_Trip_pass_on:Binds K a.d_Trip_pass_on ["self", "meeting", "letter", "giver"] []
 M_Trip_pass_on:Meth K a.c_Trip "pass_on" a.a_Trip_pass_on
 k_Trip_pass_on:zH K (.ref a.a_Trip_pass_on)=true
 F_Trip_do:Fun K "do" "Trip.do" s_Trip_do a.a_Trip_do a.d_Trip_do
 i_Trip_do:Binds K a.d_Trip_do ["self", "deed"] []
 M_Trip_do:Meth K a.c_Trip "do" a.a_Trip_do
 k_Trip_do:zH K (.ref a.a_Trip_do)=true
 F_lone_holder:Fun K "lone_holder" "lone_holder" s_lone_holder a.a_lone_holder a.d_lone_holder
 i_lone_holder:Binds K a.d_lone_holder ["book", "meeting", "row"] []
 m_lone_holder:mg "lone_holder" = some (.ref a.a_lone_holder)
 k_lone_holder:zH K (.ref a.a_lone_holder)=true
 F_is_done:Fun K "is_done" "is_done" s_is_done a.a_is_done a.d_is_done
 i_is_done:Binds K a.d_is_done ["trip", "deed"] []
 m_is_done:mg "is_done" = some (.ref a.a_is_done)
 k_is_done:zH K (.ref a.a_is_done)=true
 F_times_of:Fun K "times_of" "times_of" s_times_of a.a_times_of a.d_times_of
 i_times_of:Binds K a.d_times_of ["book", "having"] []
 m_times_of:mg "times_of" = some (.ref a.a_times_of)
 k_times_of:zH K (.ref a.a_times_of)=true
 F_run:Fun K "run" "run" s_run a.a_run a.d_run
 i_run:Binds K a.d_run ["book", "letters", "rule"] []
 m_run:mg "run" = some (.ref a.a_run)
 k_run:zH K (.ref a.a_run)=true
 F__law_wide:Fun K "_law_wide" "_law_wide" s__law_wide a.a__law_wide a.d__law_wide
 i__law_wide:Binds K a.d__law_wide ["_law_book_here", "_law_room"] []
 m__law_wide:mg "_law_wide" = some (.ref a.a__law_wide)
 k__law_wide:zH K (.ref a.a__law_wide)=true
 F__law_rule:Fun K "_law_rule" "_law_rule" s__law_rule a.a__law_rule a.d__law_rule
 i__law_rule:Binds K a.d__law_rule ["_law_head", "_law_purse_here", "_law_walkers"] []
 m__law_rule:mg "_law_rule" = some (.ref a.a__law_rule)
 k__law_rule:zH K (.ref a.a__law_rule)=true
 F__law_three:Fun K "_law_three" "_law_three" s__law_three a.a__law_three a.d__law_three
 i__law_three:Binds K a.d__law_three ["_law_told", "_law_many"] []
 m__law_three:mg "_law_three" = some (.ref a.a__law_three)
 k__law_three:zH K (.ref a.a__law_three)=true
 F__law_straight:Fun K "_law_straight" "_law_straight" s__law_straight a.a__law_straight a.d__law_straight
 i__law_straight:Binds K a.d__law_straight ["_law_book_here", "_law_letter_here"] []
 m__law_straight:mg "_law_straight" = some (.ref a.a__law_straight)
 k__law_straight:zH K (.ref a.a__law_straight)=true
 F__law_bare_so:Fun K "_law_bare_so" "_law_bare_so" wl a.a__law_bare_so a.d__law_bare_so
 i__law_bare_so:Binds K a.d__law_bare_so ["_law_book_here", "_law_letters", "_law_rule_here"] []
 m__law_bare_so:mg "_law_bare_so" = some (.ref a.a__law_bare_so)
 k__law_bare_so:zH K (.ref a.a__law_bare_so)=true
 F_law:Fun K "law" "law" s_law a.a_law a.d_law
 i_law:Binds K a.d_law ["_law_script"] []
 m_law:mg "law" = some (.ref a.a_law)
 k_law:zH K (.ref a.a_law)=true
 b_all:mg "all" = none
 b_bool:mg "bool" = none
 b_dict:mg "dict" = none
 b_enumerate:mg "enumerate" = none
 b_int:mg "int" = none
 b_isinstance:mg "isinstance" = none
 b_len:mg "len" = none
 b_list:mg "list" = none
 b_max:mg "max" = none
 b_min:mg "min" = none
 b_range:mg "range" = none
 b_sorted:mg "sorted" = none
 b_tuple:mg "tuple" = none
 m_AllMet:mg "AllMet" = some (.ref a.c_AllMet)
 m_Halves:mg "Halves" = some (.ref a.c_Halves)
 m_HasIt:mg "HasIt" = some (.ref a.c_HasIt)
 m_Nearer:mg "Nearer" = some (.ref a.c_Nearer)
 m_NoDeed:mg "NoDeed" = some (.ref a.c_NoDeed)
 m_NoLetter:mg "NoLetter" = some (.ref a.c_NoLetter)
 m_NoMeeting:mg "NoMeeting" = some (.ref a.c_NoMeeting)
 m_NoPass:mg "NoPass" = some (.ref a.c_NoPass)
 m_NoRoom:mg "NoRoom" = some (.ref a.c_NoRoom)
 m_NoRule:mg "NoRule" = some (.ref a.c_NoRule)
 m_NoWalker:mg "NoWalker" = some (.ref a.c_NoWalker)
 m_NotThere:mg "NotThere" = some (.ref a.c_NotThere)
 m_Trip:mg "Trip" = some (.ref a.c_Trip)
 x_NoDeed:XCls K a.c_NoDeed
 x_NoMeeting:XCls K a.c_NoMeeting
 x_NoLetter:XCls K a.c_NoLetter
 x_NoWalker:XCls K a.c_NoWalker
 x_NotThere:XCls K a.c_NotThere
 x_HasIt:XCls K a.c_HasIt
 x_NoPass:XCls K a.c_NoPass
 x_NoRoom:XCls K a.c_NoRoom
 x_NoRule:XCls K a.c_NoRule
 L_AllMet:Cls K a.c_AllMet
 L_Halves:Cls K a.c_Halves
 L_Nearer:Cls K a.c_Nearer
 L_Trip:Cls K a.c_Trip
 Y_AllMet:L2.Mk K a.c_AllMet a.a_AllMet___init__
 Y_Halves:L2.Mk K a.c_Halves a.a_Halves___init__
 Y_Nearer:L2.Mk K a.c_Nearer a.a_Nearer___init__
 Y_Trip:L2.Mk K a.c_Trip a.a_Trip___init__
 n_Halves_tokens:NoAttr K a.c_Halves "tokens"
 n_Nearer_past:NoAttr K a.c_Nearer "past"
 n_Trip_book:NoAttr K a.c_Trip "book"
 n_Trip_letters:NoAttr K a.c_Trip "letters"
 n_Trip_holders:NoAttr K a.c_Trip "holders"
 n_Trip_arrivals:NoAttr K a.c_Trip "arrivals"
 n_Trip_passed:NoAttr K a.c_Trip "passed"
 n_Trip_reached:NoAttr K a.c_Trip "reached"
 n_Trip_deeds:NoAttr K a.c_Trip "deeds"
 o_AllMet:OCls K a.c_AllMet
 o_Halves:OCls K a.c_Halves
 o_Nearer:OCls K a.c_Nearer
 f_d4:yi K (.ref a.c_NotThere) [.ref a.c_NotThere,.ref a.c_NoPass,.ref a.c_NoRoom]=some true
 f_d6:yi K (.ref a.c_NoPass) [.ref a.c_NotThere,.ref a.c_NoPass,.ref a.c_NoRoom]=some true
 f_d7:yi K (.ref a.c_NoRoom) [.ref a.c_NotThere,.ref a.c_NoPass,.ref a.c_NoRoom]=some true
 f_na:yN K (.ref a.c_AllMet) (.ref a.c_Nearer)=some false
 f_nh:yN K (.ref a.c_Halves) (.ref a.c_Nearer)=some false
 f_nn:yN K (.ref a.c_Nearer) (.ref a.c_Nearer)=some true
 c_MOST_TOKENS:mg "MOST_TOKENS" = some (.int 64 a_MOST_TOKENS)
section
variable {P:Program}{w:World}{K:PySem.W.Frag}{mg:Str->Option Value}{base:Heap}{a:Ad}{t_MOST_TOKENS:Tok}
theorem ok__wall (T:Tx K mg a t_MOST_TOKENS):FnOk P w K mg base CX0 1 a.a__wall a.d__wall ["k"] (spNever):=⟨fun _ _ _ _ h=>h.elim,fun _ _ _ _ _ _ _ _ _ _ _ _ _ h=>h.elim⟩
theorem sc__law_purse:FnScope ["_law_script", "_law_k", "_law_cell", "_law_left"] ["_law_script", "_law_k"] (defScope s__law_purse):=⟨rfl,rfl,rfl,by decide +kernel,rfl,by decide +kernel,by decide +kernel⟩
theorem ok__law_purse (T:Tx K mg a t_MOST_TOKENS):FnOk P w K mg base CX0 1 a.a__law_purse a.d__law_purse ["_law_script", "_law_k"] (spPurse K):=by
 refine T.F__law_purse.ok sc__law_purse (fun vs H Q E h=>?_) (fun cdv A outer s H vs Q E hr h=>?_)
 ·obtain ⟨a,ns,k,rfl,_⟩:=h;rfl
 ·have nd:=sc__law_purse.nd
  have hu:=hr.units
  obtain ⟨sa,ns,k,rfl,hS,hk,q⟩:=h
  refine ⟨_,(xK (xW (xX (i:=2) nd rfl (by first | exact Or.inl rfl | exact Or.inr rfl) xG) (xW (xh (xV op_lt (pv 1) (xU (xR rfl) (by rfl) T.b_len PySem.boot_len (xF (xI (pv 0) xM rfl))) (nomark _)) (xK (xf (xX (i:=2) nd rfl (by first | exact Or.inl rfl | exact Or.inr rfl) (xS (xY rfl) (pv 0) (pv 1) (fun _ _=>rfl))))) xZ) (xW (xX (i:=3) nd rfl (by first | exact Or.inl rfl | exact Or.inr rfl) xG) (xW (xh (xV op_lt (pv 2) xG (nomark _)) (xK (xf (xX (i:=3) nd rfl (by first | exact Or.inl rfl | exact Or.inr rfl) (xg op_sub (pe_un un_neg xG) (pv 2))))) xZ) (xW (xh (xV op_ge (pv 2) (xg op_pow xG xG) (nomark _)) (xK (xf (xX (i:=3) nd rfl (by first | exact Or.inl rfl | exact Or.inr rfl) (pv 2)))) xZ) (xf (xb (xu (xF (xI (pv 3) (xI (xg op_mod (xg xt (xg xt (xg op_mul (pv 2) xG) (xg op_mul (pv 1) xG)) xG) xG) (xI xG xM rfl) rfl) rfl))))))))))),?_⟩
  have c18:CPow 10 18:=⟨by decide,by decide,by decide⟩
  have s3:3<=sizeLine:=by rw [sizeLine_eq];decide
  have fin:∀ (x y:Int) p,H p=none->Q (.ref p) (upd H p (.lst [.int x,.int y,.int 0])):=fun x y p hp=>q p _ hp ⟨x,y,0,xH⟩ (xL hp)
  have c69:∀ x:Int,CMul x 69:=fun x=>.inr ⟨by decide,by decide⟩
  have c405:∀ x:Int,CMul x 40503:=fun x=>.inr ⟨by decide,by decide⟩
  refine (zr rfl (zr rfl ⟨sa,zr rfl ⟨.inl hS,zr2 rfl rfl (zr rfl (iteN (fun σ H1=>∃ c:Int,σ=[some (.ref sa),some (.int k),some (.int c),none]/\H=H1) ?_ (fun c k0=>?_) (fun c=>⟨0,rfl,rfl⟩)))⟩⟩))
  ·rintro σ H1 ⟨c,rfl,rfl⟩
   refine (zr rfl (zr2 rfl rfl (zr rfl (iteN (fun σ H1=>∃ d:Int,σ=[some (.ref sa),some (.int k),some (.int c),some (.int d)]/\H=H1) ?_ (fun z k0=>?_) (fun z=>⟨0,rfl,rfl⟩)))))
   ·rintro σ H1 ⟨d,rfl,rfl⟩
    refine (zr rfl (zr2 rfl rfl ⟨c18,zr2 rfl rfl (zr rfl (iteN (fun σ H1=>∃ d:Int,σ=[some (.ref sa),some (.int k),some (.int c),some (.int d)]/\H=H1) ?_ (fun z k0=>(zr rfl (k0 _ _ ⟨c,rfl,rfl⟩))) (fun z=>⟨d,rfl,rfl⟩)))⟩))
    rintro σ H1 ⟨d,rfl,rfl⟩
    exact (zr rfl (zr rfl (zr2 rfl rfl ⟨c69 _,zr rfl (zr2 rfl rfl ⟨c405 _,zr2 rfl rfl (zr2 rfl rfl (zr2 rfl rfl ⟨(by show (0:Int) < 2147483647;decide),s3,fin _ _⟩))⟩)⟩)))
   ·exact (zr rfl (zr rfl (zr2 rfl rfl (k0 _ _ (zr rfl rfl)))))
  ·have hk2:k < ns.length:=by
    have:=of_decide_eq_true c
    rw [zA] at this;omega
   exact (zr rfl (zr rfl ⟨sa,_,zr2 rfl rfl ⟨hS,xi (v:=V.int ns[k]) (by simp [hk2]),k0 _ _ (zr rfl rfl)⟩⟩))
theorem sc__law_take:FnScope ["_law_purse_here", "_law_many", "_law_digit", "_law_mixed"] ["_law_purse_here", "_law_many"] (defScope s__law_take):=⟨rfl,rfl,rfl,by decide +kernel,rfl,by decide +kernel,by decide +kernel⟩
theorem xr (T:Tx K mg a t_MOST_TOKENS):FnOk P w K mg base CX0 1 a.a__law_take a.d__law_take ["_law_purse_here", "_law_many"] (spTake):=by
 refine T.F__law_take.ok sc__law_take (fun vs H Q E h=>?_) (fun cdv A outer s H vs Q E hr h=>?_)
 ·obtain ⟨p,n,rfl,_⟩:=h;rfl
 ·have nd:=sc__law_take.nd
  have hu:=hr.units
  obtain ⟨p,n,rfl,n0,n1,⟨x,y,z,hp⟩,q⟩:=h
  refine ⟨_,(xK (xW (xh (xV op_gt (xS (xY rfl) (pv 0) xG (fun _ _=>rfl)) xG (nomark _)) (xK (xW (xX (i:=2) nd rfl (by first | exact Or.inl rfl | exact Or.inr rfl) (xg op_mod (xS (xY rfl) (pv 0) xG (fun _ _=>rfl)) (pv 1))) (xW (wW (xg wY (xS (xY rfl) (pv 0) xG (fun _ _=>rfl)) (pv 1)) (pg_sub (pv 0) xG set_list)) (xf (xb (pv 2)))))) xZ) (xW (ps_augS (pv 0) xG (get_list rfl) xG ip_add set_list) (xW (xX (i:=3) nd rfl (by first | exact Or.inl rfl | exact Or.inr rfl) (xg op_mod (xg op_mul (xg xt (xS (xY rfl) (pv 0) xG (fun _ _=>rfl)) (xg op_mul (xS (xY rfl) (pv 0) xG (fun _ _=>rfl)) xG)) xG) xG)) (xW (xX (i:=3) nd rfl (by first | exact Or.inl rfl | exact Or.inr rfl) (xg op_mod (xg xt (xg xt (xg op_mul (pv 3) (pv 3)) (xg op_mul (xS (xY rfl) (pv 0) xG (fun _ _=>rfl)) xG)) (xS (xY rfl) (pv 0) xG (fun _ _=>rfl))) xG)) (xf (xb (xg op_mod (xg wY (xg op_mod (xg op_mul (pv 3) xG) xG) xG) (pv 1))))))))),?_⟩
  have hS:SqL K H p _:=SqL.of hp
  have cm:∀ x c:Int,-(2 ^ 64) < c->c < 2 ^ 64->CMul x c:=fun x c h h'=>.inr ⟨h,h'⟩
  refine (zr rfl ⟨p,_,zr2 rfl rfl ⟨hS,rfl,zr2 rfl rfl (zr rfl (iteD (fun h1=>?_) fun h1=>?_))⟩⟩)
  ·refine (zr rfl ⟨p,_,zr2 rfl rfl ⟨hS,rfl,zr rfl (zr2 rfl rfl ⟨n0,?_⟩)⟩⟩)
   refine (zr rfl ⟨p,_,zr2 rfl rfl ⟨hS,rfl,zr rfl (zr2 rfl rfl ⟨⟨n0,n1⟩,zr rfl ⟨p,_,_,0,rfl,rfl,hp,rfl,?_⟩⟩)⟩⟩)
   exact (zr rfl (q _ _ (yr _ (by omega)) (yc _ n0) ⟨But.set,_,_,_,xH⟩))
  ·refine (zr rfl ⟨p,_,zr2 rfl rfl ⟨hS,rfl,zr2 rfl rfl ⟨p,_,_,2,rfl,rfl,hp,rfl,?_⟩⟩⟩)
   have h2:(upd H p (HO.lst ([V.int x,V.int y,V.int z].set 2 (.int (z + 1))))) p=some (.lst [V.int x,V.int y,V.int (z + 1)]):=xH
   have b2:But p H (upd H p (HO.lst ([V.int x,V.int y,V.int z].set 2 (.int (z + 1))))):=But.set
   generalize upd H p (HO.lst ([V.int x,V.int y,V.int z].set 2 (.int (z + 1))))=H2 at h2 b2 ⊢
   have hS2:SqL K H2 p _:=SqL.of h2
   have big:(2147483647:Int) < 2 ^ 64:=by decide
   have low:-(2:Int) ^ 64 < 0:=by decide
   have pos:(0:Int) < 2147483647:=by decide
   refine (zr rfl ⟨p,_,zr2 rfl rfl ⟨hS2,rfl,zr rfl ⟨p,_,zr2 rfl rfl ⟨hS2,rfl,zr2 rfl rfl ⟨cm _ _ (by decide) (by decide),zr2 rfl rfl (zr2 rfl rfl ⟨cm _ _ (by decide) (by decide),zr2 rfl rfl ⟨(by show (0:Int) < 2147483647;decide),?_⟩⟩)⟩⟩⟩⟩⟩)
   have m0:=yr ((y + (z + 1) * 362437) * 48271) (show (2147483647:Int) ≠ 0 by decide)
   have m1:=yc ((y + (z + 1) * 362437) * 48271) pos
   refine (zr rfl (zr rfl (zr2 rfl rfl ⟨.inl ⟨Int.lt_of_lt_of_le low m0,Int.lt_trans m1 big⟩,zr rfl ⟨p,_,zr2 rfl rfl ⟨hS2,rfl,zr2 rfl rfl ⟨cm _ _ (by decide) (by decide),zr2 rfl rfl (zr rfl ⟨p,_,zr2 rfl rfl ⟨hS2,rfl,zr2 rfl rfl (zr2 rfl rfl ⟨(by show (0:Int) < 2147483629;decide),?_⟩)⟩⟩)⟩⟩⟩⟩)))
   refine (zr rfl (zr2 rfl rfl ⟨cm _ _ (by decide) (by decide),zr2 rfl rfl ⟨(by show (0:Int) < 2147483563;decide),zr2 rfl rfl ⟨⟨by decide,by decide⟩,zr rfl (zr2 rfl rfl ⟨n0,?_⟩)⟩⟩⟩))
   exact q _ _ (yr _ (by omega)) (yc _ n0) ⟨b2,_,_,_,h2⟩
theorem sc__law_far:FnScope ["_law_purse_here", "_law_high"] ["_law_purse_here"] (defScope s__law_far):=⟨rfl,rfl,rfl,by decide +kernel,rfl,by decide +kernel,by decide +kernel⟩
theorem ok__law_far (T:Tx K mg a t_MOST_TOKENS):FnOk P w K mg base CX0 2 a.a__law_far a.d__law_far ["_law_purse_here"] (spFar):=by
 have G__law_take:=@xr P w _ _ base _ _ T
 refine T.F__law_far.ok sc__law_far (fun vs H Q E h=>?_) (fun cdv A outer s H vs Q E hr h=>?_)
 ·obtain ⟨p,rfl,_⟩:=h;rfl
 ·have nd:=sc__law_far.nd
  have hu:=hr.units
  obtain ⟨p,rfl,hp,q⟩:=h
  refine ⟨_,(xK (xW (xX (i:=1) nd rfl (by first | exact Or.inl rfl | exact Or.inr rfl) (xP G__law_take (hr.mono (by decide)) rfl T.m__law_take T.k__law_take T.i__law_take .nil pass0 (xF (xI (pv 0) (xI xG xM rfl) rfl)))) (xf (xb (xg op_mod (xg xt (xg op_mul (pv 1) xG) (xP G__law_take (hr.mono (by decide)) rfl T.m__law_take T.k__law_take T.i__law_take .nil pass0 (xF (xI (pv 0) (xI xG xM rfl) rfl)))) (xg xt (xg op_pow xG xG) xG)))))),?_⟩
  refine (zr rfl ⟨p,zr rfl ⟨by decide,by decide,hp,fun d H1 d0 d1 g1=>(zr rfl (zr2 rfl rfl ⟨.inr ⟨by decide,by decide⟩,zr rfl ⟨p,zr rfl ⟨by decide,by decide,g1.2,fun e H2 e0 e1 g2=>(zr2 rfl rfl (zr2 rfl rfl ⟨⟨by decide,by decide,by decide⟩,zr2 rfl rfl (zr2 rfl rfl ⟨(by show (0:Int) < 10 ^ Int.toNat 9 + 1;decide),?_⟩)⟩))⟩⟩⟩))⟩⟩)
  have e9:(10:Int) ^ Int.toNat 9 + 1=1000000001:=by decide
  rw [e9]
  exact q _ _ (yr _ (by decide)) (Int.lt_add_one_iff.mp (yc _ (by decide))) (g1.trans g2)
theorem sc__law_rooms:FnScope ["_law_purse_here", "_law_walkers", "_law_rooms_here", "_law_walker", "_law_room"] ["_law_purse_here", "_law_walkers"] (defScope s__law_rooms):=⟨rfl,rfl,rfl,by decide +kernel,rfl,by decide +kernel,by decide +kernel⟩
theorem ok__law_rooms (T:Tx K mg a t_MOST_TOKENS):FnOk P w K mg base CX0 2 a.a__law_rooms a.d__law_rooms ["_law_purse_here", "_law_walkers"] (spRooms):=by
 have G__law_take:=@xr P w _ _ base _ _ T
 refine T.F__law_rooms.ok sc__law_rooms (fun vs H Q E h=>?_) (fun cdv A outer s H vs Q E hr h=>?_)
 ·obtain ⟨p,n,rfl,_⟩:=h;rfl
 ·have nd:=sc__law_rooms.nd
  have hu:=hr.units
  obtain ⟨p,n,rfl,hn,hp,q⟩:=h
  refine ⟨_,(xK (xW (xX (i:=2) nd rfl (by first | exact Or.inl rfl | exact Or.inr rfl) (xu pa_nil)) (xW (ps_for PassesOwn.never rfl (wH rfl T.b_range (xF (xI (pv 1) xM rfl))) (xO (i:=3) nd rfl (by first | exact Or.inl rfl | exact Or.inr rfl)) (xK (xW (xX (i:=4) nd rfl (by first | exact Or.inl rfl | exact Or.inr rfl) (xg wY (xP G__law_take (hr.mono (by decide)) rfl T.m__law_take T.k__law_take T.i__law_take .nil pass0 (xF (xI (pv 0) (xI xG xM rfl) rfl))) xG)) (xW (xh (xV wE (pv 4) xG (nomark _)) (xK (xf (xX (i:=4) nd rfl (by first | exact Or.inl rfl | exact Or.inr rfl) (xP G__law_take (hr.mono (by decide)) rfl T.m__law_take T.k__law_take T.i__law_take .nil pass0 (xF (xI (pv 0) (xI xG xM rfl) rfl)))))) xZ) (xf (wG (pe_bm yM yJ yK mt_append (pv 2) (xF (xI (pv 4) xM rfl))))))))) (xf (xb (wC (wO) (by rfl) T.b_tuple zu (xF (xI (pv 2) xM rfl)))))))),?_⟩
  have line:1001<=sizeLine:=by rw [sizeLine_eq];decide
  refine ⟨zb _,fun l hl=>?_⟩
  have npl:=hp.ne hl
  refine (zr rfl (zr rfl ⟨by omega,by omega,?_⟩))
  refine for_range (lo:=0) (n:=n) (fun i σ H2=>∃ v3 v4 rs,σ=[some (.ref p),some (.int n),some (.ref l),v3,v4]/\H2 l=some (.lst (List.map V.int rs))/\rs.length=i/\(∀ r ∈ rs,(0:Int)<=r/\r<=99)/\Go p H H2)
   ⟨_,_,[],rfl,xH,rfl,(fun _ z=>nomatch z),(Go.refl hp).new hl⟩ ?_ ?_
  ·rintro i σ H2 hi ⟨v3,v4,rs,rfl,h2,hlen,hr,go⟩
   refine (zr rfl ⟨p,zr rfl ⟨by decide,by decide,go.2,fun d H3 d0 d1 g3=>(zr2 rfl rfl ⟨⟨by decide,by decide⟩,?_⟩)⟩⟩)
   refine (zr rfl ⟨rfl,zr rfl (iteN (fun σ H4=>∃ x:Int,σ=[some (.ref p),some (.int n),some (.ref l),some (.int (0 + (i:Int))),some (.int x)]/\0<=x/\x<=99/\Go p H2 H4) ?_ (fun c k0=>(zr rfl ⟨p,zr rfl ⟨by decide,by decide,g3.2,fun e H4 e0 e1 g4=>k0 _ _ ⟨e,rfl,e0,by omega,g3.trans g4⟩⟩⟩)) (fun c=>(zr rfl ⟨by omega,by omega,g3⟩)))⟩)
   rintro σ H4 ⟨x,rfl,x0,x1,g4⟩
   have h4:=g4.1 l _ npl h2
   refine (zr rfl ⟨.inl ⟨rfl,_,SqL.of h4⟩,zr rfl ⟨l,zr2 rfl rfl ⟨h4,by rw [zA];omega,_,_,rs ++ [x],rfl,by rw [xH,zN];rfl,by simp [hlen],fun r hr'=>?_,?_⟩⟩⟩)
   ·rcases zW.mp hr' with h | h
    ·exact hr r h
    ·cases zI.mp h;exact ⟨x0,x1⟩
   ·have g2:=go.trans g4
    refine ⟨fun b u nb e=>?_,?_⟩
    ·rw [xN (xJ e hl)];exact g2.1 b u nb e
    ·obtain ⟨a,b,c,e⟩:=g2.2
     exact ⟨a,b,c,by rw [xN npl.symm];exact e⟩
  ·rintro σ H2 ⟨v3,v4,rs,rfl,h2,hlen,hr,go⟩
   exact (zr rfl ⟨l,zr rfl (.inl ⟨SqL.of h2,fun t ht=>q t rs _ (go.new ht) xH hlen hr⟩)⟩)
theorem sc__law_step:FnScope ["_law_purse_here", "_law_way"] ["_law_purse_here"] (defScope s__law_step):=⟨rfl,rfl,rfl,by decide +kernel,rfl,by decide +kernel,by decide +kernel⟩
theorem ok__law_step (T:Tx K mg a t_MOST_TOKENS):FnOk P w K mg base CX0 2 a.a__law_step a.d__law_step ["_law_purse_here"] (spStep):=by
 have G__law_take:=@xr P w _ _ base _ _ T
 refine T.F__law_step.ok sc__law_step (fun vs H Q E h=>?_) (fun cdv A outer s H vs Q E hr h=>?_)
 ·obtain ⟨p,rfl,_⟩:=h;rfl
 ·have nd:=sc__law_step.nd
  have hu:=hr.units
  obtain ⟨p,rfl,hp,q⟩:=h
  refine ⟨_,(xK (xW (xX (i:=1) nd rfl (by first | exact Or.inl rfl | exact Or.inr rfl) (xP G__law_take (hr.mono (by decide)) rfl T.m__law_take T.k__law_take T.i__law_take .nil pass0 (xF (xI (pv 0) (xI xG xM rfl) rfl)))) (xW (xh (xV op_lt (pv 1) xG (nomark _)) (xK (xf (xb (xS (xY rfl) (xu (xF (xI xG (xI xG (xI xG xM rfl) rfl) rfl))) (pv 1) (fun _ _=>rfl))))) xZ) (xW (xh (xV wE (pv 1) xG (nomark _)) (xK (xf (xb (xg xt xG (xP G__law_take (hr.mono (by decide)) rfl T.m__law_take T.k__law_take T.i__law_take .nil pass0 (xF (xI (pv 0) (xI xG xM rfl) rfl))))))) xZ) (xf (xb (xg xt xG (xP G__law_take (hr.mono (by decide)) rfl T.m__law_take T.k__law_take T.i__law_take .nil pass0 (xF (xI (pv 0) (xI (xg op_mul xG (xg op_pow xG xG)) xM rfl) rfl)))))))))),?_⟩
  have s3:3<=sizeLine:=by rw [sizeLine_eq];decide
  refine (zr rfl ⟨p,zr rfl ⟨by decide,by decide,hp,fun d H1 d0 d1 g1=>(zr rfl (zr2 rfl rfl (zr rfl (iteD (fun h1=>?_) fun h1=>?_))))⟩⟩)
  ·obtain ⟨v,hv,v0,v1⟩:∃ v:Int,atI [V.int 0,V.int 1,V.int 1] d=some (V.int v)/\0<=v/\v<=1:=by
    obtain rfl | rfl | rfl:d=0\/d=1\/d=2:=by omega
    ·exact ⟨0,rfl,by decide,by decide⟩
    ·exact ⟨1,rfl,by decide,by decide⟩
    ·exact ⟨1,rfl,by decide,by decide⟩
   exact ⟨s3,fun l hl=>(zr rfl (ixl xH hv (q _ _ v0 (by omega) (g1.new hl))))⟩
  ·refine (zr rfl ⟨rfl,zr rfl (iteD (fun h2=>?_) fun h2=>?_)⟩)
   ·exact (zr rfl ⟨p,zr rfl ⟨by decide,by decide,g1.2,fun e H2 e0 e1 g2=>(zr2 rfl rfl (q _ _ (by omega) (by omega) (g1.trans g2)))⟩⟩)
   ·have e16:(16:Int) * 10 ^ Int.toNat 6=16000000:=by decide
    refine (zr rfl (zr2 rfl rfl ⟨⟨by decide,by decide,by decide⟩,zr2 rfl rfl ⟨.inl ⟨by decide,by decide⟩,p,zr rfl ⟨by decide,by decide,g1.2,fun e H2 e0 e1 g2=>(zr2 rfl rfl (q _ _ (by omega) (by rw [e16] at e1;omega) (g1.trans g2)))⟩⟩⟩))
theorem sc__law_meetings:FnScope ["_law_purse_here", "_law_walkers", "_law_most", "_law_found", "_law_when", "_law_busy", "_law_k", "_law_one", "_law_other", "_law_gap", "_law_passed", "_law_late"] ["_law_purse_here", "_law_walkers", "_law_most"] (defScope wQ):=⟨rfl,rfl,rfl,by decide +kernel,rfl,by decide +kernel,by decide +kernel⟩
theorem ok__law_meetings (T:Tx K mg a t_MOST_TOKENS):FnOk P w K mg base CX0 3 a.a__law_meetings a.d__law_meetings ["_law_purse_here", "_law_walkers", "_law_most"] (spMeetings):=by
 have G__law_take:=@xr P w _ _ base _ _ T
 have G__law_step:=@ok__law_step P w _ _ base _ _ T
 refine T.F__law_meetings.ok sc__law_meetings (fun vs H Q E h=>?_) (fun cdv A outer s H vs Q E hr h=>?_)
 ·obtain ⟨p,w,n,rfl,_⟩:=h;rfl
 ·have nd:=sc__law_meetings.nd
  have hu:=hr.units
  obtain ⟨p,w,n,rfl,hn,w9,hw,hp,q⟩:=h
  refine ⟨_,(xK (xW (xX (i:=3) nd rfl (by first | exact Or.inl rfl | exact Or.inr rfl) (xu pa_nil)) (xW (xX (i:=4) nd rfl (by first | exact Or.inl rfl | exact Or.inr rfl) (xg xt xG (xg op_mul (xg wY (xP G__law_take (hr.mono (by decide)) rfl T.m__law_take T.k__law_take T.i__law_take .nil pass0 (xF (xI (pv 0) (xI xG xM rfl) rfl))) xG) (xP G__law_take (hr.mono (by decide)) rfl T.m__law_take T.k__law_take T.i__law_take .nil pass0 (xF (xI (pv 0) (xI (xg op_pow xG xG) xM rfl) rfl)))))) (xW (xX (i:=5) nd rfl (by first | exact Or.inl rfl | exact Or.inr rfl) (xu pa_nil)) (xW (ps_for PassesOwn.never rfl (wH rfl T.b_range (xF (xI (pv 2) xM rfl))) (xO (i:=6) nd rfl (by first | exact Or.inl rfl | exact Or.inr rfl)) (xK (xW (xX (i:=7) nd rfl (by first | exact Or.inl rfl | exact Or.inr rfl) (xP G__law_take (hr.mono (by decide)) rfl T.m__law_take T.k__law_take T.i__law_take .nil pass0 (xF (xI (pv 0) (xI (pv 1) xM rfl) rfl)))) (xW (xX (i:=8) nd rfl (by first | exact Or.inl rfl | exact Or.inr rfl) (xg op_mod (xg xt (xg xt (pv 7) xG) (xP G__law_take (hr.mono (by decide)) rfl T.m__law_take T.k__law_take T.i__law_take .nil pass0 (xF (xI (pv 0) (xI (xg op_sub (pv 1) xG) xM rfl) rfl)))) (pv 1))) (xW (xX (i:=9) nd rfl (by first | exact Or.inl rfl | exact Or.inr rfl) (xP G__law_step (hr.mono (by decide)) rfl T.m__law_step T.k__law_step T.i__law_step .nil pass0 (xF (xI (pv 0) xM rfl)))) (xW (xh (PW.pt (pw_or (xV (op_in_seq' rfl) (pv 7) (pv 5) rfl) (pw_or1 (xV (op_in_seq' rfl) (pv 8) (pv 5) rfl)))) (xK (xf (xX (i:=9) nd rfl (by first | exact Or.inl rfl | exact Or.inr rfl) (xU (call_max2 rfl) (by rfl) T.b_max PyProof.Rows.boot_max (xF (xI xG (xI (pv 9) xM rfl) rfl)))))) xZ) (xW (xh (xV op_gt (pv 9) xG (nomark _)) (xK (xf (xX (i:=5) nd rfl (by first | exact Or.inl rfl | exact Or.inr rfl) (xu pa_nil)))) xZ) (xW (xX (i:=4) nd rfl (by first | exact Or.inl rfl | exact Or.inr rfl) (xg xt (pv 4) (pv 9))) (xW (xX (i:=5) nd rfl (by first | exact Or.inl rfl | exact Or.inr rfl) (xg op_cat (pv 5) (xu (xF (xI (pv 7) (xI (pv 8) xM rfl) rfl))))) (xW (xX (i:=10) nd rfl (by first | exact Or.inl rfl | exact Or.inr rfl) (xg xt xG (xg wY (xP G__law_take (hr.mono (by decide)) rfl T.m__law_take T.k__law_take T.i__law_take .nil pass0 (xF (xI (pv 0) (xI xG xM rfl) rfl))) xG))) (xW (xh (xV wE (xP G__law_take (hr.mono (by decide)) rfl T.m__law_take T.k__law_take T.i__law_take .nil pass0 (xF (xI (pv 0) (xI xG xM rfl) rfl))) xG (nomark _)) (xK (xf (xX (i:=10) nd rfl (by first | exact Or.inl rfl | exact Or.inr rfl) (xg xt xG (xP G__law_take (hr.mono (by decide)) rfl T.m__law_take T.k__law_take T.i__law_take .nil pass0 (xF (xI (pv 0) (xI xG xM rfl) rfl))))))) xZ) (xf (wG (pe_bm yM yJ yK mt_append (pv 3) (xF (xI (xp (xF (xI (pv 4) (xI (xU (call_min2 rfl) (by rfl) T.b_min PyProof.Rows.boot_min (xF (xI (pv 7) (xI (pv 8) xM rfl) rfl))) (xI (xU (call_max2 rfl) (by rfl) T.b_max PyProof.Rows.boot_max (xF (xI (pv 7) (xI (pv 8) xM rfl) rfl))) (xI (pv 10) xM rfl) rfl) rfl) rfl))) xM rfl)))))))))))))))) (xW (xX (i:=11) nd rfl (by first | exact Or.inl rfl | exact Or.inr rfl) xG) (xW (xh (PW.pt (pw_and (xV wE (xP G__law_take (hr.mono (by decide)) rfl T.m__law_take T.k__law_take T.i__law_take .nil pass0 (xF (xI (pv 0) (xI xG xM rfl) rfl))) xG (nomark _)) (pw_and1 (xV (op_neNil hu) (pv 3) (xu pa_nil) (nomark _))))) (xK (xf (xX (i:=11) nd rfl (by first | exact Or.inl rfl | exact Or.inr rfl) (xg op_sub (xg op_pow xG xG) (pv 4))))) xZ) (xf (xb (wC (wO) (by rfl) T.b_tuple zu (xF (xI (pe_comp (own:=["_law_then", "_law_low", "_law_high", "_law_room"]) (caps:=[11]) rfl (show CompScope ["_law_then", "_law_low", "_law_high", "_law_room"] [11] ["_law_purse_here", "_law_walkers", "_law_most", "_law_found", "_law_when", "_law_busy", "_law_k", "_law_one", "_law_other", "_law_gap", "_law_passed", "_law_late"] (defScope wQ) _ from ⟨rfl,by decide +kernel,by decide +kernel,by decide +kernel,by decide +kernel⟩) (pi_list' rfl (xU (call_sortT) (by rfl) T.b_sorted PyProof.Rows.boot_sorted (xF (xI (pv 3) xM rfl)))) (fun _ _ _ _=>(xw (n:=4) rfl rfl (xQ (xO (i:=0) (show List.Nodup (["_law_then", "_law_low", "_law_high", "_law_room", "_law_late"]:List Str) from by decide +kernel) rfl (by first | exact Or.inl rfl | exact Or.inr rfl)) (xQ (xO (i:=1) (show List.Nodup (["_law_then", "_law_low", "_law_high", "_law_room", "_law_late"]:List Str) from by decide +kernel) rfl (by first | exact Or.inl rfl | exact Or.inr rfl)) (xQ (xO (i:=2) (show List.Nodup (["_law_then", "_law_low", "_law_high", "_law_room", "_law_late"]:List Str) from by decide +kernel) rfl (by first | exact Or.inl rfl | exact Or.inr rfl)) (xQ (xO (i:=3) (show List.Nodup (["_law_then", "_law_low", "_law_high", "_law_room", "_law_late"]:List Str) from by decide +kernel) rfl (by first | exact Or.inl rfl | exact Or.inr rfl)) xv)))))) (fun _ _ _ _=>wX) (fun _ _ _ _=>(xp (xF (xI (pv 1) (xI (pv 2) (xI (xg xt (pv 0) (pv 4)) (xI (pv 3) xM rfl) rfl) rfl) rfl))))) xM rfl)))))))))))),?_⟩
  have line:1001<=sizeLine:=by rw [sizeLine_eq];decide
  have c7:CPow 10 7:=⟨by decide,by decide,by decide⟩
  have e7:(10:Int) ^ Int.toNat 7=10000000:=by decide
  have e64:(2:Int) ^ 64 > 1000:=by decide
  have e200:(2:Int) ^ 200 > 1000:=by decide
  refine ⟨zb _,fun lf hlf=>?_⟩
  have npf:=hp.ne hlf
  have hp1:Purse (upd H lf (.lst [])) p:=hp.new hlf
  refine (zr rfl ⟨p,zr rfl ⟨by decide,by decide,hp1,fun d H1 d0 d1 g1=>(zr2 rfl rfl ⟨⟨by decide,by decide⟩,zr rfl (zr2 rfl rfl ⟨c7,?_⟩)⟩)⟩⟩)
  refine ⟨p,zr rfl ⟨by decide,by decide,g1.2,fun d2 H2 d20 d21 g2=>(zr2 rfl rfl ⟨.inl ⟨by omega,by omega⟩,zr2 rfl rfl ?_⟩)⟩⟩
  rw [e7] at d21
  refine ⟨zb _,fun lb hlb=>?_⟩
  have fr2:=g1.trans g2
  have hlf2:H2 lf=some (.lst []):=fr2.1 lf _ npf xH
  have go0:Go p H H2:=((Go.refl hp).new hlf).trans fr2
  refine (zr rfl (zr rfl ⟨by omega,by omega,?_⟩))
  have wh0:1<=1 + d / 2 * d2/\1 + d / 2 * d2<=10000000:=by
   obtain h | h:d / 2=0\/d / 2=1:=by omega
   ·rw [h];omega
   ·rw [h];omega
  refine for_range (lo:=0) (n:=n) (PvM p lf w n H)
   ⟨_,_,_,_,_,_,lb,[],[],rfl,by rw [xN (xJ hlf2 hlb)];exact hlf2,xH,(xJ hlf2 hlb).symm,go0.2.ne hlb,(fun _ z=>nomatch z),⟨(fun _ z=>nomatch z),.nil,(fun _ z=>nomatch z)⟩,rfl,by simp,wh0.1,(by have:=wh0.2;simpa using this),go0.new hlb⟩ ?_ ?_
  ·rintro i σ H3 hi ⟨v6,v7,v8,v9,v10,wh,lb,bs,fs,rfl,h3f,h3b,nbf,nbp,h3r,F,lenf,lenb,wh1,wh2,go⟩
   have w2:2<=w:=by omega
   refine (zr rfl (zr rfl ⟨p,w,rfl,by omega,by omega,go.2,fun one H4 o0 o1 g4=>?_⟩))
   refine (zr rfl (zr2 rfl rfl (zr rfl (zr rfl (zr2 rfl rfl ⟨p,zr rfl ⟨by omega,by omega,g4.2,fun x H5 x0 x1 g5=>(zr2 rfl rfl (zr rfl (zr2 rfl rfl ⟨by omega,?_⟩)))⟩⟩)))))
   have ot:=oth_ok o0 o1 x0 x1
   refine (zr rfl ⟨p,rfl,g5.2,fun gap H6 gap0 gap1 g6=>?_⟩)
   have g46:=g4.trans (g5.trans g6)
   have hb6:=g46.1 lb _ nbp h3b
   have hf6:=g46.1 lf _ npf h3f
   refine (zr rfl (zr rfl ⟨lb,zr rfl ⟨.inl (SqL.of hb6),rfl,flat_ints bs,zr rfl (iteO (fun σ H7=>∃ gp:Int,σ=[some (.ref p),some (.int w),some (.int n),some (.ref lf),some (.int wh),some (.ref lb),some (.int (0 + (i:Int))),some (.int one),some (.int ((one + 1 + x) % w)),some (.int gp),v10,none]/\H6=H7/\0<=gp/\gp<=16000000/\(gp=0->one ∉ bs/\(one + 1 + x) % w ∉ bs)) ?_ (fun c1 k0=>?_) (fun c1 k0=>(zr rfl (zr rfl ⟨lb,zr rfl ⟨.inl (SqL.of hb6),rfl,flat_ints bs,zr rfl (iteB (fun c2=>?_) (fun c2=>?_))⟩⟩))))⟩⟩))
   rotate_left
   ·exact (zr rfl (zr1 rfl (k0 _ _ (zr rfl ⟨rfl,by split <;> omega,by split <;> omega,fun z=>by split at z <;> omega⟩))))
   ·exact (zr rfl (zr1 rfl (k0 _ _ (zr rfl ⟨rfl,by split <;> omega,by split <;> omega,fun z=>by split at z <;> omega⟩))))
   ·have c1':one ∉ bs:=of_decide_eq_false (inV_ints.symm.trans c1)
    have c2':(one + 1 + x) % w ∉ bs:=of_decide_eq_false (inV_ints.symm.trans c2)
    exact k0 _ _ ⟨gap,rfl,rfl,by omega,by omega,fun _=>⟨c1',c2'⟩⟩
   rintro σ H7 ⟨gp,rfl,rfl,gp0,gp1,hg⟩
   refine (zr rfl (zr2 rfl rfl (zr rfl (iteN (fun σ H7=>∃ ly bz,σ=[some (.ref p),some (.int w),some (.int n),some (.ref lf),some (.int wh),some (.ref ly),some (.int (0 + (i:Int))),some (.int one),some (.int ((one + 1 + x) % w)),some (.int gp),v10,none]/\Go p H3 H7/\H7 ly=some (.lst (List.map V.int bz))/\ly ≠ p/\bz.length<=2 * i/\∀ z ∈ bs,gp=0->z ∈ bz) ?_ (fun c3 k0=>⟨zb _,fun ln hln=>k0 _ _ ⟨ln,[],rfl,g46.new hln,xH,g46.2.ne hln,zb _,fun _ _ z=>by have:=of_decide_eq_true c3;omega⟩⟩) (fun c3=>⟨lb,bs,rfl,g46,hb6,nbp,lenb,fun _ z _=>z⟩)))))
   rintro σ H7 ⟨ly,bz,rfl,gy,hyb,nyp,leny,hb0⟩
   have h3f':=gy.1 lf _ npf h3f
   refine (zr rfl (zr rfl (zr2 rfl rfl ?_)))
   refine (zr rfl (zr rfl (zr rfl ⟨by show 2<=sizeLine;omega,fun l2 hl2=>?_⟩)))
   have g2':=gy.new (o:=HO.lst [V.int one,V.int ((one + 1 + x) % w)]) hl2
   have hyb2:=xL (o:=HO.lst [V.int one,V.int ((one + 1 + x) % w)]) hl2 _ _ hyb
   have h22:(upd H7 l2 (HO.lst [V.int one,V.int ((one + 1 + x) % w)])) l2=some (.lst [V.int one,V.int ((one + 1 + x) % w)]):=xH
   generalize upd H7 l2 (HO.lst [V.int one,V.int ((one + 1 + x) % w)])=H8 at g2' hyb2 h22 ⊢
   refine ⟨ly,l2,zr2 rfl rfl ⟨hyb2,h22,(by simp only [zA,zg,yd];omega),fun l3 hl3=>?_⟩⟩
   have n3p:l3 ≠ p:=g2'.2.ne hl3
   have n3f:l3 ≠ lf:=(xJ (g2'.1 lf _ npf h3f) hl3).symm
   have g3':=g2'.new (o:=HO.lst (List.map V.int bz ++ [V.int one,V.int ((one + 1 + x) % w)])) hl3
   have h3b':(upd H8 l3 (HO.lst (List.map V.int bz ++ [V.int one,V.int ((one + 1 + x) % w)]))) l3=some (.lst (List.map V.int (bz ++ [one,(one + 1 + x) % w]))):=by rw [xH,zN];rfl
   generalize upd H8 l3 (HO.lst (List.map V.int bz ++ [V.int one,V.int ((one + 1 + x) % w)]))=H9 at g3' h3b' ⊢
   refine (zr rfl ⟨p,zr rfl ⟨by decide,by decide,g3'.2,fun d4 H10 d40 d41 g10=>(zr2 rfl rfl ⟨⟨by decide,by decide⟩,zr2 rfl rfl ?_⟩)⟩⟩)
   refine (zr rfl ⟨p,zr rfl ⟨by decide,by decide,g10.2,fun d5 H11 d50 d51 g11=>⟨rfl,zr rfl (iteN (fun σ H12=>∃ mm:Int,σ=[some (.ref p),some (.int w),some (.int n),some (.ref lf),some (.int (wh + gp)),some (.ref l3),some (.int (0 + (i:Int))),some (.int one),some (.int ((one + 1 + x) % w)),some (.int gp),some (.int mm),none]/\1<=mm/\mm<=99/\Go p H9 H12) ?_ (fun c5 k0=>(zr rfl ⟨p,zr rfl ⟨by decide,by decide,g11.2,fun d6 H12 d60 d61 g12=>(zr2 rfl rfl (k0 _ _ (zr rfl ⟨by omega,by omega,(g10.trans g11).trans g12⟩)))⟩⟩)) (fun c5=>(zr rfl ⟨by omega,by omega,g10.trans g11⟩)))⟩⟩⟩)
   rintro σ H12 ⟨mm,rfl,mm0,mm1,g12⟩
   have gall:=g3'.trans g12
   have hz:=gall.1 lf _ npf h3f
   refine (zr rfl ⟨.inl ⟨rfl,_,SqL.of hz⟩,zr rfl (zr rfl (zr rfl (zr1 rfl (zr rfl (zr rfl (zr1 rfl (zr rfl ⟨by show 4<=sizeLine;omega,fun t ht=>⟨lf,zr2 rfl rfl ⟨(by rw [xN (xJ hz ht)];exact hz),(by rw [zA];omega),?_⟩⟩⟩)))))))⟩)
   exact PvM.step npf hlf F lenf (bs':=bz ++ [one,(one + 1 + x) % w]) (by simp only [zT,zg,yd];omega) wh1 wh2 hz (g12.1 l3 _ n3p h3b') n3f n3p (fun a ha=>gall.tups go.2 _ _ (h3r a ha)) (go.trans gall) ht gp0 gp1 o0 o1 ot.1 ot.2.1 ot.2.2 mm0 mm1 hg (fun z hz1 hz2=>ye _ (hb0 z hz1 hz2)) (by simp) (by simp)
  ·rintro σ H3 ⟨v6,v7,v8,v9,v10,wh,lb,bs,fs,rfl,h3f,h3b,nbf,nbp,h3r,F,lenf,lenb,wh1,wh2,go⟩
   have c9:CPow 10 9:=⟨by decide,by decide,by decide⟩
   have e9:(10:Int) ^ Int.toNat 9=1000000000:=by decide
   refine (zr rfl ⟨p,zr rfl ⟨by decide,by decide,go.2,fun d8 H4 _ _ g4=>⟨rfl,zr rfl (iteA (fun σ H5=>∃ late:Int,(∃ v6 v7 v8 v9 v10,σ=[some (.ref p),some (.int w),some (.int n),some (.ref lf),some (.int wh),some (.ref lb),v6,v7,v8,v9,v10,some (.int late)])/\Go p H3 H5/\0<=late/\(fs ≠ []->wh + late<=1000000000)) ?_ (fun c k0=>?_) (fun c=>⟨0,⟨_,_,_,_,_,rfl⟩,g4,yL _,fun _=>by omega⟩))⟩⟩⟩)
   rotate_left
   ·have h4f:=g4.1 lf _ npf h3f
    refine (zr rfl ⟨zb _,fun l4 hl4=>⟨lf,l4,zr rfl ⟨rfl,SqL.of (by rw [xN (xJ h4f hl4)];exact h4f),SqL.of xH,zr rfl (iteB (fun c2=>?_) (fun c2=>?_))⟩⟩⟩)
    ·exact (zr2 rfl rfl ⟨c9,zr rfl (zr2 rfl rfl (k0 _ _ ⟨_,⟨_,_,_,_,_,rfl⟩,g4.new hl4,by rw [e9];omega,fun _=>by rw [e9];omega⟩))⟩)
    ·exact k0 _ _ ⟨0,⟨_,_,_,_,_,rfl⟩,g4.new hl4,yL _,fun _=>by omega⟩
   rintro σ Hz ⟨late,⟨v6',v7',v8',v9',v10',rfl⟩,gz,L0,L1⟩
   have hz:=gz.1 lf _ npf h3f
   refine (zr rfl ⟨lf,fs.map (fun a=>(a.1,a.2.row)),rfl,?_,(by rw [zA];omega),(fun a ha=>?_),fun D qs hD pq sq=>?_⟩)
   ·rw [zX];exact SqL.of hz
   ·obtain ⟨b,hb,rfl⟩:=zM.mp ha
    exact ⟨gz.tups go.2 _ _ (h3r b hb),by intro z;cases z⟩
   obtain ⟨rs,prs,srs,rfl⟩:=rows_back pq sq
   refine ⟨D,rfl,⟨_,SqL.of xH⟩,?_⟩
   have lrs:rs.length=n:=by rw [prs.length_eq,lenf]
   have hDl:(upd Hz D (HO.lst (List.map (fun a=>V.ref a.1) (List.map (fun a:Addr × M4=>(a.1,a.2.row)) rs)))) D=some (.lst (rs.map fun a=>V.ref a.1)):=by rw [xH,zX];rfl
   have rD:=fun a (ha:a ∈ rs)=>(Tups.new (o:=HO.lst (List.map (fun a=>V.ref a.1) (List.map (fun a:Addr × M4=>(a.1,a.2.row)) rs))) hD) _ _ (gz.tups go.2 _ _ (h3r a (prs.mem_iff.mp ha)))
   have gD:=(go.trans gz).new (o:=HO.lst (List.map (fun a=>V.ref a.1) (List.map (fun a:Addr × M4=>(a.1,a.2.row)) rs))) hD
   refine comp_list (K:=K) (a:=D) (xs:=rs.map fun a=>V.ref a.1) (fun i τ acc H5=>∃ ps:List (Addr × M4),(∃ t0 t1 t2 t3,τ=[t0,t1,t2,t3,some (.int late)])/\acc=(ps.map fun a=>V.ref a.1)/\(ps.map (·.2))=((rs.take i).map fun a=>a.2.late late)/\RowsAt H5 ps/\Same (upd Hz D (HO.lst (List.map (fun a=>V.ref a.1) (List.map (fun a:Addr × M4=>(a.1,a.2.row)) rs)))) H5)
    ?_ (by rw [zA];omega) ?_ ?_ ?_
   ·exact ⟨[],⟨_,_,_,_,rfl⟩,rfl,rfl,(fun _ z=>nomatch z),Same.refl _⟩
   ·rintro i τ acc H6 ⟨ps,⟨t0,t1,t2,t3,rfl⟩,rfl,eps,rws,sm⟩
    have:=congrArg List.length eps
    rw [zA,zA,yY] at this
    exact ⟨by rw [zA];omega,sm.seq (SqL.of hDl)⟩
   ·rintro i x τ acc H5 C hx ⟨ps,⟨t0,t1,t2,t3,rfl⟩,rfl,eps,rws,sm⟩ hC
    obtain ⟨r,hr,rfl⟩:=xz hx
    have hrow:=sm _ _ (rD r (zD hr))
    refine (un4 hrow (zr rfl (zr rfl (zr rfl (zr rfl (zr2 rfl rfl (zr rfl ⟨by show 4<=sizeLine;omega,fun t ht=>hC _ _ _ ?_⟩)))))))
    refine ⟨ps ++ [(t,r.2.late late)],⟨_,_,_,_,rfl⟩,by rw [zN];rfl,by rw [zN,wI hr,zN,eps];rfl,fun a ha=>?_,sm.trans (xL ht)⟩
    rcases zW.mp ha with h | h
    ·exact xL ht _ _ (rws a h)
    ·cases zI.mp h
     exact xH
   ·rintro τ acc H6 ⟨ps,⟨t0,t1,t2,t3,rfl⟩,rfl,eps,rws,sm⟩ lt hlt
    refine ⟨lt,zr rfl (.inl ⟨SqL.of xH,fun t ht=>q t ps _ (((gD.same sm).new hlt).new ht) xH ((rws.tups (Tups.new hlt)).tups (Tups.new ht)) ?_ ?_⟩)⟩
    ·rw [eps,zA,yj]
     exact F.good (by omega) L0 L1 prs srs
    ·have:=congrArg List.length eps
     rw [zA,zA,zA,yj] at this
     omega
theorem sc__law_book:FnScope ["_law_purse_here", "_law_most_walkers", "_law_most_meetings", "_law_walkers", "_law_most"] ["_law_purse_here", "_law_most_walkers", "_law_most_meetings"] (defScope s__law_book):=⟨rfl,rfl,rfl,by decide +kernel,rfl,by decide +kernel,by decide +kernel⟩
theorem ok__law_book (T:Tx K mg a t_MOST_TOKENS):FnOk P w K mg base CX0 4 a.a__law_book a.d__law_book ["_law_purse_here", "_law_most_walkers", "_law_most_meetings"] (spBook):=by
 have G__law_take:=@xr P w _ _ base _ _ T
 have G__law_rooms:=@ok__law_rooms P w _ _ base _ _ T
 have G__law_meetings:=@ok__law_meetings P w _ _ base _ _ T
 refine T.F__law_book.ok sc__law_book (fun vs H Q E h=>?_) (fun cdv A outer s H vs Q E hr h=>?_)
 ·obtain ⟨p,a,n,rfl,_⟩:=h;rfl
 ·have nd:=sc__law_book.nd
  have hu:=hr.units
  obtain ⟨p,aw,n,rfl,a1,a2,hn,hp,q⟩:=h
  refine ⟨_,(xK (xW (xX (i:=3) nd rfl (by first | exact Or.inl rfl | exact Or.inr rfl) (xg xt xG (xP G__law_take (hr.mono (by decide)) rfl T.m__law_take T.k__law_take T.i__law_take .nil pass0 (xF (xI (pv 0) (xI (pv 1) xM rfl) rfl))))) (xW (xX (i:=4) nd rfl (by first | exact Or.inl rfl | exact Or.inr rfl) (xU (call_min2 rfl) (by rfl) T.b_min PyProof.Rows.boot_min (xF (xI (pv 2) (xI (xP G__law_take (hr.mono (by decide)) rfl T.m__law_take T.k__law_take T.i__law_take .nil pass0 (xF (xI (pv 0) (xI (xg xt (pv 2) xG) xM rfl) rfl))) xM rfl) rfl)))) (xW (xh (xV wE (pv 3) xG (nomark _)) (xK (xf (xX (i:=4) nd rfl (by first | exact Or.inl rfl | exact Or.inr rfl) xG))) xZ) (xf (xb (xp (xF (xI (xP G__law_rooms (hr.mono (by decide)) rfl T.m__law_rooms T.k__law_rooms T.i__law_rooms .nil pass0 (xF (xI (pv 0) (xI (pv 3) xM rfl) rfl))) (xI (xP G__law_meetings (hr.mono (by decide)) rfl T.m__law_meetings T.k__law_meetings T.i__law_meetings .nil pass0 (xF (xI (pv 0) (xI (pv 3) (xI (pv 4) xM rfl) rfl) rfl))) xM rfl) rfl))))))))),?_⟩
  have line:1001<=sizeLine:=by rw [sizeLine_eq];decide
  have e200:(2:Int) ^ 200 > 1000:=by decide
  refine (zr rfl (zr rfl ⟨p,aw,rfl,by omega,by omega,hp,fun d H1 d0 d1 g1=>(zr2 rfl rfl ?_)⟩))
  obtain ⟨k,rfl⟩:=zO d0
  refine (zr rfl (zr rfl (zr rfl (zr2 rfl rfl ⟨p,zr rfl ⟨by omega,by omega,g1.2,fun e H2 e0 e1 g2=>(zr1 rfl ?_)⟩⟩))))
  obtain ⟨m,em,hm⟩:∃ m:Nat,(if e < (n:Int) then e else (n:Int))=m/\m<=n:=by
   refine ⟨(if e < (n:Int) then e else (n:Int)).toNat,?_,?_⟩ <;> split <;> omega
  refine ⟨_,rfl,rfl,_,rfl,iteN (fun σ H3=>∃ m:Nat,σ=[some (.ref p),some (.int aw),some (.int n),some (.int (1 + (k:Int))),some (.int m)]/\m<=n/\(m=0\/1<=k)/\Go p H H3) ?_ (fun c k0=>k0 _ _ ⟨0,rfl,zb _,.inl rfl,g1.trans g2⟩) (fun c=>⟨m,by rw [<-em];rfl,hm,.inr (by
    by_cases hk:k=0
    ·subst hk;exact absurd c (by simp)
    ·omega),g1.trans g2⟩)⟩
  rintro σ H2 ⟨m,rfl,hm,hk,g2⟩
  refine (zr rfl (zr rfl ⟨p,1 + k,by simp,by omega,g2.2,fun tr rooms H3 g3 h3 l3 r3=>(zr rfl (zr rfl (zr rfl ⟨p,_,m,rfl,by omega,by omega,by omega,g3.2,fun tm ps H4 g4 h4 r4 gd l4=>⟨by show 2<=sizeLine;omega,fun b hb=>?_⟩⟩)))⟩))
  have h3':=g4.tups g3.2 _ _ h3
  have tn:=Tups.new (o:=HO.tup [V.ref tr,V.ref tm]) hb
  refine q b rooms tr tm ps _ ((g2.trans (g3.trans g4)).new hb) ⟨xH,tn _ _ h3',tn _ _ h4,r4.tups tn⟩ (by omega) (by omega) r3 ?_ (by omega)
  rw [l3]
  simpa using gd
theorem sc__law_time:FnScope ["_law_purse_here", "_law_book_here", "_law_later", "_law_way", "_law_at"] ["_law_purse_here", "_law_book_here", "_law_later"] (defScope s__law_time):=⟨rfl,rfl,rfl,by decide +kernel,rfl,by decide +kernel,by decide +kernel⟩
theorem ok__law_time (T:Tx K mg a t_MOST_TOKENS):FnOk P w K mg base CX0 3 a.a__law_time a.d__law_time ["_law_purse_here", "_law_book_here", "_law_later"] (spTimeOf):=by
 have G__law_take:=@xr P w _ _ base _ _ T
 have G__law_far:=@ok__law_far P w _ _ base _ _ T
 refine T.F__law_time.ok sc__law_time (fun vs H Q E h=>?_) (fun cdv A outer s H vs Q E hr h=>?_)
 ·obtain ⟨p,b,j,_,_,_,_,rfl,_⟩:=h;rfl
 ·have nd:=sc__law_time.nd
  have hu:=hr.units
  obtain ⟨p,b,j,rooms,tr,tm,ps,rfl,hj,hb,gd,hp,q⟩:=h
  refine ⟨_,(xK (xW (xX (i:=3) nd rfl (by first | exact Or.inl rfl | exact Or.inr rfl) (xP G__law_take (hr.mono (by decide)) rfl T.m__law_take T.k__law_take T.i__law_take .nil pass0 (xF (xI (pv 0) (xI xG xM rfl) rfl)))) (xW (xh (xV wE (pv 3) xG (nomark _)) (xK (xf (xb (xS (xY rfl) (xu (xF (xI xG (xI (xg op_pow xG xG) xM rfl) rfl))) (pv 2) (fun _ _=>rfl))))) xZ) (xW (xh (xV wE (pv 3) xG (nomark _)) (xK (xf (xb (xP G__law_far (hr.mono (by decide)) rfl T.m__law_far T.k__law_far T.i__law_far .nil pass0 (xF (xI (pv 0) xM rfl)))))) xZ) (xW (xh (xV (op_eqUnit hu) (xS (xT rfl) (pv 1) xG (fun _ _=>rfl)) (xp pa_nil) (nomark _)) (xK (xf (xb (xP G__law_take (hr.mono (by decide)) rfl T.m__law_take T.k__law_take T.i__law_take .nil pass0 (xF (xI (pv 0) (xI xG xM rfl) rfl)))))) xZ) (xW (xX (i:=4) nd rfl (by first | exact Or.inl rfl | exact Or.inr rfl) (xP G__law_take (hr.mono (by decide)) rfl T.m__law_take T.k__law_take T.i__law_take .nil pass0 (xF (xI (pv 0) (xI (xU (xR rfl) (by rfl) T.b_len PySem.boot_len (xF (xI (xS (xT rfl) (pv 1) xG (fun _ _=>rfl)) xM rfl))) xM rfl) rfl)))) (xW (xh (xV op_gt (pv 3) xG (nomark _)) (xK (xf (xX (i:=4) nd rfl (by first | exact Or.inl rfl | exact Or.inr rfl) (xS (xY rfl) (xu (xF (xI (xg wY (pv 4) xG) (xI (xg wY (xg xt (pv 4) (xU (xR rfl) (by rfl) T.b_len PySem.boot_len (xF (xI (xS (xT rfl) (pv 1) xG (fun _ _=>rfl)) xM rfl)))) xG) xM rfl) rfl))) (pv 2) (fun _ _=>rfl))))) xZ) (xf (xb (xg op_sub (xS (xT rfl) (xS (xT rfl) (xS (xT rfl) (pv 1) xG (fun _ _=>rfl)) (pv 4) (fun _ _=>rfl)) xG (fun _ _=>rfl)) (xS (xY rfl) (xu (xF (xI xG (xI xG xM rfl) rfl))) (xg op_xor (xg wY (xP G__law_take (hr.mono (by decide)) rfl T.m__law_take T.k__law_take T.i__law_take .nil pass0 (xF (xI (pv 0) (xI xG xM rfl) rfl))) xG) (pv 2)) (fun _ _=>rfl)))))))))))),?_⟩
  have line:=line9
  have e200:(2:Int) ^ 200 > 10000:=by decide
  have c9:CPow 10 9:=⟨by decide,by decide,by decide⟩
  have e9:(10:Int) ^ Int.toNat 9=1000000000:=by decide
  have l60:=gd.len
  refine (zr rfl ⟨p,zr rfl ⟨by decide,by decide,hp,fun way H1 w0 w1 g1=>?_⟩⟩)
  refine (zr rfl ⟨rfl,zr rfl (iteD (fun c=>?_) (fun c=>(zr rfl ⟨rfl,zr rfl (iteD (fun c=>?_) (fun c=>?_))⟩)))⟩)
  ·refine (zr2 rfl rfl ⟨c9,by show 2<=sizeLine;omega,fun l hl=>(zr rfl ?_)⟩)
   rcases hj with rfl | rfl
   ·exact (ixl xH rfl (q _ _ (by omega) (by omega) (g1.new hl)))
   ·exact (ixl xH rfl (q _ _ (by rw [e9];decide) (by rw [e9];decide) (g1.new hl)))
  ·exact (zr rfl ⟨p,rfl,g1.2,fun d H2 d0 d1 g2=>q _ _ d0 d1 (g1.trans g2)⟩)
  have hb1:=hb.tups (g1.tups hp)
  refine (zr rfl (ixt hb1.book rfl ⟨zb _,fun u hu2=>?_⟩))
  have hb2:=hb1.tups (Tups.new (o:=HO.tup []) hu2)
  have g2:=g1.new (o:=HO.tup []) hu2
  refine ⟨tm,u,zr rfl ⟨rfl,SqT.of hb2.meets,SqT.of xH,zr rfl (iteB (fun c2=>?_) (fun c2=>?_))⟩⟩
  ·exact (zr rfl ⟨p,zr rfl ⟨by decide,by decide,g2.2,fun d H3 d0 d1 g3=>q _ _ d0 (by omega) (g2.trans g3)⟩⟩)
  have lps:1<=ps.length:=by
   cases ps with
   | nil=>cases c2
   | cons _ _=>simp
  refine (zr rfl (zr rfl (ixt hb2.book rfl ⟨tm,zr rfl ⟨.inr (SqT.of hb2.meets),p,zr rfl ⟨by rw [zA];omega,by rw [zA];omega,g2.2,fun d H3 d0 d1 g3=>?_⟩⟩⟩)))
  rw [zA] at d1
  have hb3:=hb2.tups (g3.tups g2.2)
  have gg3:=g2.trans g3
  refine (zr rfl (zr2 rfl rfl (zr rfl (iteD (fun c3=>?_) (fun c3=>?_)))))
  ·refine (zr rfl (zr2 rfl rfl ⟨⟨by decide,by decide⟩,zr rfl (zr rfl (ixt hb3.book rfl ⟨tm,zr rfl ⟨.inr (SqT.of hb3.meets),zr2 rfl rfl (zr2 rfl rfl ⟨⟨by decide,by decide⟩,by show 2<=sizeLine;omega,fun l hl=>(zr rfl ?_)⟩)⟩⟩))⟩))
   have gx:=gg3.new (o:=HO.lst [V.int (d / 2),V.int ((d + ((ps.map fun a=>V.ref a.1).length:Int)) / 2)]) hl
   have hx:=hb3.tups (Tups.new (o:=HO.lst [V.int (d / 2),V.int ((d + ((ps.map fun a=>V.ref a.1).length:Int)) / 2)]) hl)
   obtain ⟨k,ek,hk⟩:∃ k:Nat,atI [V.int (d / 2),V.int ((d + ((ps.map fun a=>V.ref a.1).length:Int)) / 2)] j=some (V.int (k:Int))/\k < ps.length:=by
    rcases hj with rfl | rfl
    ·obtain ⟨k,hk⟩:=zO (show 0<=d / 2 by omega)
     exact ⟨k,by rw [<-hk];rfl,by omega⟩
    ·obtain ⟨k,hk⟩:=zO (show 0<=(d + ((ps.map fun a=>V.ref a.1).length:Int)) / 2 by omega)
     refine ⟨k,by rw [<-hk];rfl,?_⟩
     rw [zA] at hk
     omega
   refine (ixl xH ek ?_)
   refine (zr rfl (ixt hx.book rfl (zr rfl (ixt hx.meets (xi (v:=V.ref ps[k].1) (by simp [hk])) (ixt (hx.rows _ (zh hk)) rfl ⟨by show 2<=sizeLine;omega,fun l9 hl9=>?_⟩)))))
   have g9:=gx.new (o:=HO.lst [V.int 1,V.int 0]) hl9
   refine (zr rfl ⟨p,zr rfl ⟨by decide,by decide,g9.2,fun e H9 e0 e1 g10=>(zr2 rfl rfl ⟨⟨by decide,by decide⟩,zr rfl (zr2 rfl rfl ?_)⟩)⟩⟩)
   have h9:=g10.1 l9 _ (gx.2.ne hl9) xH
   have tb:=gd.at (zh hk)
   have bx:(e / 3=0\/e / 3=1):=by omega
   rcases hj with rfl | rfl <;> rcases bx with bx | bx <;> rw [bx]
   ·exact (ixl h9 (by decide:atI [V.int 1,V.int 0] (Builtin.bitXor 0 0)=some (V.int 1)) (zr2 rfl rfl (q _ _ (by omega) (by omega) (g9.trans g10))))
   ·exact (ixl h9 (by decide:atI [V.int 1,V.int 0] (Builtin.bitXor 1 0)=some (V.int 0)) (zr2 rfl rfl (q _ _ (by omega) (by omega) (g9.trans g10))))
   ·exact (ixl h9 (by decide:atI [V.int 1,V.int 0] (Builtin.bitXor 0 1)=some (V.int 0)) (zr2 rfl rfl (q _ _ (by omega) (by omega) (g9.trans g10))))
   ·exact (ixl h9 (by decide:atI [V.int 1,V.int 0] (Builtin.bitXor 1 1)=some (V.int 1)) (zr2 rfl rfl (q _ _ (by omega) (by omega) (g9.trans g10))))
  ·have gx:=gg3
   have hx:=hb3
   obtain ⟨k,rfl⟩:=zO d0
   have hk:k < ps.length:=by omega
   refine (zr rfl (ixt hx.book rfl (zr rfl (ixt hx.meets (xi (v:=V.ref ps[k].1) (by simp [hk])) (ixt (hx.rows _ (zh hk)) rfl ⟨by show 2<=sizeLine;omega,fun l9 hl9=>?_⟩)))))
   have g9:=gx.new (o:=HO.lst [V.int 1,V.int 0]) hl9
   refine (zr rfl ⟨p,zr rfl ⟨by decide,by decide,g9.2,fun e H9 e0 e1 g10=>(zr2 rfl rfl ⟨⟨by decide,by decide⟩,zr rfl (zr2 rfl rfl ?_)⟩)⟩⟩)
   have h9:=g10.1 l9 _ (gx.2.ne hl9) xH
   have tb:=gd.at (zh hk)
   have bx:(e / 3=0\/e / 3=1):=by omega
   rcases hj with rfl | rfl <;> rcases bx with bx | bx <;> rw [bx]
   ·exact (ixl h9 (by decide:atI [V.int 1,V.int 0] (Builtin.bitXor 0 0)=some (V.int 1)) (zr2 rfl rfl (q _ _ (by omega) (by omega) (g9.trans g10))))
   ·exact (ixl h9 (by decide:atI [V.int 1,V.int 0] (Builtin.bitXor 1 0)=some (V.int 0)) (zr2 rfl rfl (q _ _ (by omega) (by omega) (g9.trans g10))))
   ·exact (ixl h9 (by decide:atI [V.int 1,V.int 0] (Builtin.bitXor 0 1)=some (V.int 0)) (zr2 rfl rfl (q _ _ (by omega) (by omega) (g9.trans g10))))
   ·exact (ixl h9 (by decide:atI [V.int 1,V.int 0] (Builtin.bitXor 1 1)=some (V.int 1)) (zr2 rfl rfl (q _ _ (by omega) (by omega) (g9.trans g10))))
theorem sc__law_letter:FnScope ["_law_purse_here", "_law_book_here", "_law_walkers", "_law_sender", "_law_wish", "_law_since"] ["_law_purse_here", "_law_book_here"] (defScope s__law_letter):=⟨rfl,rfl,rfl,by decide +kernel,rfl,by decide +kernel,by decide +kernel⟩
theorem ok__law_letter (T:Tx K mg a t_MOST_TOKENS):FnOk P w K mg base CX0 4 a.a__law_letter a.d__law_letter ["_law_purse_here", "_law_book_here"] (spLetter):=by
 have G__law_take:=@xr P w _ _ base _ _ T
 have G__law_time:=@ok__law_time P w _ _ base _ _ T
 refine T.F__law_letter.ok sc__law_letter (fun vs H Q E h=>?_) (fun cdv A outer s H vs Q E hr h=>?_)
 ·obtain ⟨p,b,_,_,_,_,rfl,_⟩:=h;rfl
 ·have nd:=sc__law_letter.nd
  have hu:=hr.units
  obtain ⟨p,b,rooms,tr,tm,ps,rfl,hb,r1,r2,gd,hp,q⟩:=h
  refine ⟨_,(xK (xW (xX (i:=2) nd rfl (by first | exact Or.inl rfl | exact Or.inr rfl) (xU (xR rfl) (by rfl) T.b_len PySem.boot_len (xF (xI (xS (xT rfl) (pv 1) xG (fun _ _=>rfl)) xM rfl)))) (xW (xX (i:=3) nd rfl (by first | exact Or.inl rfl | exact Or.inr rfl) (xP G__law_take (hr.mono (by decide)) rfl T.m__law_take T.k__law_take T.i__law_take .nil pass0 (xF (xI (pv 0) (xI (pv 2) xM rfl) rfl)))) (xW (xX (i:=4) nd rfl (by first | exact Or.inl rfl | exact Or.inr rfl) (xP G__law_take (hr.mono (by decide)) rfl T.m__law_take T.k__law_take T.i__law_take .nil pass0 (xF (xI (pv 0) (xI (pv 2) xM rfl) rfl)))) (xW (xh (PW.pt (pw_and (xV wE (pv 3) (pv 4) (nomark _)) (pw_and1 (xV op_gt (xP G__law_take (hr.mono (by decide)) rfl T.m__law_take T.k__law_take T.i__law_take .nil pass0 (xF (xI (pv 0) (xI xG xM rfl) rfl))) xG (nomark _))))) (xK (xf (xX (i:=4) nd rfl (by first | exact Or.inl rfl | exact Or.inr rfl) (xg op_mod (xg xt (pv 4) xG) (pv 2))))) xZ) (xW (xX (i:=5) nd rfl (by first | exact Or.inl rfl | exact Or.inr rfl) (xP G__law_time (hr.mono (by decide)) rfl T.m__law_time T.k__law_time T.i__law_time .nil pass0 (xF (xI (pv 0) (xI (pv 1) (xI xG xM rfl) rfl) rfl)))) (xf (xb (xp (xF (xI (pv 3) (xI (pv 5) (xI (pv 4) (xI (xP G__law_time (hr.mono (by decide)) rfl T.m__law_time T.k__law_time T.i__law_time .nil pass0 (xF (xI (pv 0) (xI (pv 1) (xI xG xM rfl) rfl) rfl))) xM rfl) rfl) rfl) rfl))))))))))),?_⟩
  have line:=line9
  have e200:(2:Int) ^ 200 > 10000:=by decide
  have rl:(rooms.map V.int).length=rooms.length:=zA _
  have fin:∀ s w:Int,0<=s->s < rooms.length->0<=w->w < rooms.length->∀ H3,Go p H H3->spTimeOf [.ref p,.ref b,.int 0] H3 (fun x H4=>spTimeOf [.ref p,.ref b,.int 1] H4 (fun y H5=>4<=sizeLine/\∀ t,H5 t=none->Q (.ref t) (upd H5 t (.tup [.int s,x,.int w,y]))) E0) E0:=by
   intro s w s0 s1 w0 w1 H3 g3
   have hb3:=hb.tups (g3.tups hp)
   refine (ex7 p b 0 rooms tr tm ps ⟨rfl,.inl rfl,hb3,gd,g3.2,fun x H4 x0 x1 g4=>?_⟩)
   exact (ex7 p b 1 rooms tr tm ps ⟨rfl,.inr rfl,hb3.tups (g4.tups g3.2),gd,g4.2,fun y H5 y0 y1 g5=>⟨by omega,fun t ht=>q t s x w y _ ((g3.trans (g4.trans g5)).new ht) xH s0 s1 w0 w1 x0 x1 y0 y1⟩⟩)
  refine (zr rfl (ixt hb.book rfl ⟨tr,zr rfl ⟨.inr (SqT.of hb.rooms),?_⟩⟩))
  refine (zr rfl (zr rfl ⟨p,zr rfl ⟨by omega,by omega,hp,fun s H1 s0 s1 g1=>(zr rfl (zr rfl ⟨p,zr rfl ⟨by omega,by omega,g1.2,fun w H2 w0 w1 g2=>?_⟩⟩))⟩⟩))
  refine (zr rfl (zr rfl ⟨rfl,zr rfl (iteD (fun c=>?_) (fun c=>iteB0 rfl ?_))⟩))
  ·refine (zr rfl ⟨p,zr rfl ⟨by decide,by decide,g2.2,fun e H3 e0 e1 g3=>(zr2 rfl rfl (zr rfl (iteD (fun c2=>?_) (fun c2=>?_))))⟩⟩)
   ·refine (zr rfl (zr2 rfl rfl (zr rfl (zr2 rfl rfl ⟨by omega,?_⟩))))
    have:=fin s ((w + 1) % (((rooms.map V.int).length:Nat):Int)) s0 (by omega) (yr _ (by omega)) (by have:=yc (w + 1) (show (0:Int) < ((rooms.map V.int).length:Nat) by omega);omega) H3 (g1.trans (g2.trans g3))
    simp only [gTup,gCons,gNil,tYes,tBM,rAppend,gSub,tAugS,ipI,rU,rIxL,rIxT,rSetL,tSeq,tAsg,tIfS,tRet,tOp,tUn,rI0,rI,tVar,tC,gName,tCall,tCB,tCons,tNil,tAndV,tOrV,tNotV,tNext,tTest,tB,tNot,tAnd,tOr,tDrop,rEq,rNe,scal,tChain,tTup,tLst,tSl,tNoPart,tPart,cxOf,L2.start,zj,xD,zg,yd,Nat.reduceAdd,Nat.reduceSub,List.replicate,List.cons_append,List.nil_append,za,List.getElem?_cons_zero,List.getElem?_cons_succ,Option.some.injEq,exists_eq_left',exists_eq_left,exists_and_left,and_assoc,V.int.injEq,V.ty.injEq,V.str.injEq,V.bl.injEq,V.ref.injEq,List.cons.injEq,and_true,true_and,List.set_cons_zero,List.set_cons_succ]
    exact this
   ·have:=fin s w s0 (by omega) w0 (by omega) H3 (g1.trans (g2.trans g3))
    simp only [gTup,gCons,gNil,tYes,tBM,rAppend,gSub,tAugS,ipI,rU,rIxL,rIxT,rSetL,tSeq,tAsg,tIfS,tRet,tOp,tUn,rI0,rI,tVar,tC,gName,tCall,tCB,tCons,tNil,tAndV,tOrV,tNotV,tNext,tTest,tB,tNot,tAnd,tOr,tDrop,rEq,rNe,scal,tChain,tTup,tLst,tSl,tNoPart,tPart,cxOf,L2.start,zj,xD,zg,yd,Nat.reduceAdd,Nat.reduceSub,List.replicate,List.cons_append,List.nil_append,za,List.getElem?_cons_zero,List.getElem?_cons_succ,Option.some.injEq,exists_eq_left',exists_eq_left,exists_and_left,and_assoc,V.int.injEq,V.ty.injEq,V.str.injEq,V.bl.injEq,V.ref.injEq,List.cons.injEq,and_true,true_and,List.set_cons_zero,List.set_cons_succ]
    exact this
  ·have:=fin s w s0 (by omega) w0 (by omega) H2 (g1.trans g2)
   simp only [gTup,gCons,gNil,tYes,tBM,rAppend,gSub,tAugS,ipI,rU,rIxL,rIxT,rSetL,tSeq,tAsg,tIfS,tRet,tOp,tUn,rI0,rI,tVar,tC,gName,tCall,tCB,tCons,tNil,tAndV,tOrV,tNotV,tNext,tTest,tB,tNot,tAnd,tOr,tDrop,rEq,rNe,scal,tChain,tTup,tLst,tSl,tNoPart,tPart,cxOf,L2.start,zj,xD,zg,yd,Nat.reduceAdd,Nat.reduceSub,List.replicate,List.cons_append,List.nil_append,za,List.getElem?_cons_zero,List.getElem?_cons_succ,Option.some.injEq,exists_eq_left',exists_eq_left,exists_and_left,and_assoc,V.int.injEq,V.ty.injEq,V.str.injEq,V.bl.injEq,V.ref.injEq,List.cons.injEq,and_true,true_and,List.set_cons_zero,List.set_cons_succ]
   exact this
theorem sc_is_whole:FnScope ["thing"] ["thing"] (defScope s_is_whole):=⟨rfl,rfl,rfl,by decide +kernel,rfl,by decide +kernel,by decide +kernel⟩
theorem ok_is_whole (T:Tx K mg a t_MOST_TOKENS):FnOk P w K mg base CX0 1 a.a_is_whole a.d_is_whole ["thing"] (spWhole):=by
 refine T.F_is_whole.ok sc_is_whole (fun vs H Q E h=>?_) (fun cdv A outer s H vs Q E hr h=>?_)
 ·obtain ⟨x,t,rfl,_⟩:=h;rfl
 ·have nd:=sc_is_whole.nd
  have hu:=hr.units
  obtain ⟨x,t,rfl,ht,k⟩:=h
  refine ⟨_,(xK (xf (xb (pe_and (xU (wU) (by rfl) T.b_isinstance zm (xF (xI (pv 0) (xI (pe_bltn (v:=V.ty "int") rfl T.b_int PyProof.Rows.boot_int rfl) xM rfl) rfl))) (pe_one (pe_not (xU (wU) (by rfl) T.b_isinstance zm (xF (xI (pv 0) (xI (pe_bltn (v:=V.ty "bool") rfl T.b_bool PyProof.Rows.boot_bool rfl) xM rfl) rfl))))))))),?_⟩
  refine (zr rfl ⟨x,t, "int", rfl,ht,.inl rfl,zr rfl ?_⟩)
  rcases tyS_six ht with rfl | rfl | rfl | rfl | rfl | rfl | rfl <;> first | exact iteB0 rfl k | exact iteB1 rfl ⟨_,rfl,x,_, "bool", rfl,ht,.inr (.inl rfl),_,rfl,k⟩
theorem sc_is_within:FnScope ["thing", "least", "most"] ["thing", "least", "most"] (defScope s_is_within):=⟨rfl,rfl,rfl,by decide +kernel,rfl,by decide +kernel,by decide +kernel⟩
theorem ok_is_within (T:Tx K mg a t_MOST_TOKENS):FnOk P w K mg base CX0 2 a.a_is_within a.d_is_within ["thing", "least", "most"] (spWithin):=by
 have G_is_whole:=@ok_is_whole P w _ _ base _ _ T
 refine T.F_is_within.ok sc_is_within (fun vs H Q E h=>?_) (fun cdv A outer s H vs Q E hr h=>?_)
 ·obtain ⟨x,t,lo,hi,rfl,_⟩:=h;rfl
 ·have nd:=sc_is_within.nd
  have hu:=hr.units
  obtain ⟨x,t,lo,hi,rfl,ht,k⟩:=h
  refine ⟨_,(xK (xf (xb (pe_and (xP G_is_whole (hr.mono (by decide)) rfl T.m_is_whole T.k_is_whole T.i_is_whole .nil pass0 (xF (xI (pv 0) xM rfl))) (pe_one (pe_chain op_le op_le (pv 1) (pv 0) (pv 2))))))),?_⟩
  refine (zr rfl ⟨x,t,rfl,ht,zr rfl ?_⟩)
  by_cases h:t = "int"
  ·subst h
   obtain ⟨i,rfl⟩:=tyS_int ht
   refine iteB1 rfl (zr rfl (zr rfl (zr2 rfl rfl (zr rfl ?_))))
   have k:Q (.bl (decide (lo<=i) && decide (i<=hi))) H:=k
   by_cases h1:lo<=i
   ·rw [decide_eq_true h1] at k ⊢
    exact iteB1 rfl (zr rfl (zr2 rfl rfl k))
   ·rw [decide_eq_false h1] at k ⊢
    exact iteB0 rfl k
  ·rw [inB_no ht h] at k
   exact iteB0 (by simpa using h) k
theorem sc_is_below:FnScope ["number", "bound"] ["number", "bound"] (defScope s_is_below):=⟨rfl,rfl,rfl,by decide +kernel,rfl,by decide +kernel,by decide +kernel⟩
theorem ok_is_below (T:Tx K mg a t_MOST_TOKENS):FnOk P w K mg base CX0 1 a.a_is_below a.d_is_below ["number", "bound"] (spBelow):=by
 refine T.F_is_below.ok sc_is_below (fun vs H Q E h=>?_) (fun cdv A outer s H vs Q E hr h=>?_)
 ·obtain ⟨o,t,rfl,_⟩:=h;rfl
 ·have nd:=sc_is_below.nd
  have hu:=hr.units
  obtain ⟨o,t,rfl,q⟩:=h
  refine ⟨_,(xK (xf (xb (pe_and (pe_cmp (pc_notN (pv 0))) (pe_one (pe_cmpR op_lt (pv 0) (pv 1) (nomark _))))))),?_⟩
  cases o with
  | none=>exact (zr rfl (zr rfl (iteB0 rfl q)))
  | some y=>exact (zr rfl (zr rfl (iteB1 rfl (zr rfl (zr rfl (zr2 rfl rfl q))))))
theorem sc_is_meeting_number:FnScope ["book", "thing"] ["book", "thing"] (defScope wL):=⟨rfl,rfl,rfl,by decide +kernel,rfl,by decide +kernel,by decide +kernel⟩
theorem ok_is_meeting_number (T:Tx K mg a t_MOST_TOKENS):FnOk P w K mg base CX0 3 a.a_is_meeting_number a.d_is_meeting_number ["book", "thing"] (spIsMeetNo):=by
 have G_is_within:=@ok_is_within P w _ _ base _ _ T
 refine T.F_is_meeting_number.ok sc_is_meeting_number (fun vs H Q E h=>?_) (fun cdv A outer s H vs Q E hr h=>?_)
 ·obtain ⟨b,x,t,_,_,_,_,rfl,_⟩:=h;rfl
 ·have nd:=sc_is_meeting_number.nd
  have hu:=hr.units
  obtain ⟨b,x,t,rooms,tr,tm,ps,rfl,hb,ht,q⟩:=h
  refine ⟨_,(xK (xf (xb (xP G_is_within (hr.mono (by decide)) rfl T.m_is_within T.k_is_within T.i_is_within .nil pass0 (xF (xI (pv 1) (xI xG (xI (xg op_sub (xU (xR rfl) (by rfl) T.b_len PySem.boot_len (xF (xI (xS (xT rfl) (pv 0) xG (fun _ _=>rfl)) xM rfl))) xG) xM rfl) rfl) rfl)))))),?_⟩
  refine (zr rfl (zr rfl (ixt hb.book rfl ⟨tm,zr rfl ⟨.inr (SqT.of hb.meets),zr2 rfl rfl ⟨x,t,zr1 rfl ⟨ht,?_⟩⟩⟩⟩)))
  rw [zA]
  exact q
theorem sc_is_walker:FnScope ["book", "thing"] ["book", "thing"] (defScope s_is_walker):=⟨rfl,rfl,rfl,by decide +kernel,rfl,by decide +kernel,by decide +kernel⟩
theorem ok_is_walker (T:Tx K mg a t_MOST_TOKENS):FnOk P w K mg base CX0 3 a.a_is_walker a.d_is_walker ["book", "thing"] (spIsWalker):=by
 have G_is_within:=@ok_is_within P w _ _ base _ _ T
 refine T.F_is_walker.ok sc_is_walker (fun vs H Q E h=>?_) (fun cdv A outer s H vs Q E hr h=>?_)
 ·obtain ⟨b,x,t,_,_,_,_,rfl,_⟩:=h;rfl
 ·have nd:=sc_is_walker.nd
  have hu:=hr.units
  obtain ⟨b,x,t,rooms,tr,tm,ps,rfl,hb,ht,q⟩:=h
  refine ⟨_,(xK (xf (xb (xP G_is_within (hr.mono (by decide)) rfl T.m_is_within T.k_is_within T.i_is_within .nil pass0 (xF (xI (pv 1) (xI xG (xI (xg op_sub (xU (xR rfl) (by rfl) T.b_len PySem.boot_len (xF (xI (xS (xT rfl) (pv 0) xG (fun _ _=>rfl)) xM rfl))) xG) xM rfl) rfl) rfl)))))),?_⟩
  refine (zr rfl (zr rfl (ixt hb.book rfl ⟨tr,zr rfl ⟨.inr (SqT.of hb.rooms),zr2 rfl rfl ⟨x,t,zr1 rfl ⟨ht,?_⟩⟩⟩⟩)))
  rw [zA]
  exact q
theorem sc_other_at:FnScope ["book", "number", "walker", "one", "other", "when", "many"] ["book", "number", "walker"] (defScope s_other_at):=⟨rfl,rfl,rfl,by decide +kernel,rfl,by decide +kernel,by decide +kernel⟩
theorem ok_other_at (T:Tx K mg a t_MOST_TOKENS):FnOk P w K mg base CX0 1 a.a_other_at a.d_other_at ["book", "number", "walker"] (spOtherAt):=by
 refine T.F_other_at.ok sc_other_at (fun vs H Q E h=>?_) (fun cdv A outer s H vs Q E hr h=>?_)
 ·obtain ⟨b,k,v,_,_,_,_,_,rfl,_⟩:=h;rfl
 ·have nd:=sc_other_at.nd
  have hu:=hr.units
  obtain ⟨b,k,v,rooms,tr,tm,ps,m,rfl,hb,hm,q⟩:=h
  refine ⟨_,(xK (xW (wW (xS (xT rfl) (xS (xT rfl) (pv 0) xG (fun _ _=>rfl)) (pv 1) (fun _ _=>rfl)) (xw (n:=4) rfl rfl (xQ (xO (i:=3) nd rfl (by first | exact Or.inl rfl | exact Or.inr rfl)) (xQ (xO (i:=4) nd rfl (by first | exact Or.inl rfl | exact Or.inr rfl)) (xQ (xO (i:=5) nd rfl (by first | exact Or.inl rfl | exact Or.inr rfl)) (xQ (xO (i:=6) nd rfl (by first | exact Or.inl rfl | exact Or.inr rfl)) xv)))))) (xf (xb (pe_ifExp (xV wE (pv 2) (pv 3) (nomark _)) (pv 4) (pv 3)))))),?_⟩
  have hk:k < ps.length:=by
   have:=(zB.mp hm).1
   simpa using this
  have em:ps[k].2=m:=by
   rw [zC,zE hk] at hm
   exact Option.some.inj hm
  have hrow:=hb.rows _ (zh hk)
  rw [em] at hrow
  refine (zr rfl (ixt hb.book rfl (zr rfl (ixt hb.meets (xi (v:=V.ref ps[k].1) (by simp [hk])) (un4 hrow ?_)))))
  refine (zr rfl (zr rfl ⟨rfl,zr rfl (iteD (fun c=>?_) (fun c=>?_))⟩))
  ·rw [if_pos (V.int.inj c)] at q
   exact (zr rfl q)
  ·rw [if_neg fun z=>c (by rw [z])] at q
   exact (zr rfl q)
theorem sc_lone_row:FnScope ["book", "walker", "number"] ["book", "walker", "number"] (defScope s_lone_row):=⟨rfl,rfl,rfl,by decide +kernel,rfl,by decide +kernel,by decide +kernel⟩
theorem ok_lone_row (T:Tx K mg a t_MOST_TOKENS):FnOk P w K mg base CX0 1 a.a_lone_row a.d_lone_row ["book", "walker", "number"] (spLone):=by
 refine T.F_lone_row.ok sc_lone_row (fun vs H Q E h=>?_) (fun cdv A outer s H vs Q E hr h=>?_)
 ·obtain ⟨b,k,x,_,_,_,_,rfl,_⟩:=h;rfl
 ·have nd:=sc_lone_row.nd
  have hu:=hr.units
  obtain ⟨b,k,x,rooms,tr,tm,ps,rfl,hb,hn,q⟩:=h
  refine ⟨_,(xK (xf (xb (pe_comp (own:=["other"]) (caps:=[2,1]) rfl (show CompScope ["other"] [2,1] ["book", "walker", "number"] (defScope s_lone_row) _ from ⟨rfl,by decide +kernel,by decide +kernel,by decide +kernel,by decide +kernel⟩) (wH rfl T.b_range (xF (xI (xU (xR rfl) (by rfl) T.b_len PySem.boot_len (xF (xI (xS (xT rfl) (pv 0) xG (fun _ _=>rfl)) xM rfl))) xM rfl))) (fun _ _ _ _=>(xO (i:=0) (show List.Nodup (["other", "number", "walker"]:List Str) from by decide +kernel) rfl (by first | exact Or.inl rfl | exact Or.inr rfl))) (fun _ _ _ _=>wX) (fun _ _ _ _=>(pe_ifExp (xV wE (pv 0) (pv 2) (nomark _)) (pv 1) pe_non)))))),?_⟩
  refine (zr rfl (ixt hb.book rfl ⟨tr,zr rfl ⟨.inr (SqT.of hb.rooms),zr rfl ⟨by rw [zA];omega,by rw [zA];omega,?_⟩⟩⟩))
  refine comp_range (lo:=0) (m:=(rooms.map V.int).length) (fun i τ acc H5=>(∃ t0,τ=[t0,some (.int x),some (.int k)])/\acc=(rep i (lone k x)).map oV/\H5=H) ?_ (by rw [zA];omega) ?_ ?_ ?_
  ·exact ⟨⟨_,rfl⟩,rfl,rfl⟩
  ·rintro i τ acc H5 ⟨⟨t0,rfl⟩,rfl,rfl⟩
   rw [zA,rep_len];exact zJ _
  ·rintro i τ acc H5 C hi ⟨⟨t0,rfl⟩,rfl,rfl⟩ hC
   have snoc:∀ v,oV (lone k x i)=v->(rep i (lone k x)).map oV ++ [v]=(rep (i + 1) (lone k x)).map oV:=fun v e=>by
    unfold rep
    rw [yt,zN,zN,<- e];rfl
   refine (zr rfl (zr rfl ⟨rfl,zr rfl (iteD (fun c=>(zr rfl (hC _ _ _ ⟨⟨_,rfl⟩,snoc _ ?_,rfl⟩))) (fun c=>hC _ _ _ ⟨⟨_,rfl⟩,snoc _ ?_,rfl⟩))⟩))
   ·have:i=k:=by have:=V.int.inj c;omega
    unfold lone
    rw [if_pos this];rfl
   ·have:i ≠ k:=fun z=>c (by rw [z];simp)
    unfold lone
    rw [if_neg this];rfl
  ·rintro τ acc H5 ⟨⟨t0,rfl⟩,rfl,rfl⟩ l hl
   rw [zA]
   exact q l _ hl (xL hl) xH
theorem sc_AllMet___init__:FnScope ["self"] ["self"] (defScope wZ):=⟨rfl,rfl,rfl,by decide +kernel,rfl,by decide +kernel,by decide +kernel⟩
theorem ok_AllMet___init__ (T:Tx K mg a t_MOST_TOKENS):FnOk P w K mg base CX0 1 a.a_AllMet___init__ a.d_AllMet___init__ ["self"] (spInitA):=by
 refine T.F_AllMet___init__.ok sc_AllMet___init__ (fun vs H Q E h=>?_) (fun cdv A outer s H vs Q E hr h=>?_)
 ·obtain ⟨_,rfl,_⟩:=h;rfl
 ·have nd:=sc_AllMet___init__.nd
  have hu:=hr.units
  obtain ⟨x,rfl,q⟩:=h
  refine ⟨_,(xK (xf ps_pass)),?_⟩
  exact q
theorem sc_AllMet_at_first:FnScope ["self"] ["self"] (defScope wa):=⟨rfl,rfl,rfl,by decide +kernel,rfl,by decide +kernel,by decide +kernel⟩
theorem ok_AllMet_at_first (T:Tx K mg a t_MOST_TOKENS):FnOk P w K mg base CX0 1 a.a_AllMet_at_first a.d_AllMet_at_first ["self"] (spFirst0):=by
 refine T.F_AllMet_at_first.ok sc_AllMet_at_first (fun vs H Q E h=>?_) (fun cdv A outer s H vs Q E hr h=>?_)
 ·obtain ⟨_,rfl,_⟩:=h;rfl
 ·have nd:=sc_AllMet_at_first.nd
  have hu:=hr.units
  obtain ⟨x,rfl,q⟩:=h
  refine ⟨_,(xK (xf (xb xG))),?_⟩
  exact q
theorem sc_AllMet_share:FnScope ["self", "letter", "giver", "other", "tokens"] ["self", "letter", "giver", "other", "tokens"] (defScope s_AllMet_share):=⟨rfl,rfl,rfl,by decide +kernel,rfl,by decide +kernel,by decide +kernel⟩
theorem ok_AllMet_share (T:Tx K mg a t_MOST_TOKENS):FnOk P w K mg base CX0 1 a.a_AllMet_share a.d_AllMet_share ["self", "letter", "giver", "other", "tokens"] (spShare0):=by
 refine T.F_AllMet_share.ok sc_AllMet_share (fun vs H Q E h=>?_) (fun cdv A outer s H vs Q E hr h=>?_)
 ·obtain ⟨_,_,_,_,_,rfl,_⟩:=h;rfl
 ·have nd:=sc_AllMet_share.nd
  have hu:=hr.units
  obtain ⟨x,l,g,o,t,rfl,q⟩:=h
  refine ⟨_,(xK (xf (xb xG))),?_⟩
  exact q
theorem sc_Halves___init__:FnScope ["self", "tokens"] ["self", "tokens"] (defScope wc):=⟨rfl,rfl,rfl,by decide +kernel,rfl,by decide +kernel,by decide +kernel⟩
theorem ok_Halves___init__ (T:Tx K mg a t_MOST_TOKENS):FnOk P w K mg base (CXE P w) 3 a.a_Halves___init__ a.d_Halves___init__ ["self", "tokens"] (spInitH a.c_Halves a.c_NoRule):=by
 have G_is_within:=@ok_is_within P w _ _ base _ _ T
 refine T.F_Halves___init__.okE sc_Halves___init__ (fun vs H Q E h=>?_) (fun cdv A outer s H vs Q E hr h=>?_)
 ·obtain ⟨_,_,_,_,rfl,_⟩:=h;rfl
 ·have nd:=sc_Halves___init__.nd
  have hu:=hr.units
  obtain ⟨x,dx,v,t,rfl,hx,ht,q⟩:=h
  refine ⟨_,(xK (xW (xh (pt_not (wR (xP G_is_within (hr.mono (by decide)) rfl T.m_is_within T.k_is_within T.i_is_within .nil pass0 (xF (xI (pv 1) (xI xG (xI (pe_glob (v:=V.int 64) rfl T.c_MOST_TOKENS ⟨_,rfl⟩) xM rfl) rfl) rfl))))) (xK (xf (wF rfl rfl rfl rfl rfl T.m_NoRule T.x_NoRule))) xZ) (xf (PS.nox (ps_fld (pv 0) (pv 1) rfl))))),?_⟩
  refine (zr rfl ⟨v,t,zr1 rfl ⟨ht,zr rfl ?_⟩⟩)
  rcases q with ⟨no,q⟩ | ⟨n,rfl,n1,n64,q⟩
  ·exact iteB1 (by rw [no];rfl) q
  ·refine iteB0 (by simp [inB,n1,n64]) (zr rfl (zr rfl ⟨x,_,dx,zr rfl ⟨hx,T.L_Halves,T.n_Halves_tokens,by decide,?_⟩⟩))
   exact q _ But.set ⟨dx,xH⟩
theorem sc_Halves_at_first:FnScope ["self"] ["self"] (defScope we):=⟨rfl,rfl,rfl,by decide +kernel,rfl,by decide +kernel,by decide +kernel⟩
theorem ok_Halves_at_first (T:Tx K mg a t_MOST_TOKENS):FnOk P w K mg base CX0 1 a.a_Halves_at_first a.d_Halves_at_first ["self"] (spFirstH a.c_Halves):=by
 refine T.F_Halves_at_first.ok sc_Halves_at_first (fun vs H Q E h=>?_) (fun cdv A outer s H vs Q E hr h=>?_)
 ·obtain ⟨_,_,rfl,_⟩:=h;rfl
 ·have nd:=sc_Halves_at_first.nd
  have hu:=hr.units
  obtain ⟨x,n,rfl,⟨dx,hx⟩,q⟩:=h
  refine ⟨_,(xK (xf (xb (xj (pv 0) rfl)))),?_⟩
  exact (zr rfl ⟨x,_,dx,zr1 rfl ⟨hx,T.L_Halves,T.n_Halves_tokens,rfl,q⟩⟩)
theorem sc_Halves_share:FnScope ["self", "letter", "giver", "other", "tokens"] ["self", "letter", "giver", "other", "tokens"] (defScope s_Halves_share):=⟨rfl,rfl,rfl,by decide +kernel,rfl,by decide +kernel,by decide +kernel⟩
theorem ok_Halves_share (T:Tx K mg a t_MOST_TOKENS):FnOk P w K mg base CX0 1 a.a_Halves_share a.d_Halves_share ["self", "letter", "giver", "other", "tokens"] (spShareH):=by
 refine T.F_Halves_share.ok sc_Halves_share (fun vs H Q E h=>?_) (fun cdv A outer s H vs Q E hr h=>?_)
 ·obtain ⟨_,_,_,_,_,_,_,_,_,rfl,_⟩:=h;rfl
 ·have nd:=sc_Halves_share.nd
  have hu:=hr.units
  obtain ⟨x,lt,g,o,tok,s0,a0,w0,z0,rfl,hl,t0,t64,q⟩:=h
  refine ⟨_,(xK (xW (xh (xV wE (pv 3) (xS (xT rfl) (pv 1) xG (fun _ _=>rfl)) (nomark _)) (xK (xf (xb xG))) xZ) (xf (xb (pe_ifExp (xV op_ge (pv 4) xG (nomark _)) (xg wY (pv 4) xG) pe_non))))),?_⟩
  refine (zr rfl (zr rfl (ixt hl rfl ⟨rfl,zr rfl ?_⟩)))
  unfold halfV at q
  by_cases c:o=w0
  ·rw [if_pos c] at q
   exact iteB1 (by rw [c];simp) q
  ·rw [if_neg c] at q
   refine iteB0 (by simp [c]) (zr rfl (zr2 rfl rfl (zr rfl (iteD (fun c2=>?_) (fun c2=>?_)))))
   ·rw [if_pos c2] at q
    exact (zr rfl (zr2 rfl rfl ⟨⟨by decide,by decide⟩,q⟩))
   ·rw [if_neg c2] at q
    exact q
theorem sc_times_met:FnScope ["book", "one", "other"] ["book", "one", "other"] (defScope s_times_met):=⟨rfl,rfl,rfl,by decide +kernel,rfl,by decide +kernel,by decide +kernel⟩
theorem ok_times_met (T:Tx K mg a t_MOST_TOKENS):FnOk P w K mg base CX0 1 a.a_times_met a.d_times_met ["book", "one", "other"] (spMet):=by
 refine T.F_times_met.ok sc_times_met (fun vs H Q E h=>?_) (fun cdv A outer s H vs Q E hr h=>?_)
 ·obtain ⟨_,_,_,_,_,_,_,rfl,_⟩:=h;rfl
 ·have nd:=sc_times_met.nd
  have hu:=hr.units
  obtain ⟨b,i0,j0,rooms,tr,tm,ps,rfl,hb,n1,q⟩:=h
  refine ⟨_,(xK (xf (xb (xU (xR rfl) (by rfl) T.b_len PySem.boot_len (xF (xI (pe_comp (own:=["meeting"]) (caps:=[1,2]) rfl (show CompScope ["meeting"] [1,2] ["book", "one", "other"] (defScope s_times_met) _ from ⟨rfl,by decide +kernel,by decide +kernel,by decide +kernel,by decide +kernel⟩) (pi_tup'' rfl (xS (xT rfl) (pv 0) xG (fun _ _=>rfl))) (fun _ _ _ _=>(xO (i:=0) (show List.Nodup (["meeting", "one", "other"]:List Str) from by decide +kernel) rfl (by first | exact Or.inl rfl | exact Or.inr rfl))) (fun _ _ _ _=>pts_one (xV (op_inT' rfl hu) (pe_slice (sl_tup' rfl) (pv 0) po_none (po_some xG)) (xp (xF (xI (xp (xF (xI (pv 1) (xI (pv 2) xM rfl) rfl))) (xI (xp (xF (xI (pv 2) (xI (pv 1) xM rfl) rfl))) xM rfl) rfl))) rfl)) (fun _ _ _ _=>(pv 0))) xM rfl)))))),?_⟩
  have line:=line9
  refine (zr rfl (ixt hb.book rfl ⟨tm,rfl,⟨_,SqT.of hb.meets⟩,?_⟩))
  refine comp_tup (K:=K) (a:=tm) (xs:=ps.map fun a=>V.ref a.1) (fun i τ acc H5=>(∃ t0,τ=[t0,some (.int i0),some (.int j0)])/\acc=(((ps.take i).filter fun a=>metB i0 j0 a.2).map fun a=>V.ref a.1)/\Same H H5) ⟨⟨_,rfl⟩,rfl,Same.refl _⟩ (by rw [zA];exact n1) ?_ ?_ ?_
  ·rintro i τ acc H5 ⟨_,rfl,s5⟩
   exact ⟨by rw [zA];exact zq (List.length_filter_le _ _) (by rw [yY];omega),SqT.of (s5 _ _ hb.meets)⟩
  ·rintro i x τ acc H5 C hx ⟨⟨t0,rfl⟩,rfl,s5⟩ hC
   obtain ⟨r,hr,rfl⟩:=xz hx
   have hrow:H5 r.1=some (.tup [.int r.2.lo,.int r.2.hi,.int r.2.t,.int r.2.m]):=s5 _ _ (hb.rows r (zD hr))
   refine (zr rfl ⟨2,rfl,r.1,zr rfl ⟨SqT.of hrow,(by show ¬ (HT.sIx 4 0 none=0/\HT.sIx 4 4 (some 2)=4);decide),fun t1 ht1=>?_⟩⟩)
   have s6:=xL (o:=HO.tup [V.int r.2.lo,V.int r.2.hi]) ht1
   refine (zr rfl (zr rfl ⟨by show 2<=_;omega,fun t2 ht2=>(zr rfl (zr rfl ⟨by show 2<=_;omega,fun t3 ht3=>⟨by show 2<=_;omega,fun t4 ht4=>?_⟩⟩))⟩))
   have s7:=xL (o:=HO.tup [V.int i0,V.int j0]) ht2
   have s8:=xL (o:=HO.tup [V.int j0,V.int i0]) ht3
   have s9:=xL (o:=HO.tup [V.ref t2,V.ref t3]) ht4
   have s59:=(((s5.trans s6).trans s7).trans s8).trans s9
   have k1:=s9 _ _ (s8 _ _ (s7 _ _ (xH (H:=H5) (a:=t1) (o:=HO.tup [V.int r.2.lo,V.int r.2.hi]))))
   have k2:=s9 _ _ (s8 _ _ (xH (a:=t2) (o:=HO.tup [V.int i0,V.int j0])))
   have k3:=s9 _ _ (xH (a:=t3) (o:=HO.tup [V.int j0,V.int i0]))
   refine ⟨1,t4,[(t2,decide ([i0,j0]=[r.2.lo,r.2.hi])),(t3,decide ([j0,i0]=[r.2.lo,r.2.hi]))],by decide,rfl,SqT.of xH,fun x hx=>?_,zr rfl ?_⟩
   ·rcases zR.mp hx with rfl | hx
    ·exact Eqv.rows (f:=V.int) (fun _=>rfl) eqV_int (.inr ⟨k2,k1⟩)
    ·cases zI.mp hx
     exact Eqv.rows (f:=V.int) (fun _=>rfl) eqV_int (.inr ⟨k3,k1⟩)
   ·have ea:([(t2,decide ([i0,j0]=[r.2.lo,r.2.hi])),(t3,decide ([j0,i0]=[r.2.lo,r.2.hi]))]:List (Addr × Bool)).any (·.2)=metB i0 j0 r.2:=by simp [metB]
    rw [ea]
    have sn:=filt_sn (p:=fun a=>metB i0 j0 a.2) hr
    cases c:metB i0 j0 r.2 with
    | true=>exact iteB1 rfl (zr rfl (hC _ _ _ ⟨⟨_,rfl⟩,by rw [sn,if_pos c,zN];rfl,s59⟩))
    | false=>exact iteB0 rfl (hC _ _ _ ⟨⟨_,rfl⟩,by rw [sn,if_neg (by rw [c];exact zG),za],s59⟩)
  ·rintro τ acc H5 ⟨⟨t0,rfl⟩,rfl,s5⟩ lc hlc
   rw [zA,yj]
   refine ⟨lc,zr rfl ⟨.inl (SqL.of xH),?_⟩⟩
   rw [zA,<- filt_len]
   exact q _ (s5.trans (xL hlc))
theorem sc_Nearer___init__:FnScope ["self", "past"] ["self", "past"] (defScope wf):=⟨rfl,rfl,rfl,by decide +kernel,rfl,by decide +kernel,by decide +kernel⟩
theorem ok_Nearer___init__ (T:Tx K mg a t_MOST_TOKENS):FnOk P w K mg base CX0 1 a.a_Nearer___init__ a.d_Nearer___init__ ["self", "past"] (spInitN a.c_Nearer):=by
 refine T.F_Nearer___init__.ok sc_Nearer___init__ (fun vs H Q E h=>?_) (fun cdv A outer s H vs Q E hr h=>?_)
 ·obtain ⟨_,_,_,rfl,_⟩:=h;rfl
 ·have nd:=sc_Nearer___init__.nd
  have hu:=hr.units
  obtain ⟨x,dx,b,rfl,hx,q⟩:=h
  refine ⟨_,(xK (xf (ps_fld (pv 0) (pv 1) rfl))),?_⟩
  refine (zr rfl (zr rfl ⟨x,_,dx,zr rfl ⟨hx,T.L_Nearer,T.n_Nearer_past,by decide,?_⟩⟩))
  exact q _ But.set ⟨dx,xH⟩
theorem sc_Nearer_at_first:FnScope ["self"] ["self"] (defScope wg):=⟨rfl,rfl,rfl,by decide +kernel,rfl,by decide +kernel,by decide +kernel⟩
theorem ok_Nearer_at_first (T:Tx K mg a t_MOST_TOKENS):FnOk P w K mg base CX0 1 a.a_Nearer_at_first a.d_Nearer_at_first ["self"] (spFirst0):=by
 refine T.F_Nearer_at_first.ok sc_Nearer_at_first (fun vs H Q E h=>?_) (fun cdv A outer s H vs Q E hr h=>?_)
 ·obtain ⟨_,rfl,_⟩:=h;rfl
 ·have nd:=sc_Nearer_at_first.nd
  have hu:=hr.units
  obtain ⟨x,rfl,q⟩:=h
  refine ⟨_,(xK (xf (xb xG))),?_⟩
  exact q
theorem sc_Nearer_share:FnScope ["self", "letter", "giver", "other", "tokens", "wish"] ["self", "letter", "giver", "other", "tokens"] (defScope s_Nearer_share):=⟨rfl,rfl,rfl,by decide +kernel,rfl,by decide +kernel,by decide +kernel⟩
theorem ok_Nearer_share (T:Tx K mg a t_MOST_TOKENS):FnOk P w K mg base CX0 2 a.a_Nearer_share a.d_Nearer_share ["self", "letter", "giver", "other", "tokens"] (spShare a.c_Nearer):=by
 have G_times_met:=@ok_times_met P w _ _ base _ _ T
 refine T.F_Nearer_share.ok sc_Nearer_share (fun vs H Q E h=>?_) (fun cdv A outer s H vs Q E hr h=>?_)
 ·obtain ⟨_,_,_,_,_,_,_,_,_,_,_,_,_,_,rfl,_⟩:=h;rfl
 ·have nd:=sc_Nearer_share.nd
  have hu:=hr.units
  obtain ⟨x,b,lt,g,o,tok,s0,a0,w0,z0,rooms,tr,tm,ps,rfl,⟨dx,hx⟩,hb,n1,hl,q⟩:=h
  refine ⟨_,(xK (xW (xX (i:=5) nd rfl (by first | exact Or.inl rfl | exact Or.inr rfl) (xS (xT rfl) (pv 1) xG (fun _ _=>rfl))) (xW (xh (PW.pt (pw_or (xV wE (pv 3) (pv 5) (nomark _)) (pw_or1 (xV op_gt (xP G_times_met (hr.mono (by decide)) rfl T.m_times_met T.k_times_met T.i_times_met .nil pass0 (xF (xI (xj (pv 0) rfl) (xI (pv 3) (xI (pv 5) xM rfl) rfl) rfl))) (xP G_times_met (hr.mono (by decide)) rfl T.m_times_met T.k_times_met T.i_times_met .nil pass0 (xF (xI (xj (pv 0) rfl) (xI (pv 2) (xI (pv 5) xM rfl) rfl) rfl))) (nomark _))))) (xK (xf (xb xG))) xZ) (xf (xb pe_non))))),?_⟩
  refine (zr rfl (ixt hl rfl ?_))
  by_cases c:o=w0
  ·refine (zr rfl (zr rfl ⟨rfl,zr rfl (iteB1 (by rw [c];simp) (iteB1 rfl ?_))⟩))
   have:=q H (Same.refl _)
   rwa [show shareV (ps.map (·.2)) g o w0=.int 0 from by unfold shareV;rw [if_pos (.inl c)]] at this
  ·refine (zr rfl (zr rfl ⟨rfl,zr rfl (iteB0 (by simp [c]) ?_)⟩))
   refine (zr rfl ⟨x,_,dx,zr1 rfl ⟨hx,T.L_Nearer,T.n_Nearer_past,rfl,zr rfl (zr rfl (ex7 b o w0 rooms tr tm ps ⟨rfl,hb,n1,fun H1 s1=>?_⟩))⟩⟩)
   refine (zr rfl ⟨x,_,dx,zr1 rfl ⟨s1 _ _ hx,T.L_Nearer,T.n_Nearer_past,rfl,zr rfl (zr rfl (ex7 b g w0 rooms tr tm ps ⟨rfl,hb.same s1,n1,fun H2 s2=>(zr2 rfl rfl (zr rfl ?_))⟩))⟩⟩)
   have:=q H2 (s1.trans s2)
   by_cases c2:metN (ps.map (·.2)) g w0 < metN (ps.map (·.2)) o w0
   ·rw [show shareV (ps.map (·.2)) g o w0=.int 0 from by unfold shareV;rw [if_pos (.inr c2)]] at this
    exact iteB1 (by simpa using c2) this
   ·rw [show shareV (ps.map (·.2)) g o w0=.non from by unfold shareV;rw [if_neg (by rintro (z | z);exact c z;exact c2 z)]] at this
    exact iteB0 (by simpa using c2) this
theorem sc_are_wholes:FnScope ["things"] ["things"] (defScope s_are_wholes):=⟨rfl,rfl,rfl,by decide +kernel,rfl,by decide +kernel,by decide +kernel⟩
theorem ok_are_wholes (T:Tx K mg a t_MOST_TOKENS):FnOk P w K mg base CX0 2 a.a_are_wholes a.d_are_wholes ["things"] (spAreW):=by
 have G_is_whole:=@ok_is_whole P w _ _ base _ _ T
 refine T.F_are_wholes.ok sc_are_wholes (fun vs H Q E h=>?_) (fun cdv A outer s H vs Q E hr h=>?_)
 ·obtain ⟨_,_,rfl,_⟩:=h;rfl
 ·have nd:=sc_are_wholes.nd
  have hu:=hr.units
  obtain ⟨p,ns,rfl,hp,n10,q⟩:=h
  refine ⟨_,(xK (xf (xb (xU (call_all rfl rfl) (by rfl) T.b_all PyProof.Rows.boot_all (xF (xI (pe_comp (own:=["thing"]) (caps:=[]) rfl (show CompScope ["thing"] [] ["things"] (defScope s_are_wholes) _ from ⟨rfl,by decide +kernel,by decide +kernel,by decide +kernel,by decide +kernel⟩) (pi_tup'' rfl (pv 0)) (fun _ _ _ _=>(xO (i:=0) (show List.Nodup (["thing"]:List Str) from by decide +kernel) rfl (by first | exact Or.inl rfl | exact Or.inr rfl))) (fun _ _ _ _=>wX) (fun _ _ _ _=>(xP G_is_whole (hr.mono (by decide)) rfl T.m_is_whole T.k_is_whole T.i_is_whole .nil pass0 (xF (xI (pv 0) xM rfl))))) xM rfl)))))),?_⟩
  have line:=line9
  refine (zr rfl ⟨p,rfl,⟨_,SqT.of hp⟩,?_⟩)
  refine comp_tup (K:=K) (a:=p) (xs:=ns.map V.int) (fun i τ acc H5=>(∃ t0,τ=[t0])/\acc=(List.replicate i true).map V.bl/\H5=H) ⟨⟨_,rfl⟩,rfl,rfl⟩ (by rw [zA];omega) ?_ ?_ ?_
  ·rintro i τ acc H5 ⟨_,rfl,rfl⟩
   exact ⟨by simp,SqT.of hp⟩
  ·rintro i x τ acc H5 C hx ⟨⟨t0,rfl⟩,rfl,rfl⟩ hC
   obtain ⟨j,_,rfl⟩:=xz hx
   exact (zr rfl ⟨.int j, "int", rfl,rfl,hC _ _ _ ⟨⟨_,rfl⟩,by rw [List.replicate_succ',zN];rfl,rfl⟩⟩)
  ·rintro τ acc H5 ⟨_,rfl,rfl⟩ l hl
   refine ⟨l,zr rfl ⟨SqL.of xH,?_⟩⟩
   have:(List.replicate (ns.map V.int).length true).all id=true:=by simp
   rw [this]
   exact q _ (xL hl)
theorem sc_is_passing:FnScope ["thing"] ["thing"] (defScope s_is_passing):=⟨rfl,rfl,rfl,by decide +kernel,rfl,by decide +kernel,by decide +kernel⟩
theorem ok_is_passing (T:Tx K mg a t_MOST_TOKENS):FnOk P w K mg base CX0 3 a.a_is_passing a.d_is_passing ["thing"] (spIsPass):=by
 have G_are_wholes:=@ok_are_wholes P w _ _ base _ _ T
 refine T.F_is_passing.ok sc_is_passing (fun vs H Q E h=>?_) (fun cdv A outer s H vs Q E hr h=>?_)
 ·obtain ⟨_,rfl,_⟩:=h;rfl
 ·have nd:=sc_is_passing.nd
  have hu:=hr.units
  obtain ⟨y,rfl,h⟩:=h
  refine ⟨_,(xK (xf (xb (pe_and (xU (wU) (by rfl) T.b_isinstance zm (xF (xI (pv 0) (xI (pe_bltn (v:=V.ty "tuple") rfl T.b_tuple zu rfl) xM rfl) rfl))) (pe_and (pe_cmpR wE (xU (xR rfl) (by rfl) T.b_len PySem.boot_len (xF (xI (pv 0) xM rfl))) xG (nomark _)) (pe_and (pe_cmpR (op_in_seq' rfl) (xS (xT rfl) (pv 0) xG (fun _ _=>rfl)) (xp (xF (xI pe_str (xI pe_str xM rfl) rfl))) rfl) (pe_one (xP G_are_wholes (hr.mono (by decide)) rfl T.m_are_wholes T.k_are_wholes T.i_are_wholes .nil pass0 (xF (xI (pe_slice (sl_tup' rfl) (pv 0) (po_some xG) po_none) xM rfl)))))))))),?_⟩
  have line:=line9
  rcases h with ⟨d,⟨p,rfl,hp⟩,q⟩ | ⟨p,xs,rfl,hp,q⟩
  ·cases d with
   | drop l w0=>exact (zr rfl ⟨_, "tuple", "tuple", rfl,tyS_tup hp,.inr (.inr (.inr rfl)),zr rfl (iteB1 rfl (zr rfl ⟨p,zr rfl ⟨.inr (SqT.of hp),rfl,zr rfl (iteB0 rfl (q H (Same.refl _)))⟩⟩))⟩)
   | pass gv m l g=>
    cases gv
    ·refine (zr rfl ⟨_, "tuple", "tuple", rfl,tyS_tup hp,.inr (.inr (.inr rfl)),zr rfl (iteB1 rfl (zr rfl ⟨p,zr rfl ⟨.inr (SqT.of hp),rfl,zr rfl (iteB1 rfl (zr rfl (ixt hp rfl ⟨by show 2<=_;omega,fun t2 ht2=>⟨t2,zr rfl ⟨.inr (SqT.of xH),rfl,rfl,zr rfl (iteB1 rfl ?_)⟩⟩⟩)))⟩⟩))⟩)
     have s1:=xL (o:=HO.tup [V.str (Str.ofString "give"),V.str (Str.ofString "copy")]) ht2
     have hp1:=s1 _ _ hp
     generalize upd H t2 (HO.tup [V.str (Str.ofString "give"),V.str (Str.ofString "copy")])=H1 at s1 hp1 ⊢
     refine (zr rfl (zr rfl ⟨p,zr rfl ⟨SqT.of hp1,fun z=>(by have:=z.1;revert this;show HT.sIx 4 0 (some 1)=0->False;decide),fun t3 ht3=>?_⟩⟩))
     have s2:=xL (o:=HO.tup (List.map V.int [m,l,g])) ht3
     refine ⟨t3,[m,l,g],rfl,xH,by show 3<=10;decide,fun H3 s3=>?_⟩
     exact q _ (s1.trans (s2.trans s3))
    ·refine (zr rfl ⟨_, "tuple", "tuple", rfl,tyS_tup hp,.inr (.inr (.inr rfl)),zr rfl (iteB1 rfl (zr rfl ⟨p,zr rfl ⟨.inr (SqT.of hp),rfl,zr rfl (iteB1 rfl (zr rfl (ixt hp rfl ⟨by show 2<=_;omega,fun t2 ht2=>⟨t2,zr rfl ⟨.inr (SqT.of xH),rfl,rfl,zr rfl (iteB1 rfl ?_)⟩⟩⟩)))⟩⟩))⟩)
     have s1:=xL (o:=HO.tup [V.str (Str.ofString "give"),V.str (Str.ofString "copy")]) ht2
     have hp1:=s1 _ _ hp
     generalize upd H t2 (HO.tup [V.str (Str.ofString "give"),V.str (Str.ofString "copy")])=H1 at s1 hp1 ⊢
     refine (zr rfl (zr rfl ⟨p,zr rfl ⟨SqT.of hp1,fun z=>(by have:=z.1;revert this;show HT.sIx 4 0 (some 1)=0->False;decide),fun t3 ht3=>?_⟩⟩))
     have s2:=xL (o:=HO.tup (List.map V.int [m,l,g])) ht3
     refine ⟨t3,[m,l,g],rfl,xH,by show 3<=10;decide,fun H3 s3=>?_⟩
     exact q _ (s1.trans (s2.trans s3))
  ·exact (zr rfl ⟨_, "list", "tuple", rfl,tyS_lst hp,.inr (.inr (.inr rfl)),zr rfl (iteB0 rfl q)⟩)
theorem sc_is_drop:FnScope ["thing"] ["thing"] (defScope s_is_drop):=⟨rfl,rfl,rfl,by decide +kernel,rfl,by decide +kernel,by decide +kernel⟩
theorem ok_is_drop (T:Tx K mg a t_MOST_TOKENS):FnOk P w K mg base CX0 3 a.a_is_drop a.d_is_drop ["thing"] (spIsDrop):=by
 have G_are_wholes:=@ok_are_wholes P w _ _ base _ _ T
 refine T.F_is_drop.ok sc_is_drop (fun vs H Q E h=>?_) (fun cdv A outer s H vs Q E hr h=>?_)
 ·obtain ⟨_,rfl,_⟩:=h;rfl
 ·have nd:=sc_is_drop.nd
  have hu:=hr.units
  obtain ⟨y,rfl,h⟩:=h
  refine ⟨_,(xK (xf (xb (pe_and (xU (wU) (by rfl) T.b_isinstance zm (xF (xI (pv 0) (xI (pe_bltn (v:=V.ty "tuple") rfl T.b_tuple zu rfl) xM rfl) rfl))) (pe_and (pe_cmpR wE (xU (xR rfl) (by rfl) T.b_len PySem.boot_len (xF (xI (pv 0) xM rfl))) xG (nomark _)) (pe_and (pe_cmpR wE (xS (xT rfl) (pv 0) xG (fun _ _=>rfl)) pe_str (nomark _)) (pe_one (xP G_are_wholes (hr.mono (by decide)) rfl T.m_are_wholes T.k_are_wholes T.i_are_wholes .nil pass0 (xF (xI (pe_slice (sl_tup' rfl) (pv 0) (po_some xG) po_none) xM rfl)))))))))),?_⟩
  have line:=line9
  rcases h with ⟨l,w0,⟨p,rfl,hp⟩,q⟩ | ⟨p,xs,rfl,hp,q⟩
  ·refine (zr rfl ⟨_, "tuple", "tuple", rfl,tyS_tup hp,.inr (.inr (.inr rfl)),zr rfl (iteB1 rfl (zr rfl ⟨p,zr rfl ⟨.inr (SqT.of hp),rfl,zr rfl (iteB1 rfl (zr rfl (ixt hp rfl ⟨rfl,zr rfl (iteB1 rfl ?_)⟩)))⟩⟩))⟩)
   refine (zr rfl (zr rfl ⟨p,zr rfl ⟨SqT.of hp,fun z=>(by have:=z.1;revert this;show HT.sIx 3 0 (some 1)=0->False;decide),fun t3 ht3=>?_⟩⟩))
   have s2:=xL (o:=HO.tup (List.map V.int [l,w0])) ht3
   exact ⟨t3,[l,w0],rfl,xH,by show 2<=10;decide,fun H3 s3=>q _ (s2.trans s3)⟩
  ·exact (zr rfl ⟨_, "list", "tuple", rfl,tyS_lst hp,.inr (.inr (.inr rfl)),zr rfl (iteB0 rfl q)⟩)
theorem sc_Trip_takes_room:FnScope ["self", "letter", "walker", "sender", "since", "wish", "last"] ["self", "letter", "walker"] (defScope wj):=⟨rfl,rfl,rfl,by decide +kernel,rfl,by decide +kernel,by decide +kernel⟩
theorem ok_Trip_takes_room (T:Tx K mg a t_MOST_TOKENS):FnOk P w K mg base CX0 1 a.a_Trip_takes_room a.d_Trip_takes_room ["self", "letter", "walker"] (spTakes a.c_Trip):=by
 refine T.F_Trip_takes_room.ok sc_Trip_takes_room (fun vs H Q E h=>?_) (fun cdv A outer s H vs Q E hr h=>?_)
 ·obtain ⟨_,_,_,_,_,_,_,_,_,_,_,_,_,_,_,_,_,rfl,_⟩:=h;rfl
 ·have nd:=sc_Trip_takes_room.nd
  have hu:=hr.units
  obtain ⟨x,b,dx,lL,lH,lA,lP,lD,ls,hs,os,ns,r,ds,n,w0,l,rfl,t,hn,q⟩:=h
  refine ⟨_,(xK (xW (wW (xS (xY rfl) (xj (pv 0) rfl) (pv 1) (fun _ _=>rfl)) (xw (n:=4) rfl rfl (xQ (xO (i:=3) nd rfl (by first | exact Or.inl rfl | exact Or.inr rfl)) (xQ (xO (i:=4) nd rfl (by first | exact Or.inl rfl | exact Or.inr rfl)) (xQ (xO (i:=5) nd rfl (by first | exact Or.inl rfl | exact Or.inr rfl)) (xQ (xO (i:=6) nd rfl (by first | exact Or.inl rfl | exact Or.inr rfl)) xv)))))) (xf (xb (pe_cmpR op_notIn_seq (pv 2) (xp (xF (xI (pv 3) (xI (pv 5) xM rfl) rfl))) rfl))))),?_⟩
  have line:=line9
  have hl:=t.rows l (zD hn)
  have at1:atI (ls.map fun l=>V.ref l.1) (n:Int)=some (V.ref l.1):=xi (by rw [zC,hn];rfl)
  refine (zr rfl ⟨x,_,dx,zr1 rfl ⟨t.ins,T.L_Trip,T.n_Trip_letters,rfl,zr rfl (ixl t.lts at1 (un4 hl ?_))⟩⟩)
  refine (zr rfl (zr rfl (zr rfl ⟨by show 2<=_;omega,fun t2 ht2=>⟨t2,zr rfl ⟨.inr (SqT.of xH),rfl,rfl,?_⟩⟩⟩)))
  have e:inV (V.int w0) [V.int (l.2.s:Int),V.int (l.2.w:Int)]=(decide (w0=l.2.s) || decide (w0=l.2.w)):=by
   simp [inV,eqV_int]
   congr 1 <;> exact decide_eq_decide.mpr ⟨Eq.symm,Eq.symm⟩
  show Q (.bl (!inV (V.int w0) [V.int (l.2.s:Int),V.int (l.2.w:Int)])) _
  rw [e]
  exact q _ (xL ht2)
theorem sc_Trip_note_arrival:FnScope ["self", "letter", "walker", "time", "sender", "since", "wish", "last"] ["self", "letter", "walker", "time"] (defScope wM):=⟨rfl,rfl,rfl,by decide +kernel,rfl,by decide +kernel,by decide +kernel⟩
theorem ok_Trip_note_arrival (T:Tx K mg a t_MOST_TOKENS):FnOk P w K mg base CX0 1 a.a_Trip_note_arrival a.d_Trip_note_arrival ["self", "letter", "walker", "time"] (spNote a.c_Trip):=by
 refine T.F_Trip_note_arrival.ok sc_Trip_note_arrival (fun vs H Q E h=>?_) (fun cdv A outer s H vs Q E hr h=>?_)
 ·obtain ⟨_,_,_,_,_,_,_,_,_,_,_,_,_,_,_,_,_,_,rfl,_⟩:=h;rfl
 ·have nd:=sc_Trip_note_arrival.nd
  have hu:=hr.units
  obtain ⟨x,b,dx,lL,lH,lA,lP,lD,ls,hs,os,ns,r,ds,n,w0,t0,l,rfl,t,hn,ho,q⟩:=h
  refine ⟨_,(xK (xW (wW (xS (xY rfl) (xj (pv 0) rfl) (pv 1) (fun _ _=>rfl)) (xw (n:=4) rfl rfl (xQ (xO (i:=4) nd rfl (by first | exact Or.inl rfl | exact Or.inr rfl)) (xQ (xO (i:=5) nd rfl (by first | exact Or.inl rfl | exact Or.inr rfl)) (xQ (xO (i:=6) nd rfl (by first | exact Or.inl rfl | exact Or.inr rfl)) (xQ (xO (i:=7) nd rfl (by first | exact Or.inl rfl | exact Or.inr rfl)) xv)))))) (xf (xh (PW.pt (pw_and (xV wE (pv 2) (pv 6) (nomark _)) (pw_and (xV op_le (pv 3) (pv 7) (nomark _)) (pw_and1 (pt_cmp (pc_isN (xS (xY rfl) (xj (pv 0) rfl) (pv 1) (fun _ _=>rfl)))))))) (xK (xf (wW (pv 3) (pg_sub (xj (pv 0) rfl) (pv 1) set_list)))) xZ)))),?_⟩
  have line:=line9
  have hl:=t.rows l (zD hn)
  have at1:atI (ls.map fun l=>V.ref l.1) (n:Int)=some (V.ref l.1):=xi (by rw [zC,hn];rfl)
  refine (zr rfl ⟨x,_,dx,zr1 rfl ⟨t.ins,T.L_Trip,T.n_Trip_letters,rfl,zr rfl (ixl t.lts at1 (un4 hl ?_))⟩⟩)
  obtain ⟨o,eo⟩:∃ o,os[n]?=some o:=⟨_,zE ho⟩
  have at2:atI (os.map oV) (n:Int)=some (oV o):=xi (by rw [zC,eo];rfl)
  have stay:¬ (w0=l.2.w/\t0<=l.2.z/\os[n]?=some none)->Q .non H:=fun c=>q H (fun _ _ _ e=>e) (by rw [noteA,if_neg c];exact t.arr)
  refine (zr rfl (zr rfl ⟨rfl,zr rfl ?_⟩))
  by_cases c1:w0=l.2.w
  ·refine iteB1 (by rw [c1];simp) (zr rfl (zr rfl (zr2 rfl rfl (zr rfl (iteD (fun c2=>?_) (fun c2=>stay fun c=>c2 c.2.1))))))
   refine (zr rfl ⟨x,_,dx,zr1 rfl ⟨t.ins,T.L_Trip,T.n_Trip_arrivals,rfl,zr rfl (ixl t.arr at2 (zr rfl ?_))⟩⟩)
   cases o with
   | some i=>exact iteB0 rfl (stay fun c=>by rw [eo] at c;cases c.2.2)
   | none=>
    refine iteB1 rfl (zr rfl (zr rfl ⟨x,_,dx,zr1 rfl ⟨t.ins,T.L_Trip,T.n_Trip_arrivals,rfl,zr rfl ⟨lA,_,_,n,rfl,rfl,t.arr,by rw [zA];unfold ixN;rw [if_pos (by omega),if_pos (by omega)];simp,?_⟩⟩⟩))
    refine q _ But.set ?_
    rw [xH,noteA,if_pos ⟨c1,c2,eo⟩,zw]
    rfl
  ·exact iteB0 (by simp [c1]) (stay fun c=>c1 c.1)
theorem sc_Trip___init__:FnScope ["self", "book", "letters", "number", "sender", "since", "wish", "last"] ["self", "book", "letters"] (defScope xq):=⟨rfl,rfl,rfl,by decide +kernel,rfl,by decide +kernel,by decide +kernel⟩
theorem ok_Trip___init__ (T:Tx K mg a t_MOST_TOKENS):FnOk P w K mg base CX0 2 a.a_Trip___init__ a.d_Trip___init__ ["self", "book", "letters"] (spInit2 a.c_Trip):=by
 have G_Trip_note_arrival:=@ok_Trip_note_arrival P w _ _ base _ _ T
 refine T.F_Trip___init__.ok sc_Trip___init__ (fun vs H Q E h=>?_) (fun cdv A outer s H vs Q E hr h=>?_)
 ·obtain ⟨_,_,_,_,_,_,_,_,_,rfl,_⟩:=h;rfl
 ·have nd:=sc_Trip___init__.nd
  have hu:=hr.units
  obtain ⟨x,dx,b,l0,ls,rooms,tr,tm,ps,rfl,hx,hb,gd,rm,hl0,hrw,n41,q⟩:=h
  refine ⟨_,(xK (xW (ps_fld (pv 0) (pv 1) rfl) (xW (ps_fld (pv 0) (wC (call_list_of' rfl) (by rfl) T.b_list yX (xF (xI (pv 2) xM rfl))) rfl) (xW (ps_fld (pv 0) (pe_comp (own:=["sender", "since", "wish", "last"]) (caps:=[]) rfl (show CompScope ["sender", "since", "wish", "last"] [] ["self", "book", "letters", "number", "sender", "since", "wish", "last"] (defScope xq) _ from ⟨rfl,by decide +kernel,by decide +kernel,by decide +kernel,by decide +kernel⟩) (pi_list' rfl (xj (pv 0) rfl)) (fun _ _ _ _=>(xw (n:=4) rfl rfl (xQ (xO (i:=0) (show List.Nodup (["sender", "since", "wish", "last"]:List Str) from by decide +kernel) rfl (by first | exact Or.inl rfl | exact Or.inr rfl)) (xQ (xO (i:=1) (show List.Nodup (["sender", "since", "wish", "last"]:List Str) from by decide +kernel) rfl (by first | exact Or.inl rfl | exact Or.inr rfl)) (xQ (xO (i:=2) (show List.Nodup (["sender", "since", "wish", "last"]:List Str) from by decide +kernel) rfl (by first | exact Or.inl rfl | exact Or.inr rfl)) (xQ (xO (i:=3) (show List.Nodup (["sender", "since", "wish", "last"]:List Str) from by decide +kernel) rfl (by first | exact Or.inl rfl | exact Or.inr rfl)) xv)))))) (fun _ _ _ _=>wX) (fun _ _ _ _=>(pe_disp (pps_cons (pv 0) (pv 1) pps_nil) rfl rfl (by intro h;cases h) (by decide)))) rfl) (xW (ps_fld (pv 0) (pe_comp (own:=["letter"]) (caps:=[]) rfl (show CompScope ["letter"] [] ["self", "book", "letters", "number", "sender", "since", "wish", "last"] (defScope xq) _ from ⟨rfl,by decide +kernel,by decide +kernel,by decide +kernel,by decide +kernel⟩) (pi_list' rfl (xj (pv 0) rfl)) (fun _ _ _ _=>(xO (i:=0) (show List.Nodup (["letter"]:List Str) from by decide +kernel) rfl (by first | exact Or.inl rfl | exact Or.inr rfl))) (fun _ _ _ _=>wX) (fun _ _ _ _=>pe_non)) rfl) (xW (ps_fld (pv 0) (pe_comp (own:=["meeting"]) (caps:=[]) rfl (show CompScope ["meeting"] [] ["self", "book", "letters", "number", "sender", "since", "wish", "last"] (defScope xq) _ from ⟨rfl,by decide +kernel,by decide +kernel,by decide +kernel,by decide +kernel⟩) (pi_tup'' rfl (xS (xT rfl) (pv 1) xG (fun _ _=>rfl))) (fun _ _ _ _=>(xO (i:=0) (show List.Nodup (["meeting"]:List Str) from by decide +kernel) rfl (by first | exact Or.inl rfl | exact Or.inr rfl))) (fun _ _ _ _=>wX) (fun _ _ _ _=>xG)) rfl) (xW (ps_fld (pv 0) xG rfl) (xW (ps_fld (pv 0) (xu pa_nil) rfl) (xf (ps_for PassesOwn.never rfl (pi_enumL rfl rfl T.b_enumerate (xF (xI (xj (pv 0) rfl) xM rfl))) (xw (n:=2) rfl rfl (xQ (xO (i:=3) nd rfl (by first | exact Or.inl rfl | exact Or.inr rfl)) (xQ (xw (n:=4) rfl rfl (xQ (xO (i:=4) nd rfl (by first | exact Or.inl rfl | exact Or.inr rfl)) (xQ (xO (i:=5) nd rfl (by first | exact Or.inl rfl | exact Or.inr rfl)) (xQ (xO (i:=6) nd rfl (by first | exact Or.inl rfl | exact Or.inr rfl)) (xQ (xO (i:=7) nd rfl (by first | exact Or.inl rfl | exact Or.inr rfl)) xv))))) xv))) (xK (xf (wG (wD (pv 0) T.L_Trip T.M_Trip_note_arrival G_Trip_note_arrival (hr.mono (by decide)) T.i_Trip_note_arrival .nil pass0 (xF (xI (pv 3) (xI (pv 4) (xI (pv 5) xM rfl) rfl) rfl)))))))))))))))),?_⟩
  have h60:=gd.len
  have line:=line9
  refine (zr rfl (zr rfl ⟨x,_,dx,zr rfl ⟨hx,T.L_Trip,T.n_Trip_book,by decide,?_⟩⟩))
  have b1:But x H (upd H x (.ins a.c_Trip dx (putF "book" (.ref b) []))):=But.set
  have i1:upd H x (.ins a.c_Trip dx (putF "book" (.ref b) [])) x=some (.ins a.c_Trip dx [("book", .ref b)]):=xH
  generalize upd H x (.ins a.c_Trip dx (putF "book" (.ref b) []))=H1 at b1 i1 ⊢
  have tu:∀ H',But x H H'->Tups H H':=fun H' z c xs e=>z c _ (wK e hx (by intro z;cases z)) e
  have n0:l0 ≠ x:=wK hl0 hx (by intro z;cases z)
  refine (zr rfl ⟨l0,zr rfl ⟨.inl (SqL.of (b1 _ _ n0 hl0)),fun lL hL=>?_⟩⟩)
  have nL:lL ≠ x:=(xJ i1 hL).symm
  have s2:=xL (o:=HO.lst (ls.map fun l=>V.ref l.1)) hL
  have kL:upd H1 lL (HO.lst (ls.map fun l=>V.ref l.1)) lL=some (.lst (ls.map fun l=>V.ref l.1)):=xH
  have i2:=s2 _ _ i1
  generalize upd H1 lL (HO.lst (ls.map fun l=>V.ref l.1))=H2 at s2 kL i2 ⊢
  refine (zr rfl ⟨x,_,dx,zr rfl ⟨i2,T.L_Trip,T.n_Trip_letters,by show 1 < 1000;decide,?_⟩⟩)
  have b3:But x H (upd H2 x (.ins a.c_Trip dx (putF "letters" (.ref lL) [("book", .ref b)]))):=(b1.trans (Same.but s2)).trans But.set
  have i3:upd H2 x (.ins a.c_Trip dx (putF "letters" (.ref lL) [("book", .ref b)])) x=some (.ins a.c_Trip dx [("book", .ref b),("letters", .ref lL)]):=xH
  replace kL:upd H2 x (.ins a.c_Trip dx (putF "letters" (.ref lL) [("book", .ref b)])) lL=some (.lst (ls.map fun l=>V.ref l.1)):=by rw [xN nL];exact kL
  generalize upd H2 x (.ins a.c_Trip dx (putF "letters" (.ref lL) [("book", .ref b)]))=H3 at b3 i3 kL ⊢
  have rw3:∀ l ∈ ls,H3 l.1=some (.tup (letRow l.2)):=fun l hl=>tu _ b3 _ _ (hrw l hl)
  refine (zr rfl ⟨x,_,dx,zr1 rfl ⟨i3,T.L_Trip,T.n_Trip_letters,rfl,lL,rfl,⟨_,SqL.of kL⟩,?_⟩⟩)
  refine comp_list (K:=K) (a:=lL) (xs:=ls.map fun l=>V.ref l.1) (fun i τ acc H5=>(∃ t0 t1 t2 t3,τ=[t0,t1,t2,t3])/\∃ hs:List (Addr × List (Int × Int)),acc=(hs.map fun h=>V.ref h.1)/\hs.map (·.2)=(ls.take i).map (fun l=>[((l.2.s:Int),l.2.a)])/\Same H3 H5/\(∀ h ∈ hs,H3 h.1=none/\H5 h.1=some (.dK (kvV h.2)))/\(hs.map (·.1)).Nodup) ⟨⟨_,_,_,_,rfl⟩,[],rfl,rfl,Same.refl _,(fun _ h=>nomatch h),List.nodup_nil⟩ (by rw [zA];omega) ?_ ?_ ?_
  ·rintro i τ acc H5 ⟨_,hs,rfl,e,s5,_⟩
   exact ⟨by rw [zA];have:=congrArg List.length e;simp at this;omega,SqL.of (s5 _ _ kL)⟩
  ·rintro i v τ acc H5 C hv ⟨⟨t0,t1,t2,t3,rfl⟩,hs,rfl,e,s5,kh,hnd⟩ hC
   obtain ⟨l1,hl1,rfl⟩:=xz hv
   refine (un4 (s5 _ _ (rw3 l1 (zD hl1))) (fun p hp=>(zr rfl (zr rfl ⟨xH,[(Sum.inl (l1.2.s:Int),V.int l1.2.a)],rfl,by show 1<=15;decide,?_⟩))))
   have s6:=same_twice (o1:=HO.dK []) (o2:=HO.dK (mergeK [] [(Sum.inl (l1.2.s:Int),V.int l1.2.a)])) hp
   refine hC _ _ _ ⟨⟨_,_,_,_,rfl⟩,hs ++ [(p,[((l1.2.s:Int),l1.2.a)])],by rw [zN];rfl,?_,s5.trans s6,fun h hh=>?_,?_⟩
   ·rw [zN,e,wI hl1,zN];rfl
   ·rcases zW.mp hh with hh | hh
    ·exact ⟨(kh h hh).1,s6 _ _ (kh h hh).2⟩
    ·cases zI.mp hh
     exact ⟨s5.free hp,by rw [xH];rfl⟩
   ·rw [zN]
    refine List.nodup_append.mpr ⟨hnd,by simp,fun c hc d hd=>?_⟩
    obtain ⟨h,hh,rfl⟩:=zM.mp hc
    cases zI.mp hd
    exact xJ (kh h hh).2 hp
  ·rintro τ acc H5 ⟨⟨t0,t1,t2,t3,rfl⟩,hs,rfl,e,s5,kh,hnd⟩ lH hH
   rw [zA,yj] at e
   have s6:=xL (o:=HO.lst (hs.map fun h=>V.ref h.1)) hH
   have s36:=s5.trans s6
   have kH:upd H5 lH (HO.lst (hs.map fun h=>V.ref h.1)) lH=some (.lst (hs.map fun h=>V.ref h.1)):=xH
   replace kh:∀ h ∈ hs,H3 h.1=none/\upd H5 lH (HO.lst (hs.map fun h=>V.ref h.1)) h.1=some (.dK (kvV h.2)):=fun h hh=>⟨(kh h hh).1,s6 _ _ (kh h hh).2⟩
   have n3H:H3 lH=none:=s5.free hH
   have fh:∀ h ∈ hs,H3 h.1=none:=fun h hh=>(kh h hh).1
   generalize upd H5 lH (HO.lst (hs.map fun h=>V.ref h.1))=H6 at s6 s36 kH kh ⊢
   have i6:=s36 _ _ i3
   refine (zr rfl ⟨x,_,dx,zr rfl ⟨i6,T.L_Trip,T.n_Trip_holders,by show 2 < 1000;decide,?_⟩⟩)
   have nH:lH ≠ x:=(xJ i3 n3H).symm
   have nLH:lH ≠ lL:=(xJ kL n3H).symm
   have nh:∀ h ∈ hs,h.1 ≠ x:=fun h hh=>(xJ i3 (kh h hh).1).symm
   replace kL:=s36 _ _ kL
   have bs7:But x H6 (upd H6 x (.ins a.c_Trip dx (putF "holders" (.ref lH) [("book", .ref b),("letters", .ref lL)]))):=But.set
   have i7:upd H6 x (.ins a.c_Trip dx (putF "holders" (.ref lH) [("book", .ref b),("letters", .ref lL)])) x=some (.ins a.c_Trip dx [("book", .ref b),("letters", .ref lL),("holders", .ref lH)]):=xH
   generalize upd H6 x (.ins a.c_Trip dx (putF "holders" (.ref lH) [("book", .ref b),("letters", .ref lL)]))=H7 at bs7 i7 ⊢
   have b7:But x H H7:=(b3.trans (Same.but s36)).trans bs7
   replace kL:=bs7 _ _ nL kL
   replace kH:=bs7 _ _ nH kH
   replace kh:∀ h ∈ hs,H7 h.1=some (.dK (kvV h.2)):=fun h hh=>bs7 _ _ (nh h hh) (kh h hh).2
   refine (zr rfl ⟨x,_,dx,zr1 rfl ⟨i7,T.L_Trip,T.n_Trip_letters,rfl,lL,rfl,⟨_,SqL.of kL⟩,?_⟩⟩)
   refine comp_list (K:=K) (a:=lL) (xs:=ls.map fun l=>V.ref l.1) (fun i τ acc H8=>(∃ t0,τ=[t0])/\acc=List.replicate i V.non/\H8=H7) ⟨⟨_,rfl⟩,rfl,rfl⟩ (by rw [zA];omega) ?_ ?_ ?_
   ·rintro i τ acc H8 ⟨_,rfl,rfl⟩
    exact ⟨by simp,SqL.of kL⟩
   ·rintro i v τ acc H8 C hv ⟨⟨t0,rfl⟩,rfl,rfl⟩ hC
    exact hC _ _ _ ⟨⟨_,rfl⟩,by rw [List.replicate_succ'],rfl⟩
   ·rintro τ acc H8 ⟨⟨t0,rfl⟩,rfl,rfl⟩ lA hA
    rw [zA] at *
    have s9:=xL (o:=HO.lst (List.replicate ls.length V.non)) hA
    have kA:upd H8 lA (HO.lst (List.replicate ls.length V.non)) lA=some (.lst (List.replicate ls.length V.non)):=xH
    have nA:lA ≠ x:=(xJ i7 hA).symm
    have nAL:lA ≠ lL:=(xJ kL hA).symm
    have nAH:lA ≠ lH:=(xJ kH hA).symm
    have nAh:∀ h ∈ hs,h.1 ≠ lA:=fun h hh=>xJ (kh h hh) hA
    generalize upd H8 lA (HO.lst (List.replicate ls.length V.non))=H9 at s9 kA ⊢
    refine (zr rfl ⟨x,_,dx,zr rfl ⟨s9 _ _ i7,T.L_Trip,T.n_Trip_arrivals,by show 3 < 1000;decide,?_⟩⟩)
    have bsA:But x H9 (upd H9 x (.ins a.c_Trip dx (putF "arrivals" (.ref lA) [("book", .ref b),("letters", .ref lL),("holders", .ref lH)]))):=But.set
    have iA:upd H9 x (.ins a.c_Trip dx (putF "arrivals" (.ref lA) [("book", .ref b),("letters", .ref lL),("holders", .ref lH)])) x=some (.ins a.c_Trip dx [("book", .ref b),("letters", .ref lL),("holders", .ref lH),("arrivals", .ref lA)]):=xH
    generalize upd H9 x (.ins a.c_Trip dx (putF "arrivals" (.ref lA) [("book", .ref b),("letters", .ref lL),("holders", .ref lH)]))=HA at bsA iA ⊢
    have bA:But x H HA:=(b7.trans (Same.but s9)).trans bsA
    replace kL:=bsA _ _ nL (s9 _ _ kL)
    replace kH:=bsA _ _ nH (s9 _ _ kH)
    replace kh:∀ h ∈ hs,HA h.1=some (.dK (kvV h.2)):=fun h hh=>bsA _ _ (nh h hh) (s9 _ _ (kh h hh))
    replace kA:=bsA _ _ nA kA
    have hbA:=hb.tups (tu _ bA)
    refine (zr rfl (ixt hbA.book rfl ⟨tm,rfl,⟨_,SqT.of hbA.meets⟩,?_⟩))
    refine comp_tup (K:=K) (a:=tm) (xs:=ps.map fun a=>V.ref a.1) (fun i τ acc H8=>(∃ t0,τ=[t0])/\acc=List.replicate i (V.int 0)/\H8=HA) ⟨⟨_,rfl⟩,rfl,rfl⟩ (by rw [zA];omega) ?_ ?_ ?_
    ·rintro i τ acc H8 ⟨_,rfl,rfl⟩
     exact ⟨by simp,SqT.of hbA.meets⟩
    ·rintro i v τ acc H8 C hv ⟨⟨t0,rfl⟩,rfl,rfl⟩ hC
     exact hC _ _ _ ⟨⟨_,rfl⟩,by rw [List.replicate_succ'],rfl⟩
    ·rintro τ acc H8 ⟨⟨t0,rfl⟩,rfl,rfl⟩ lP hP
     rw [zA] at *
     have sB:=xL (o:=HO.lst (List.replicate ps.length (V.int 0))) hP
     have kP:upd H8 lP (HO.lst (List.replicate ps.length (V.int 0))) lP=some (.lst (List.replicate ps.length (V.int 0))):=xH
     have nP:lP ≠ x:=(xJ iA hP).symm
     have nPA:lP ≠ lA:=(xJ kA hP).symm
     have nLP:=xJ kL hP
     have nHP:=xJ kH hP
     generalize upd H8 lP (HO.lst (List.replicate ps.length (V.int 0)))=HB at sB kP ⊢
     refine (zr rfl ⟨x,_,dx,zr rfl ⟨sB _ _ iA,T.L_Trip,T.n_Trip_passed,by show 4 < 1000;decide,?_⟩⟩)
     have bsC:But x HB (upd HB x (.ins a.c_Trip dx (putF "passed" (.ref lP) [("book", .ref b),("letters", .ref lL),("holders", .ref lH),("arrivals", .ref lA)]))):=But.set
     have iC:upd HB x (.ins a.c_Trip dx (putF "passed" (.ref lP) [("book", .ref b),("letters", .ref lL),("holders", .ref lH),("arrivals", .ref lA)])) x=some (.ins a.c_Trip dx [("book", .ref b),("letters", .ref lL),("holders", .ref lH),("arrivals", .ref lA),("passed", .ref lP)]):=xH
     generalize upd HB x (.ins a.c_Trip dx (putF "passed" (.ref lP) [("book", .ref b),("letters", .ref lL),("holders", .ref lH),("arrivals", .ref lA)]))=HC at bsC iC ⊢
     refine (zr rfl ⟨x,_,dx,zr rfl ⟨iC,T.L_Trip,T.n_Trip_reached,by show 5 < 1000;decide,?_⟩⟩)
     have bsD:But x HC (upd HC x (.ins a.c_Trip dx (putF "reached" (.int 0) [("book", .ref b),("letters", .ref lL),("holders", .ref lH),("arrivals", .ref lA),("passed", .ref lP)]))):=But.set
     have iD:upd HC x (.ins a.c_Trip dx (putF "reached" (.int 0) [("book", .ref b),("letters", .ref lL),("holders", .ref lH),("arrivals", .ref lA),("passed", .ref lP)])) x=some (.ins a.c_Trip dx [("book", .ref b),("letters", .ref lL),("holders", .ref lH),("arrivals", .ref lA),("passed", .ref lP),("reached", .int 0)]):=xH
     generalize upd HC x (.ins a.c_Trip dx (putF "reached" (.int 0) [("book", .ref b),("letters", .ref lL),("holders", .ref lH),("arrivals", .ref lA),("passed", .ref lP)]))=HD at bsD iD ⊢
     have bAD:But x H8 HD:=((Same.but sB).trans bsC).trans bsD
     replace kP:=(bsC.trans bsD) _ _ nP kP
     have kAD:=bAD _ _ nA kA
     refine ⟨zb _,fun lD hD=>?_⟩
     have sE:=xL (o:=HO.lst []) hD
     have kD:upd HD lD (HO.lst []) lD=some (.lst []):=xH
     have nD:lD ≠ x:=(xJ iD hD).symm
     have nDA:lD ≠ lA:=(xJ kAD hD).symm
     have nLD:=xJ (bAD _ _ nL kL) hD
     have nHD:=xJ (bAD _ _ nH kH) hD
     have nPD:=xJ kP hD
     generalize upd HD lD (HO.lst [])=HE at sE kD ⊢
     refine (zr rfl ⟨x,_,dx,zr rfl ⟨sE _ _ iD,T.L_Trip,T.n_Trip_deeds,by show 6 < 1000;decide,?_⟩⟩)
     have bsF:But x HE (upd HE x (.ins a.c_Trip dx (putF "deeds" (.ref lD) [("book", .ref b),("letters", .ref lL),("holders", .ref lH),("arrivals", .ref lA),("passed", .ref lP),("reached", .int 0)]))):=But.set
     have iF:upd HE x (.ins a.c_Trip dx (putF "deeds" (.ref lD) [("book", .ref b),("letters", .ref lL),("holders", .ref lH),("arrivals", .ref lA),("passed", .ref lP),("reached", .int 0)])) x=some (.ins a.c_Trip dx [("book", .ref b),("letters", .ref lL),("holders", .ref lH),("arrivals", .ref lA),("passed", .ref lP),("reached", .int 0),("deeds", .ref lD)]):=xH
     generalize upd HE x (.ins a.c_Trip dx (putF "deeds" (.ref lD) [("book", .ref b),("letters", .ref lL),("holders", .ref lH),("arrivals", .ref lA),("passed", .ref lP),("reached", .int 0)]))=HF at bsF iF ⊢
     have bEF:But x HD HF:=(Same.but sE).trans bsF
     have bAF:But x H8 HF:=bAD.trans bEF
     have bF:But x H HF:=bA.trans bAF
     have lh:hs.length=ls.length:=by have:=congrArg List.length e;simpa using this
     have tF:TripAt a.c_Trip HF x b dx lL lH lA lP lD ls hs (List.replicate ls.length none) (List.replicate ps.length 0) 0 []:=
      ⟨iF,bAF _ _ nL kL,fun l hl=>tu _ bF _ _ (hrw l hl),bAF _ _ nH kH,fun h hh=>bAF _ _ (nh h hh) (kh h hh),by rw [bAF _ _ nA kA,yn];rfl,by rw [bEF _ _ nP kP,yn],bsF _ _ nD kD⟩
     have keepA:∀ H',But lA HF H'->∀ os',H' lA=some (.lst (os'.map oV))->TripAt a.c_Trip H' x b dx lL lH lA lP lD ls hs os' (List.replicate ps.length 0) 0 []:=fun H' z os' ea=>
      ⟨z _ _ nA.symm tF.ins,z _ _ nAL.symm tF.lts,fun l hl=>z _ _ (wK (tF.rows l hl) tF.arr (by intro z;cases z)) (tF.rows l hl),z _ _ nAH.symm tF.hol,fun h hh=>z _ _ (nAh h hh) (tF.hols h hh),ea,z _ _ nPA tF.pas,z _ _ nDA tF.dee⟩
     refine (zr rfl ⟨x,_,dx,zr1 rfl ⟨iF,T.L_Trip,T.n_Trip_letters,rfl,lL,rfl,⟨_,SqL.of tF.lts⟩,?_⟩⟩)
     refine for_enumL (K:=K) (a:=lL) (xs:=ls.map fun l=>V.ref l.1) (fun i σ HG=>(∃ v3 v4 v5 v6 v7,σ=[some (.ref x),some (.ref b),some (.ref l0),v3,v4,v5,v6,v7])/\But lA HF HG/\HG lA=some (.lst ((osTo ls i).map oV))) ⟨⟨_,_,_,_,_,rfl⟩,But.refl _ _,by rw [tF.arr,osTo_0]⟩ ?_ ?_ ?_
     ·rintro i σ HG _ ⟨_,bG,kG⟩
      exact SqL.of (keepA _ bG _ kG).lts
     ·rintro i v q0 σ HG hv hq ⟨⟨v3,v4,v5,v6,v7,rfl⟩,bG,kG⟩
      obtain ⟨l1,hl1,rfl⟩:=xz hv
      have hi:i < ls.length:=(zB.mp hl1).1
      have s1:=xL (o:=HO.tup [V.int (i:Int),V.ref l1.1]) hq
      have kq:upd HG q0 (HO.tup [V.int (i:Int),V.ref l1.1]) q0=some (.tup [V.int (i:Int),V.ref l1.1]):=xH
      generalize upd HG q0 (HO.tup [V.int (i:Int),V.ref l1.1])=HI at s1 kq ⊢
      have tI:=(keepA _ bG _ kG).same s1
      refine ⟨q0,zr rfl ⟨SqT.of kq,rfl,zr1 rfl (zr1 rfl (un4 (tI.rows l1 (zD hl1)) ⟨rfl,?_⟩))⟩⟩
      refine (zr rfl ⟨x,dx,zr rfl ⟨tI.ins,rfl,zr rfl (zr rfl (zr rfl ⟨x,b,dx,lL,lH,lA,lP,lD,ls,hs,_,_,_,_,i,_,_,l1,rfl,tI,hl1,by rw [osTo_len (by omega)];exact hi,fun HJ bJ kJ=>?_⟩))⟩⟩)
      exact ⟨⟨_,_,_,_,_,rfl⟩,(bG.trans (Same.but s1)).trans bJ,by rw [kJ,osTo_step hl1]⟩
     ·rintro σ HG ⟨⟨v3,v4,v5,v6,v7,rfl⟩,bG,kG⟩
      rw [zA,osTo_all] at kG
      have n0A:H lA=none:=by
       cases z:H lA with
       | none=>rfl
       | some u=>have:=b7 _ _ nA z;rw [hA] at this;cases this
      refine q ⟨x,b,dx,lL,lH,lA,lP,lD,ls,hs,ls.map fun l=>begA l.2,List.replicate ps.length 0,0,[]⟩ HG (fun c u n z=>bG c u (xJ z n0A) (bF c u n z)) ⟨keepA _ bG _ kG,(hb.tups (tu _ bF)).tups (fun c xs z=>bG c _ (wK z tF.arr (by intro z;cases z)) z),gd,rm,lh,by rw [zA],by rw [zY],n41,fun h hh=>?_,zb _,⟨nAL.symm,nLP,nLD,nAH.symm,nHP,nHD,nPA.symm,nDA.symm,nPD⟩,hnd⟩ ⟨rfl,rfl,rfl,e,rfl,rfl,rfl,rfl,fun c hc=>?_⟩
      ·have:h.2 ∈ hs.map (·.2):=zM.mpr ⟨h,hh,rfl⟩
       rw [e] at this
       obtain ⟨l,_,el⟩:=zM.mp this
       rw [<-el];exact zJ 1
      ·rcases hc with (rfl | rfl | rfl | rfl | hc) | rfl | rfl
       ·exact .inl rfl
       ·exact .inr n0A
       ·exact .inr (bA.free nP hP)
       ·exact .inr ((bA.trans bAD).free nD hD)
       ·obtain ⟨h,hh,rfl⟩:=zM.mp hc
        exact .inr (b3.free (nh h hh) (fh h hh))
       ·exact .inr (b1.free nL hL)
       ·exact .inr (b3.free nH n3H)
theorem sc_Trip_having:FnScope ["self", "letter"] ["self", "letter"] (defScope s_Trip_having):=⟨rfl,rfl,rfl,by decide +kernel,rfl,by decide +kernel,by decide +kernel⟩
theorem ok_Trip_having (T:Tx K mg a t_MOST_TOKENS):FnOk P w K mg base CX0 1 a.a_Trip_having a.d_Trip_having ["self", "letter"] (spHaving a.c_Trip):=by
 refine T.F_Trip_having.ok sc_Trip_having (fun vs H Q E h=>?_) (fun cdv A outer s H vs Q E hr h=>?_)
 ·obtain ⟨_,_,_,_,_,_,_,_,_,_,_,_,_,_,_,_,rfl,_⟩:=h;rfl
 ·have nd:=sc_Trip_having.nd
  have hu:=hr.units
  obtain ⟨x,b,dx,lL,lH,lA,lP,lD,ls,hs,os,ns,r,ds,n,h0,rfl,t,hn,h64,q⟩:=h
  refine ⟨_,(xK (xf (xb (xU (call_sortItems rfl) (by rfl) T.b_sorted PyProof.Rows.boot_sorted (xF (xI (pe_bm0 PySem.F.plainAttrs_dict PySem.F.slot_dict_items PySem.F.type_dict_items mt_items (xS (xY rfl) (xj (pv 0) rfl) (pv 1) (fun _ _=>rfl))) xM rfl)))))),?_⟩
  have line:=line9
  have hh:=t.hols h0 (zD hn)
  have at1:atI (hs.map fun h=>V.ref h.1) (n:Int)=some (V.ref h0.1):=xi (by rw [zC,hn];rfl)
  refine (zr rfl ⟨x,_,dx,zr1 rfl ⟨t.ins,T.L_Trip,T.n_Trip_holders,rfl,zr rfl (ixl t.hol at1 ?_)⟩⟩)
  refine ⟨.inr (.inr (.inl ⟨rfl,.inl ⟨_,hh⟩⟩)),h0.1,zr rfl ⟨rfl,hh,fun v hv=>?_⟩⟩
  have sv:=xL (o:=viewO v h0.1) hv
  exact ⟨v,h0.1,h0.2,rfl,xH,sv _ _ hh,h64,fun l qs H' sm nl nq kl kr pm pw=>q l qs H' (sv.trans sm) (sv.free nl) (fun a ha=>sv.free (nq a ha)) kl kr pm pw⟩
theorem sc_Trip_bag:FnScope ["self", "walker", "kept", "letter", "holders"] ["self", "walker"] (defScope s_Trip_bag):=⟨rfl,rfl,rfl,by decide +kernel,rfl,by decide +kernel,by decide +kernel⟩
theorem ok_Trip_bag (T:Tx K mg a t_MOST_TOKENS):FnOk P w K mg base CX0 2 a.a_Trip_bag a.d_Trip_bag ["self", "walker"] (spBag a.c_Trip):=by
 have G_Trip_takes_room:=@ok_Trip_takes_room P w _ _ base _ _ T
 refine T.F_Trip_bag.ok sc_Trip_bag (fun vs H Q E h=>?_) (fun cdv A outer s H vs Q E hr h=>?_)
 ·obtain ⟨_,_,_,_,_,_,_,_,_,_,_,_,_,_,_,rfl,_⟩:=h;rfl
 ·have nd:=sc_Trip_bag.nd
  have hu:=hr.units
  obtain ⟨x,b,dx,lL,lH,lA,lP,lD,ls,hs,os,ns,r,ds,w0,rfl,t,n41,lh,q⟩:=h
  refine ⟨_,(xK (xW (xX (i:=2) nd rfl (by first | exact Or.inl rfl | exact Or.inr rfl) (xu pa_nil)) (xW (ps_for PassesOwn.never rfl (pi_enumL rfl rfl T.b_enumerate (xF (xI (xj (pv 0) rfl) xM rfl))) (xw (n:=2) rfl rfl (xQ (xO (i:=3) nd rfl (by first | exact Or.inl rfl | exact Or.inr rfl)) (xQ (xO (i:=4) nd rfl (by first | exact Or.inl rfl | exact Or.inr rfl)) xv))) (xK (xf (xh (PW.pt (pw_and (xV (op_inD hu) (pv 1) (pv 4) rfl) (pw_and1 (wR (wD (pv 0) T.L_Trip T.M_Trip_takes_room G_Trip_takes_room (hr.mono (by decide)) T.i_Trip_takes_room .nil pass0 (xF (xI (pv 3) (xI (pv 1) xM rfl) rfl))))))) (xK (xf (wG (pe_bm yM yJ yK mt_append (pv 2) (xF (xI (pv 3) xM rfl)))))) xZ)))) (xf (xb (pv 2)))))),?_⟩
  have line:=line9
  refine ⟨zb _,fun lk hlk=>?_⟩
  have s1:=xL (o:=HO.lst []) hlk
  refine (zr rfl ⟨x,_,dx,zr1 rfl ⟨s1 _ _ t.ins,T.L_Trip,T.n_Trip_holders,rfl,lH,rfl,⟨_,SqL.of (s1 _ _ t.hol)⟩,?_⟩⟩)
  refine for_enumL (K:=K) (a:=lH) (xs:=hs.map fun h=>V.ref h.1) (fun i σ H3=>(∃ v3 v4,σ=[some (.ref x),some (.int w0),some (.ref lk),v3,v4])/\Same H H3/\H3 lk=some (.lst ((bagTo w0 ls hs i).map V.int))) ⟨⟨_,_,rfl⟩,s1,xH⟩ ?_ ?_ ?_
  ·rintro i σ H3 _ ⟨_,s3,_⟩
   exact SqL.of (s3 _ _ t.hol)
  ·rintro i v q0 σ H3 hv hq ⟨⟨v3,v4,rfl⟩,s3,kl⟩
   obtain ⟨h0,hh,rfl⟩:=xz hv
   obtain ⟨l1,hl1⟩:∃ l,ls[i]?=some l:=⟨_,zE (by have:=(zB.mp hh).1;omega)⟩
   have s4:=xL (o:=HO.tup [V.int (i:Int),V.ref h0.1]) hq
   have k4:=s4 _ _ kl
   have kq:upd H3 q0 (HO.tup [V.int (i:Int),V.ref h0.1]) q0=some (.tup [V.int (i:Int),V.ref h0.1]):=xH
   generalize upd H3 q0 (HO.tup [V.int (i:Int),V.ref h0.1])=H4 at s4 k4 kq ⊢
   have sH4:=s3.trans s4
   have t4:=t.same sH4
   refine (un2 kq ?_)
   refine (zr rfl (zr rfl ⟨h0.1,zr rfl ⟨DGet.k (k:=Sum.inl w0) (t4.hols h0 (zD hh)),zr rfl ?_⟩⟩))
   rw [valV_any]
   have nn:bagTo w0 ls hs (i + 1)=bagTo w0 ls hs i ++ (if inBag w0 ls[i]? hs[i]? then [(i:Int)] else []):=rfl
   rw [hl1,hh] at nn
   cases c:(h0.2.any fun p=>decide (p.1=w0)) with
   | false=>exact iteB0 rfl ⟨⟨_,_,rfl⟩,sH4,by rw [nn,if_neg (by simp only [inBag,c,yP];exact zG),za];exact k4⟩
   | true=>
    refine iteB1 rfl (zr rfl ⟨x,dx,zr rfl ⟨t4.ins,rfl,zr rfl (zr rfl ⟨x,b,dx,lL,lH,lA,lP,lD,ls,hs,os,ns,r,ds,i,w0,l1,rfl,t4,hl1,fun H5 s5=>(zr rfl ?_)⟩)⟩⟩)
    have k5:=s5 _ _ k4
    cases c2:(!(decide (w0=l1.2.s) || decide (w0=l1.2.w))) with
    | false=>exact iteB0 rfl ⟨⟨_,_,rfl⟩,sH4.trans s5,by rw [nn,if_neg (by simp only [inBag,c,c2,Bool.and_false];exact zG),za];exact k5⟩
    | true=>
     have li:=bagTo_len w0 ls hs i
     have hi:i < hs.length:=(zB.mp hh).1
     refine iteB1 rfl (zr rfl ⟨.inl ⟨rfl,_,SqL.of k5⟩,zr rfl ⟨lk,zr2 rfl rfl ⟨k5,by rw [zA];omega,⟨_,_,rfl⟩,same_put (sH4.trans s5) hlk,?_⟩⟩⟩)
     rw [xH,nn,if_pos (by simp only [inBag,c,c2,Bool.and_self]),zN]
     rfl
  ·rintro σ H3 ⟨⟨v3,v4,rfl⟩,s3,kl⟩
   rw [zA] at kl
   exact (zr rfl (q lk H3 s3 hlk kl))
theorem sc_Trip_done:FnScope ["self"] ["self"] (defScope s_Trip_done):=⟨rfl,rfl,rfl,by decide +kernel,rfl,by decide +kernel,by decide +kernel⟩
theorem ok_Trip_done (T:Tx K mg a t_MOST_TOKENS):FnOk P w K mg base CX0 1 a.a_Trip_done a.d_Trip_done ["self"] (spDone a.c_Trip):=by
 refine T.F_Trip_done.ok sc_Trip_done (fun vs H Q E h=>?_) (fun cdv A outer s H vs Q E hr h=>?_)
 ·obtain ⟨_,_,_,_,_,_,_,_,_,_,_,_,_,_,rfl,_⟩:=h;rfl
 ·have nd:=sc_Trip_done.nd
  have hu:=hr.units
  obtain ⟨x,b,dx,lL,lH,lA,lP,lD,ls,hs,os,ns,r,ds,rfl,t,q⟩:=h
  refine ⟨_,(xK (xf (xb (wC (call_list_of' rfl) (by rfl) T.b_list yX (xF (xI (xj (pv 0) rfl) xM rfl)))))),?_⟩
  exact (zr rfl ⟨x,_,dx,zr1 rfl ⟨t.ins,T.L_Trip,T.n_Trip_deeds,rfl,lD,zr rfl ⟨.inl (SqL.of t.dee),q⟩⟩⟩)
theorem sc_Trip_need_letter:FnScope ["self", "letter"] ["self", "letter"] (defScope wT):=⟨rfl,rfl,rfl,by decide +kernel,rfl,by decide +kernel,by decide +kernel⟩
theorem ok_Trip_need_letter (T:Tx K mg a t_MOST_TOKENS):FnOk P w K mg base (CXE P w) 3 a.a_Trip_need_letter a.d_Trip_need_letter ["self", "letter"] (spNeedL a.c_Trip ⟨a.c_NoDeed,a.c_NoMeeting,a.c_NoLetter,a.c_NoWalker,a.c_NotThere,a.c_HasIt,a.c_NoPass,a.c_NoRoom⟩):=by
 have G_is_within:=@ok_is_within P w _ _ base _ _ T
 refine T.F_Trip_need_letter.okE sc_Trip_need_letter (fun vs H Q E h=>?_) (fun cdv A outer s H vs Q E hr h=>?_)
 ·obtain ⟨_,_,_,_,_,_,_,rfl,_⟩:=h;rfl
 ·have nd:=sc_Trip_need_letter.nd
  have hu:=hr.units
  obtain ⟨t,l,rooms,tr,tm,ps,n0,rfl,k,q1,q2⟩:=h
  refine ⟨_,(xK (xf (xh (pt_not (wR (xP G_is_within (hr.mono (by decide)) rfl T.m_is_within T.k_is_within T.i_is_within .nil pass0 (xF (xI (pv 1) (xI xG (xI (xg op_sub (xU (xR rfl) (by rfl) T.b_len PySem.boot_len (xF (xI (xj (pv 0) rfl) xM rfl))) xG) xM rfl) rfl) rfl))))) (xK (xf (wF rfl rfl rfl rfl rfl T.m_NoLetter T.x_NoLetter))) xZ))),?_⟩
  refine (zr rfl (zr rfl ⟨t.x,_,t.dx,zr1 rfl ⟨k.at_.ins,T.L_Trip,T.n_Trip_letters,rfl,t.lL,zr rfl ⟨.inl (SqL.of k.at_.lts),zr2 rfl rfl ⟨.int l, "int", 0,zr rfl ⟨rfl,zr rfl ?_⟩⟩⟩⟩⟩))
  rw [zA]
  by_cases c:0<=l/\l < t.ls.length
  ·exact iteB0 (by simp [inB];omega) (q1 c)
  ·exact iteB1 (by simp [inB];omega) (q2 c)
theorem sc_Trip_need_drop:FnScope ["self", "letter", "walker"] ["self", "letter", "walker"] (defScope s_Trip_need_drop):=⟨rfl,rfl,rfl,by decide +kernel,rfl,by decide +kernel,by decide +kernel⟩
theorem ok_Trip_need_drop (T:Tx K mg a t_MOST_TOKENS):FnOk P w K mg base (CXE P w) 4 a.a_Trip_need_drop a.d_Trip_need_drop ["self", "letter", "walker"] (spNeedD a.c_Trip ⟨a.c_NoDeed,a.c_NoMeeting,a.c_NoLetter,a.c_NoWalker,a.c_NotThere,a.c_HasIt,a.c_NoPass,a.c_NoRoom⟩):=by
 have G_is_walker:=@ok_is_walker P w _ _ base _ _ T
 have G_Trip_need_letter:=@ok_Trip_need_letter P w _ _ base _ _ T
 refine T.F_Trip_need_drop.okE sc_Trip_need_drop (fun vs H Q E h=>?_) (fun cdv A outer s H vs Q E hr h=>?_)
 ·obtain ⟨_,_,_,_,_,_,_,_,rfl,_⟩:=h;rfl
 ·have nd:=sc_Trip_need_drop.nd
  have hu:=hr.units
  obtain ⟨t,l,w0,rooms,tr,tm,ps,n0,rfl,k,q1,q2⟩:=h
  refine ⟨_,(xK (xW (wG (wD (E:=E) (pv 0) T.L_Trip T.M_Trip_need_letter G_Trip_need_letter (hr.mono (by decide)) T.i_Trip_need_letter .nil (pass_on rfl rfl rfl (fun _ _ z=>z)) (xF (xI (pv 1) xM rfl)))) (xW (xh (pt_not (wR (xP G_is_walker (hr.mono (by decide)) rfl T.m_is_walker T.k_is_walker T.i_is_walker .nil pass0 (xF (xI (xj (pv 0) rfl) (xI (pv 2) xM rfl) rfl))))) (xK (xf (wF rfl rfl rfl rfl rfl T.m_NoWalker T.x_NoWalker))) xZ) (xf (xh (xV (op_notInD hu) (pv 2) (xS (xY rfl) (xj (pv 0) rfl) (pv 1) (fun _ _=>rfl)) rfl) (xK (xf (wF rfl rfl rfl rfl rfl T.m_NotThere T.x_NotThere))) xZ))))),?_⟩
  have qE:∀ n,codeD rooms t l w0=n->n ≠ 8->E (.ref (XC.of ⟨a.c_NoDeed,a.c_NoMeeting,a.c_NoLetter,a.c_NoWalker,a.c_NotThere,a.c_HasIt,a.c_NoPass,a.c_NoRoom⟩ n)) none H:=fun n e ne=>e ▸ q2 (e ▸ ne)
  refine (zr rfl ⟨t.x,t.dx,zr rfl ⟨k.at_.ins,rfl,zr rfl (ex7 t l rooms tr tm ps n0 ⟨rfl,k,fun c=>?_,fun c=>qE 2 (by unfold codeD;rw [if_neg c]) (by decide)⟩)⟩⟩)
  obtain ⟨l,rfl⟩:=zO c.1
  obtain ⟨h,hh,_,hd⟩:=k.kvAt (l:=l) (by omega)
  refine (zr rfl ⟨t.x,_,t.dx,zr1 rfl ⟨k.at_.ins,T.L_Trip,T.n_Trip_book,rfl,zr rfl ⟨t.b,.int w0,ex5 ("int") rooms tr tm ps ⟨rfl,k.bk,rfl,zr rfl ?_⟩⟩⟩⟩)
  by_cases c2:0<=w0/\w0 < rooms.length
  ·have at1:atI (t.hs.map fun h=>V.ref h.1) (l:Int)=some (V.ref h.1):=xi (by rw [zC,hh];rfl)
   refine iteB0 (by simp [inB];omega) (zr rfl (zr rfl ⟨t.x,_,t.dx,zr1 rfl ⟨k.at_.ins,T.L_Trip,T.n_Trip_holders,rfl,zr rfl (ixl k.at_.hol at1 ⟨h.1,zr rfl ⟨DGet.k (k:=Sum.inl w0) hd,zr rfl ?_⟩⟩)⟩⟩))
   have ce:codeD rooms t (l:Int) w0=if (kvget h.2 w0).isSome=true then 8 else 4:=by
    unfold codeD;rw [if_pos c,if_pos c2,zF,hh]
   rw [valV_kv,yI]
   cases c3:(kvget h.2 w0).isSome with
   | true=>exact iteB0 rfl (q1 (by rw [ce,c3];rfl))
   | false=>exact iteB1 rfl (qE 4 (by rw [ce,c3];rfl) (by decide))
  ·exact iteB1 (by simp [inB];omega) (qE 3 (by unfold codeD;rw [if_pos c,if_neg c2]) (by decide))
theorem sc_Trip_need_passing:FnScope ["self", "meeting", "letter", "giver", "one", "two", "when", "many", "other"] ["self", "meeting", "letter", "giver"] (defScope wN):=⟨rfl,rfl,rfl,by decide +kernel,rfl,by decide +kernel,by decide +kernel⟩
theorem ok_Trip_need_passing (T:Tx K mg a t_MOST_TOKENS):FnOk P w K mg base (CXE P w) 4 a.a_Trip_need_passing a.d_Trip_need_passing ["self", "meeting", "letter", "giver"] (spNeedP a.c_Trip ⟨a.c_NoDeed,a.c_NoMeeting,a.c_NoLetter,a.c_NoWalker,a.c_NotThere,a.c_HasIt,a.c_NoPass,a.c_NoRoom⟩):=by
 have G_is_below:=@ok_is_below P w _ _ base _ _ T
 have G_is_meeting_number:=@ok_is_meeting_number P w _ _ base _ _ T
 have G_other_at:=@ok_other_at P w _ _ base _ _ T
 have G_Trip_takes_room:=@ok_Trip_takes_room P w _ _ base _ _ T
 have G_Trip_bag:=@ok_Trip_bag P w _ _ base _ _ T
 have G_Trip_need_letter:=@ok_Trip_need_letter P w _ _ base _ _ T
 refine T.F_Trip_need_passing.okE sc_Trip_need_passing (fun vs H Q E h=>?_) (fun cdv A outer s H vs Q E hr h=>?_)
 ·obtain ⟨_,_,_,_,_,_,_,_,_,rfl,_⟩:=h;rfl
 ·have nd:=sc_Trip_need_passing.nd
  have hu:=hr.units
  obtain ⟨t,m,l,g,rooms,tr,tm,ps,n0,rfl,k,q1,q2⟩:=h
  refine ⟨_,(xK (xW (xh (PW.pt (pw_or (pt_not (wR (xP G_is_meeting_number (hr.mono (by decide)) rfl T.m_is_meeting_number T.k_is_meeting_number T.i_is_meeting_number .nil pass0 (xF (xI (xj (pv 0) rfl) (xI (pv 1) xM rfl) rfl))))) (pw_or1 (xV op_lt (pv 1) (xj (pv 0) rfl) (nomark _))))) (xK (xf (wF rfl rfl rfl rfl rfl T.m_NoMeeting T.x_NoMeeting))) xZ) (xW (wG (wD (E:=E) (pv 0) T.L_Trip T.M_Trip_need_letter G_Trip_need_letter (hr.mono (by decide)) T.i_Trip_need_letter .nil (pass_on rfl rfl rfl (fun _ _ z=>z)) (xF (xI (pv 2) xM rfl)))) (xW (PS.nox (wW (xS (xT rfl) (xS (xT rfl) (xj (pv 0) rfl) xG (fun _ _=>rfl)) (pv 1) (fun _ _=>rfl)) (xw (n:=4) rfl rfl (xQ (xO (i:=4) nd rfl (by first | exact Or.inl rfl | exact Or.inr rfl)) (xQ (xO (i:=5) nd rfl (by first | exact Or.inl rfl | exact Or.inr rfl)) (xQ (xO (i:=6) nd rfl (by first | exact Or.inl rfl | exact Or.inr rfl)) (xQ (xO (i:=7) nd rfl (by first | exact Or.inl rfl | exact Or.inr rfl)) xv))))))) (xW (xh (xV op_notIn_seq (pv 3) (xp (xF (xI (pv 4) (xI (pv 5) xM rfl) rfl))) rfl) (xK (xf (wF rfl rfl rfl rfl rfl T.m_NoWalker T.x_NoWalker))) xZ) (xW (xh (pt_not (wR (xP G_is_below (hr.mono (by decide)) rfl T.m_is_below T.k_is_below T.i_is_below .nil pass0 (xF (xI (pe_bm PySem.F.plainAttrs_dict PySem.F.slot_dict_get PySem.F.type_dict_get (mt_dget (by exact hu)) (xS (xY rfl) (xj (pv 0) rfl) (pv 2) (fun _ _=>rfl)) (xF (xI (pv 3) xM rfl))) (xI (pv 6) xM rfl) rfl))))) (xK (xf (wF rfl rfl rfl rfl rfl T.m_NotThere T.x_NotThere))) xZ) (xW (PS.nox (xX (i:=8) nd rfl (by first | exact Or.inl rfl | exact Or.inr rfl) (xP G_other_at (hr.mono (by decide)) rfl T.m_other_at T.k_other_at T.i_other_at .nil pass0 (xF (xI (xj (pv 0) rfl) (xI (pv 1) (xI (pv 3) xM rfl) rfl) rfl))))) (xW (xh (xV (op_inD hu) (pv 8) (xS (xY rfl) (xj (pv 0) rfl) (pv 2) (fun _ _=>rfl)) rfl) (xK (xf (wF rfl rfl rfl rfl rfl T.m_HasIt T.x_HasIt))) xZ) (xW (xh (xV op_ge (xS (xY rfl) (xj (pv 0) rfl) (pv 1) (fun _ _=>rfl)) (pv 7) (nomark _)) (xK (xf (wF rfl rfl rfl rfl rfl T.m_NoPass T.x_NoPass))) xZ) (xf (xh (PW.pt (pw_and (wR (wD (pv 0) T.L_Trip T.M_Trip_takes_room G_Trip_takes_room (hr.mono (by decide)) T.i_Trip_takes_room .nil pass0 (xF (xI (pv 2) (xI (pv 8) xM rfl) rfl)))) (pw_and1 (xV op_ge (xU (xR rfl) (by rfl) T.b_len PySem.boot_len (xF (xI (wD (pv 0) T.L_Trip T.M_Trip_bag G_Trip_bag (hr.mono (by decide)) T.i_Trip_bag .nil pass0 (xF (xI (pv 8) xM rfl))) xM rfl))) (xS (xT rfl) (xS (xT rfl) (xj (pv 0) rfl) xG (fun _ _=>rfl)) (pv 8) (fun _ _=>rfl)) (nomark _))))) (xK (xf (wF rfl rfl rfl rfl rfl T.m_NoRoom T.x_NoRoom))) xZ))))))))))),?_⟩
  have line:=line9
  have qE:∀ n,codeP rooms (ps.map (·.2)) t m l g=n->n ≠ 8->∀ H',Same H H'->E (.ref (XC.of ⟨a.c_NoDeed,a.c_NoMeeting,a.c_NoLetter,a.c_NoWalker,a.c_NotThere,a.c_HasIt,a.c_NoPass,a.c_NoRoom⟩ n)) none H':=fun n e ne=>e ▸ q2 (e ▸ ne)
  have lm:(ps.map (·.2)).length=ps.length:=zA _
  refine (zr rfl ⟨t.x,_,t.dx,zr1 rfl ⟨k.at_.ins,T.L_Trip,T.n_Trip_book,rfl,zr rfl ⟨t.b,.int m,ex5 ("int") rooms tr tm ps ⟨rfl,k.bk,rfl,zr rfl ?_⟩⟩⟩⟩)
  by_cases c1:0<=m/\m < ps.length
  rotate_left
  ·exact iteB1 (by simp [inB];omega) (iteB1 rfl (qE 1 (by unfold codeP;rw [lm,if_neg fun z=>c1 ⟨z.1,z.2.1⟩]) (by decide) H (Same.refl _)))
  refine iteB0 (by simp [inB];omega) (zr rfl (zr rfl ⟨t.x,_,t.dx,zr1 rfl ⟨k.at_.ins,T.L_Trip,T.n_Trip_reached,rfl,zr2 rfl rfl (zr rfl (iteD (fun c=>qE 1 (by unfold codeP;rw [lm,if_neg fun z=>by omega]) (by decide) H (Same.refl _)) fun c2=>?_))⟩⟩))
  refine (zr rfl ⟨t.x,t.dx,zr rfl ⟨k.at_.ins,rfl,zr rfl (ex7 t l rooms tr tm ps n0 ⟨rfl,k,fun c3=>?_,fun c3=>qE 2 (by unfold codeP;rw [lm,if_pos ⟨c1.1,c1.2,by omega⟩,if_neg c3]) (by decide) H (Same.refl _)⟩)⟩⟩)
  obtain ⟨m,rfl⟩:=zO c1.1
  obtain ⟨l,rfl⟩:=zO c3.1
  have hm:m < ps.length:=by omega
  obtain ⟨h,hh,_,hd⟩:=k.kvAt (l:=l) (by omega)
  obtain ⟨L,hL⟩:∃ L,t.ls[l]?=some L:=⟨_,zE (by omega)⟩
  obtain ⟨n,hn⟩:∃ n,t.ns[m]?=some n:=⟨_,zE (by have:=k.ln;omega)⟩
  obtain ⟨M,hp⟩:∃ M,ps[m]?=some M:=⟨_,zE hm⟩
  have hM:(ps.map (·.2))[m]?=some M.2:=by rw [zC,hp];rfl
  have ce:=codeP_at (rooms:=rooms) (ms:=ps.map (·.2)) (g:=g) (show t.r<=(m:Int) by omega) hM hL hh hn
  have hrow:H M.1=some (.tup M.2.vs):=k.bk.rows M (zD hp)
  have atm:atI (ps.map fun a=>V.ref a.1) (m:Int)=some (V.ref M.1):=xi (by rw [zC,hp];rfl)
  have at1:atI (t.hs.map fun h=>V.ref h.1) (l:Int)=some (V.ref h.1):=xi (by rw [zC,hh];rfl)
  have at2:atI (t.ns.map V.int) (m:Int)=some (V.int n):=xi (by rw [zC,hn];rfl)
  refine (zr rfl ⟨t.x,_,t.dx,zr1 rfl ⟨k.at_.ins,T.L_Trip,T.n_Trip_book,rfl,ixt k.bk.book rfl (zr rfl (ixt k.bk.meets atm (un4 hrow ?_)))⟩⟩)
  refine (zr rfl (zr rfl (zr rfl ⟨by show 2<=_;omega,fun t2 ht2=>⟨t2,zr rfl ⟨.inr (SqT.of xH),rfl,rfl,zr rfl ?_⟩⟩⟩)))
  have s1:=xL (o:=HO.tup [V.int M.2.lo,V.int M.2.hi]) ht2
  generalize upd H t2 (HO.tup [V.int M.2.lo,V.int M.2.hi])=H1 at s1 ⊢
  have k1:=k.same s1
  have hd1:=s1 _ _ hd
  have eV:inV (V.int g) [V.int M.2.lo,V.int M.2.hi]=decide (g=M.2.lo\/g=M.2.hi):=by
   simp [inV,eqV_int,Bool.decide_or]
   congr 1 <;> exact decide_eq_decide.mpr ⟨Eq.symm,Eq.symm⟩
  by_cases c4:g=M.2.lo\/g=M.2.hi
  rotate_left
  ·exact iteB1 (by show (!inV (V.int g) [V.int M.2.lo,V.int M.2.hi])=true;rw [eV,decide_eq_false c4];rfl) (qE 3 (by rw [ce];unfold codeP2;rw [if_neg c4]) (by decide) _ s1)
  refine iteB0 (by show (!inV (V.int g) [V.int M.2.lo,V.int M.2.hi])=false;rw [eV,decide_eq_true c4];rfl) ?_
  refine (zr rfl ⟨t.x,_,t.dx,zr1 rfl ⟨k1.at_.ins,T.L_Trip,T.n_Trip_holders,rfl,zr rfl (ixl k1.at_.hol at1 ⟨.inr (.inr (.inl ⟨rfl,.inl ⟨_,hd1⟩⟩)),zr rfl ⟨h.1,zr2 rfl rfl ⟨DGet.k (k:=Sum.inl g) hd1,zr rfl ⟨kvget h.2 g,M.2.t,by rw [valV_kv];cases kvget h.2 g <;> rfl,zr rfl ?_⟩⟩⟩⟩)⟩⟩)
  cases c5:below (kvget h.2 g) M.2.t with
  | false=>exact iteB1 rfl (qE 4 (by rw [ce];unfold codeP2;rw [if_pos c4,if_neg (by rw [c5];exact zG)]) (by decide) _ s1)
  | true=>
  refine iteB0 rfl (zr rfl ⟨t.x,_,t.dx,zr1 rfl ⟨k1.at_.ins,T.L_Trip,T.n_Trip_book,rfl,zr rfl (zr rfl (ex8 t.b m g rooms tr tm ps M.2 ⟨rfl,k1.bk,hM,?_⟩))⟩⟩)
  refine (zr rfl (zr rfl ⟨t.x,_,t.dx,zr1 rfl ⟨k1.at_.ins,T.L_Trip,T.n_Trip_holders,rfl,zr rfl (ixl k1.at_.hol at1 ⟨h.1,zr rfl ⟨DGet.k (k:=Sum.inl (othI M.2 g)) hd1,zr rfl ?_⟩⟩)⟩⟩))
  rw [valV_kv,yI]
  cases c6:(kvget h.2 (othI M.2 g)).isSome with
  | true=>exact iteB1 rfl (qE 5 (by rw [ce];unfold codeP2;rw [if_pos c4,if_pos c5,if_pos c6]) (by decide) _ s1)
  | false=>
  have n6:¬ (kvget h.2 (othI M.2 g)).isSome=true:=by rw [c6];exact zG
  refine iteB0 rfl (zr rfl ⟨t.x,_,t.dx,zr1 rfl ⟨k1.at_.ins,T.L_Trip,T.n_Trip_passed,rfl,zr rfl (ixl k1.at_.pas at2 (zr rfl (zr2 rfl rfl (zr rfl (iteD (fun c7=>qE 6 (by rw [ce];unfold codeP2;rw [if_pos c4,if_pos c5,if_neg n6,if_pos c7]) (by decide) _ s1) fun c7=>?_)))))⟩⟩)
  have c7':¬ M.2.m<=n:=c7
  refine (zr rfl ⟨t.x,t.dx,zr rfl ⟨k1.at_.ins,rfl,zr rfl (zr rfl ⟨t.x,t.b,t.dx,t.lL,t.lH,t.lA,t.lP,t.lD,t.ls,t.hs,t.os,t.ns,t.r,t.ds,l,othI M.2 g,L,rfl,k1.at_,hL,fun H2 s2=>(zr rfl ?_)⟩)⟩⟩)
  have k2:=k1.same s2
  cases c8:(!(decide (othI M.2 g=L.2.s) || decide (othI M.2 g=L.2.w))) with
  | false=>exact iteB0 rfl (iteB0 rfl (q1 (by rw [ce];unfold codeP2;rw [if_pos c4,if_pos c5,if_neg n6,if_neg c7',if_neg (by show ¬ (takB L.2 (othI M.2 g) && _)=true;unfold takB;rw [c8];exact zG)]) _ (s1.trans s2)))
  | true=>
  have oi:=othI_in (g:=g) k.gd hM
  obtain ⟨o,eo⟩:=zO oi.1
  obtain ⟨rr,hrr⟩:∃ rr,rooms[o]?=some rr:=⟨_,zE (by omega)⟩
  have at3:atI (rooms.map V.int) (othI M.2 g)=some (V.int rr):=by rw [eo];exact xi (by rw [zC,hrr];rfl)
  refine iteB1 rfl (zr rfl ⟨t.x,t.dx,zr rfl ⟨k2.at_.ins,rfl,zr rfl ⟨t.x,t.b,t.dx,t.lL,t.lH,t.lA,t.lP,t.lD,t.ls,t.hs,t.os,t.ns,t.r,t.ds,othI M.2 g,rfl,k2.at_,by have:=k.lh;have:=k.few;omega,k.lh,fun lb H3 s3 fl hlb=>?_⟩⟩⟩)
  have k3:=k2.same s3
  refine ⟨lb,zr rfl ⟨.inl (SqL.of hlb),zr rfl ⟨t.x,_,t.dx,zr1 rfl ⟨k3.at_.ins,T.L_Trip,T.n_Trip_book,rfl,ixt k3.bk.book rfl (zr rfl (ixt k3.bk.rooms at3 (zr2 rfl rfl (zr rfl ?_))))⟩⟩⟩⟩
  rw [zA]
  have e7:(takB L.2 (othI M.2 g) && decide ((rooms[(othI M.2 g).toNat]?.getD 0)<=((bagTo (othI M.2 g) t.ls t.hs t.hs.length).length:Int)))=decide (rr<=((bagTo (othI M.2 g) t.ls t.hs t.hs.length).length:Int)):=by
   unfold takB
   rw [c8,eo,zF,hrr];rfl
  refine iteD (fun c9=>qE 7 (by rw [ce];unfold codeP2;rw [if_pos c4,if_pos c5,if_neg n6,if_neg c7',e7,if_pos (decide_eq_true c9)]) (by decide) _ ((s1.trans s2).trans s3)) fun c9=>?_
  exact q1 (by rw [ce];unfold codeP2;rw [if_pos c4,if_pos c5,if_neg n6,if_neg c7',e7,if_neg (by rw [decide_eq_false c9];exact zG)]) _ ((s1.trans s2).trans s3)
theorem sc_Trip_pass_on:FnScope ["self", "meeting", "letter", "giver", "other", "when"] ["self", "meeting", "letter", "giver"] (defScope s_Trip_pass_on):=⟨rfl,rfl,rfl,by decide +kernel,rfl,by decide +kernel,by decide +kernel⟩
theorem ok_Trip_pass_on (T:Tx K mg a t_MOST_TOKENS):FnOk P w K mg base CX0 2 a.a_Trip_pass_on a.d_Trip_pass_on ["self", "meeting", "letter", "giver"] (spPassOn9 a.c_Trip):=by
 have G_other_at:=@ok_other_at P w _ _ base _ _ T
 have G_Trip_note_arrival:=@ok_Trip_note_arrival P w _ _ base _ _ T
 refine T.F_Trip_pass_on.ok sc_Trip_pass_on (fun vs H Q E h=>?_) (fun cdv A outer s H vs Q E hr h=>?_)
 ·obtain ⟨_,_,_,_,_,_,_,_,_,_,_,rfl,_⟩:=h;rfl
 ·have nd:=sc_Trip_pass_on.nd
  have hu:=hr.units
  obtain ⟨t,m,l,g,M,L,rooms,tr,tm,ps,n0,rfl,k,hM,hL,hg,n2,q⟩:=h
  refine ⟨_,(xK (xW (xX (i:=4) nd rfl (by first | exact Or.inl rfl | exact Or.inr rfl) (xP G_other_at (hr.mono (by decide)) rfl T.m_other_at T.k_other_at T.i_other_at .nil pass0 (xF (xI (xj (pv 0) rfl) (xI (pv 1) (xI (pv 3) xM rfl) rfl) rfl)))) (xW (xX (i:=5) nd rfl (by first | exact Or.inl rfl | exact Or.inr rfl) (xS (xT rfl) (xS (xT rfl) (xS (xT rfl) (xj (pv 0) rfl) xG (fun _ _=>rfl)) (pv 1) (fun _ _=>rfl)) xG (fun _ _=>rfl))) (xW (ps_dput (Nat.lt_of_le_of_lt (Nat.add_le_add_left (by decide) _) hu) (xS (xY rfl) (xj (pv 0) rfl) (pv 2) (fun _ _=>rfl)) (pv 4) (pv 5) rfl) (xW (ps_augS (xj (pv 0) rfl) (pv 1) (get_list rfl) xG ip_add set_list) (xW (ps_fld (pv 0) (pv 1) rfl) (xf (wG (wD (pv 0) T.L_Trip T.M_Trip_note_arrival G_Trip_note_arrival (hr.mono (by decide)) T.i_Trip_note_arrival .nil pass0 (xF (xI (pv 2) (xI (pv 4) (xI (pv 5) xM rfl) rfl) rfl))))))))))),?_⟩
  have line:100002<=sizeLine:=by rw [sizeLine_eq];decide
  have hl:l < t.ls.length:=(zB.mp hL).1
  obtain ⟨h,hh,ek,hd⟩:=k.kvAt hl
  obtain ⟨p0,hp⟩:∃ p0,ps[m]?=some p0:=⟨_,zE (by have:=(zB.mp hM).1;simpa using this)⟩
  have eM:p0.2=M:=by rw [zC,hp] at hM;exact Option.some.inj hM
  subst eM
  obtain ⟨n,hn⟩:∃ n,t.ns[m]?=some n:=⟨_,zE (by have:=k.ln;have:=(zB.mp hp).1;omega)⟩
  have hrow:H p0.1=some (.tup p0.2.vs):=k.bk.rows p0 (zD hp)
  have atm:atI (ps.map fun a=>V.ref a.1) (m:Int)=some (V.ref p0.1):=xi (by rw [zC,hp];rfl)
  have at1:atI (t.hs.map fun h=>V.ref h.1) (l:Int)=some (V.ref h.1):=xi (by rw [zC,hh];rfl)
  have sh:=k.sh h (zD hh)
  refine (zr rfl ⟨t.x,_,t.dx,zr1 rfl ⟨k.at_.ins,T.L_Trip,T.n_Trip_book,rfl,zr rfl (zr rfl (ex8 t.b m g rooms tr tm ps p0.2 ⟨rfl,k.bk,hM,?_⟩))⟩⟩)
  refine (zr rfl ⟨t.x,_,t.dx,zr1 rfl ⟨k.at_.ins,T.L_Trip,T.n_Trip_book,rfl,ixt k.bk.book rfl (zr rfl (ixt k.bk.meets atm (ixt hrow rfl ?_)))⟩⟩)
  refine (zr rfl (zr rfl ⟨t.x,_,t.dx,zr1 rfl ⟨k.at_.ins,T.L_Trip,T.n_Trip_holders,rfl,zr rfl (ixl k.at_.hol at1 (zr rfl ⟨h.1,zr rfl ⟨DPut.k (k:=Sum.inl (othI p0.2 g)) hd (by unfold kvV;rw [zA];omega),?_⟩⟩))⟩⟩))
  rw [putK_kv]
  have k1:=(k.mono (yl n0)).hset hh (kv:=kvput h.2 (othI p0.2 g) p0.2.t) (by have:=kvput_len h.2 (othI p0.2 g) p0.2.t;omega)
  have kp1:=k.hkeep hh (o:=HO.dK (kvV (kvput h.2 (othI p0.2 g) p0.2.t)))
  generalize upd H h.1 (HO.dK (kvV (kvput h.2 (othI p0.2 g) p0.2.t)))=H1 at k1 kp1 ⊢
  have pas1:H1 t.lP=some (.lst (t.ns.map V.int)):=k1.at_.pas
  have l2:m < (t.ns.map V.int).length:=by rw [zA];exact (zB.mp hn).1
  refine (zr rfl ⟨t.x,_,t.dx,zr1 rfl ⟨k1.at_.ins,T.L_Trip,T.n_Trip_passed,rfl,zr rfl ⟨t.lP,_,_,m,rfl,rfl,SqL.of pas1,(by show (t.ns.map V.int)[m]?=some (V.int n);rw [zC,hn];rfl),zr2 rfl rfl ⟨t.lP,_,_,m,rfl,rfl,pas1,(by show ixN (t.ns.map V.int).length (m:Int)=some m;unfold ixN;rw [if_pos (by omega),if_pos (by omega)];simp),?_⟩⟩⟩⟩)
  have k2:TrOk a.c_Trip (upd H1 t.lP (.lst ((t.ns.set m (n + 1)).map V.int))) { t.setH l (kvput h.2 (othI p0.2 g) p0.2.t) with ns:=t.ns.set m (n + 1) } rooms tr tm ps (n0 + 1):=k1.pset (by rw [z8];exact k.ln)
  have kp2:Keeps t H1 (upd H1 t.lP (.lst ((t.ns.set m (n + 1)).map V.int))):=Keeps.put (.inr (.inr (.inl rfl)))
  rw [zw] at k2 kp2
  show tSeq _ _ _ _ (upd H1 t.lP (HO.lst ((t.ns.map V.int).set m (V.int (n + 1)))))
  generalize upd H1 t.lP (HO.lst ((t.ns.map V.int).set m (V.int (n + 1))))=H2 at k2 kp2 ⊢
  have i2:H2 t.x=some (.ins a.c_Trip t.dx [("book", .ref t.b),("letters", .ref t.lL),("holders", .ref t.lH),("arrivals", .ref t.lA),("passed", .ref t.lP),("reached", .int t.r),("deeds", .ref t.lD)]):=k2.at_.ins
  refine (zr rfl (zr rfl ⟨t.x,_,t.dx,zr rfl ⟨i2,T.L_Trip,T.n_Trip_reached,by show 7 < 1000;decide,?_⟩⟩))
  have k3:=k2.rset (r:=(m:Int))
  have kp3:Keeps t H2 (upd H2 t.x (.ins a.c_Trip t.dx [("book", .ref t.b),("letters", .ref t.lL),("holders", .ref t.lH),("arrivals", .ref t.lA),("passed", .ref t.lP),("reached", .int (m:Int)),("deeds", .ref t.lD)])):=Keeps.put (.inl rfl)
  have k3':TrOk a.c_Trip (upd H2 t.x (.ins a.c_Trip t.dx (putF "reached" (.int (m:Int)) [("book", .ref t.b),("letters", .ref t.lL),("holders", .ref t.lH),("arrivals", .ref t.lA),("passed", .ref t.lP),("reached", .int t.r),("deeds", .ref t.lD)]))) _ rooms tr tm ps (n0 + 1):=k3
  have kp3':Keeps t H2 (upd H2 t.x (.ins a.c_Trip t.dx (putF "reached" (.int (m:Int)) [("book", .ref t.b),("letters", .ref t.lL),("holders", .ref t.lH),("arrivals", .ref t.lA),("passed", .ref t.lP),("reached", .int t.r),("deeds", .ref t.lD)]))):=kp3
  have i3:upd H2 t.x (.ins a.c_Trip t.dx (putF "reached" (.int (m:Int)) [("book", .ref t.b),("letters", .ref t.lL),("holders", .ref t.lH),("arrivals", .ref t.lA),("passed", .ref t.lP),("reached", .int t.r),("deeds", .ref t.lD)])) t.x=some (.ins a.c_Trip t.dx [("book", .ref t.b),("letters", .ref t.lL),("holders", .ref t.lH),("arrivals", .ref t.lA),("passed", .ref t.lP),("reached", .int (m:Int)),("deeds", .ref t.lD)]):=xH
  refine (zr rfl ⟨t.x,t.dx,zr rfl ⟨i3,rfl,zr rfl (zr rfl (zr rfl ⟨_,_,_,_,_,_,_,_,_,_,_,_,_,_,l,othI p0.2 g,p0.2.t,L,rfl,k3'.at_,hL,by show l < t.os.length;rw [k.lo];exact hl,fun H4 b4 h4=>?_⟩))⟩⟩)
  have k4:=k3'.aset (os:=noteA t.os l L.2 (othI p0.2 g) p0.2.t) (by rw [noteA_len];exact k.lo) b4 h4
  refine q H4 (((kp1.trans kp2).trans kp3').trans (Keeps.but (.inr (.inl rfl)) b4)) ?_
  have e:t.passed m l p0.2 L.2 (othI p0.2 g)={ t.setH l (kvput h.2 (othI p0.2 g) p0.2.t) with ns:=t.ns.set m (n + 1),r:=(m:Int),os:=noteA t.os l L.2 (othI p0.2 g) p0.2.t }:=by
   unfold Tr.passed;rw [ek,hn];rfl
  rw [e]
  exact k4
theorem sc_Trip_do:FnScope ["self", "deed", "kind", "meeting", "letter", "giver", "walker"] ["self", "deed"] (defScope s_Trip_do):=⟨rfl,rfl,rfl,by decide +kernel,rfl,by decide +kernel,by decide +kernel⟩
theorem ok_Trip_do (T:Tx K mg a t_MOST_TOKENS):FnOk P w K mg base (CXE P w) 5 a.a_Trip_do a.d_Trip_do ["self", "deed"] (spDo9 a.c_Trip ⟨a.c_NoDeed,a.c_NoMeeting,a.c_NoLetter,a.c_NoWalker,a.c_NotThere,a.c_HasIt,a.c_NoPass,a.c_NoRoom⟩):=by
 have G_is_passing:=@ok_is_passing P w _ _ base _ _ T
 have G_is_drop:=@ok_is_drop P w _ _ base _ _ T
 have G_Trip_need_drop:=@ok_Trip_need_drop P w _ _ base _ _ T
 have G_Trip_need_passing:=@ok_Trip_need_passing P w _ _ base _ _ T
 have G_Trip_pass_on:=@ok_Trip_pass_on P w _ _ base _ _ T
 refine T.F_Trip_do.okE sc_Trip_do (fun vs H Q E h=>?_) (fun cdv A outer s H vs Q E hr h=>?_)
 ·obtain ⟨_,_,_,_,_,_,_,rfl,_⟩:=h;rfl
 ·have nd:=sc_Trip_do.nd
  have hu:=hr.units
  obtain ⟨t,y,rooms,tr,tm,ps,n0,rfl,k,n2,h⟩:=h
  refine ⟨_,(xK (xW (xh (wR (xP G_is_passing (hr.mono (by decide)) rfl T.m_is_passing T.k_is_passing T.i_is_passing .nil pass0 (xF (xI (pv 1) xM rfl)))) (xK (xW (PS.nox (wW (pv 1) (xw (n:=4) rfl rfl (xQ (xO (i:=2) nd rfl (by first | exact Or.inl rfl | exact Or.inr rfl)) (xQ (xO (i:=3) nd rfl (by first | exact Or.inl rfl | exact Or.inr rfl)) (xQ (xO (i:=4) nd rfl (by first | exact Or.inl rfl | exact Or.inr rfl)) (xQ (xO (i:=5) nd rfl (by first | exact Or.inl rfl | exact Or.inr rfl)) xv))))))) (xW (wG (wD (E:=E) (pv 0) T.L_Trip T.M_Trip_need_passing G_Trip_need_passing (hr.mono (by decide)) T.i_Trip_need_passing .nil (pass_on rfl rfl rfl (fun _ _ z=>z)) (xF (xI (pv 3) (xI (pv 4) (xI (pv 5) xM rfl) rfl) rfl)))) (xW (PS.nox (wG (wD (pv 0) T.L_Trip T.M_Trip_pass_on G_Trip_pass_on (hr.mono (by decide)) T.i_Trip_pass_on .nil pass0 (xF (xI (pv 3) (xI (pv 4) (xI (pv 5) xM rfl) rfl) rfl))))) (xf (PS.nox (xh (xV wE (pv 2) pe_str (nomark _)) (xK (xf (ps_ddel (xS (xY rfl) (xj (pv 0) rfl) (pv 4) (fun _ _=>rfl)) (pv 5)))) xZ))))))) (xK (xf (xh (wR (xP G_is_drop (hr.mono (by decide)) rfl T.m_is_drop T.k_is_drop T.i_is_drop .nil pass0 (xF (xI (pv 1) xM rfl)))) (xK (xW (PS.nox (wW (pv 1) (xw (n:=3) rfl rfl (xQ (xO (i:=2) nd rfl (by first | exact Or.inl rfl | exact Or.inr rfl)) (xQ (xO (i:=4) nd rfl (by first | exact Or.inl rfl | exact Or.inr rfl)) (xQ (xO (i:=6) nd rfl (by first | exact Or.inl rfl | exact Or.inr rfl)) xv)))))) (xW (wG (wD (E:=E) (pv 0) T.L_Trip T.M_Trip_need_drop G_Trip_need_drop (hr.mono (by decide)) T.i_Trip_need_drop .nil (pass_on rfl rfl rfl (fun _ _ z=>z)) (xF (xI (pv 4) (xI (pv 6) xM rfl) rfl)))) (xf (PS.nox (ps_ddel (xS (xY rfl) (xj (pv 0) rfl) (pv 4) (fun _ _=>rfl)) (pv 6))))))) (xK (xf (wF rfl rfl rfl rfl rfl T.m_NoDeed T.x_NoDeed))))))) (xf (PS.nox (wG (pe_bm yM yJ yK mt_append (xj (pv 0) rfl) (xF (xI (pv 1) xM rfl)))))))),?_⟩
  have line:100002<=sizeLine:=by rw [sizeLine_eq];decide
  rcases h with ⟨d,⟨p,rfl,hd⟩,q1,q2⟩ | ⟨p,xs,rfl,hp,q⟩
  ·cases d with
   | drop l w0=>
    refine (zr rfl (zr rfl (.inl ⟨.drop l w0,⟨p,rfl,hd⟩,fun H1 s1=>(zr rfl (iteB0 rfl (zr rfl (zr rfl (.inl ⟨l,w0,⟨p,rfl,s1 _ _ hd⟩,fun H2 s2=>(zr rfl (iteB1 rfl ?_))⟩)))))⟩)))
    have s12:=s1.trans s2
    have hd2:=s12 _ _ hd
    have k2:=k.same s12
    refine (zr rfl (un3 hd2 ?_))
    refine (zr rfl ⟨t.x,t.dx,zr rfl ⟨k2.at_.ins,rfl,zr rfl (zr rfl (ex8 t l w0 rooms tr tm ps n0 ⟨rfl,k2,fun c=>?_,fun c=>q2 c H2 s12⟩))⟩⟩)
    obtain ⟨l,h,rfl,hl,hh,hw,_,_⟩:=codeD8 c
    obtain ⟨h',hh',ek,hd3⟩:=k2.kvAt hl
    rw [hh] at hh';cases hh'
    have at1:atI (t.hs.map fun h=>V.ref h.1) (l:Int)=some (V.ref h.1):=xi (by rw [zC,hh];rfl)
    refine (zr rfl ⟨t.x,_,t.dx,zr1 rfl ⟨k2.at_.ins,T.L_Trip,T.n_Trip_holders,rfl,zr rfl (ixl k2.at_.hol at1 (zr rfl ⟨h.1,_,Sum.inl w0,rfl,hd3,rfl,(by rw [valV_kv,yI];exact hw),?_⟩))⟩⟩)
    rw [dropK_kv]
    have k3:=(k2.mono (yl n0)).hset hh (kv:=kvdel h.2 w0) (by have:=kvdel_len h.2 w0;have:=k.sh h (zD hh);omega)
    have kp3:=(Keeps.same s12).trans (k2.hkeep hh (o:=HO.dK (kvV (kvdel h.2 w0))))
    generalize upd H2 h.1 (HO.dK (kvV (kvdel h.2 w0)))=H3 at k3 kp3 ⊢
    refine (zr rfl ⟨t.x,_,t.dx,zr1 rfl ⟨k3.at_.ins,T.L_Trip,T.n_Trip_deeds,rfl,.inl ⟨rfl,_,SqL.of k3.at_.dee⟩,zr rfl ⟨t.lD,t.ds,zr rfl ⟨rfl,k3.at_.dee,by have:=k.dn;omega,?_⟩⟩⟩⟩)
    refine q1 c _ (kp3.trans (Keeps.put (.inr (.inr (.inr (.inl rfl)))))) ?_
    have kZ:TrOk a.c_Trip (upd H3 t.lD (.lst (t.ds ++ [V.ref p]))) { t.setH l (kvdel h.2 w0) with ds:=t.ds ++ [V.ref p] } rooms tr tm ps (n0 + 1):=k3.dset (by have:=k.dn;show t.ds.length < n0 + 1;omega)
    have e:t.doneT (ps.map (·.2)) (V.ref p) (.drop (l:Int) w0)={ t.setH l (kvdel h.2 w0) with ds:=t.ds ++ [V.ref p] }:=by
     unfold Tr.doneT;dsimp only;rw [zF,ek]
    rw [e];exact kZ
   | pass gv m l g=>
    refine (zr rfl (zr rfl (.inl ⟨.pass gv m l g,⟨p,rfl,hd⟩,fun H1 s1=>(zr rfl (iteB1 rfl ?_))⟩)))
    have hd1:=s1 _ _ hd
    have k1:=k.same s1
    refine (zr rfl (un4 hd1 ?_))
    refine (zr rfl ⟨t.x,t.dx,zr rfl ⟨k1.at_.ins,rfl,zr rfl (zr rfl (zr rfl (ex9 t m l g rooms tr tm ps n0 ⟨rfl,k1,fun c H2 s2=>?_,fun c H2 s2=>q2 c H2 (s1.trans s2)⟩)))⟩⟩)
    obtain ⟨m,l,M,L,h,rfl,rfl,hM,hL,hh,hr',hg,hb,ho,_⟩:=codeP8 k.lh c
    have k2:=k1.same s2
    refine (zr rfl ⟨t.x,t.dx,zr rfl ⟨k2.at_.ins,rfl,zr rfl (zr rfl (zr rfl (ex11 t m l g M L rooms tr tm ps n0 ⟨rfl,k2,hM,hL,hg,n2,fun H3 kp3 k3=>?_⟩)))⟩⟩)
    have kp:=(Keeps.same (s1.trans s2)).trans kp3
    have eT:∀ gv,t.doneT (ps.map (·.2)) (V.ref p) (.pass gv (m:Int) (l:Int) g)={ t.doneP gv m l g M L.2 with ds:=t.ds ++ [V.ref p] }:=fun gv=>by
     unfold Tr.doneT;dsimp only;rw [zF,zF,hM,hL]
    refine (zr rfl ⟨rfl,zr rfl ?_⟩)
    cases gv with
    | false=>
     refine iteB0 rfl ?_
     refine (zr rfl ⟨t.x,_,t.dx,zr1 rfl ⟨k3.at_.ins,T.L_Trip,T.n_Trip_deeds,rfl,.inl ⟨rfl,_,SqL.of k3.at_.dee⟩,zr rfl ⟨t.lD,t.ds,zr rfl ⟨rfl,k3.at_.dee,by have:=k.dn;omega,?_⟩⟩⟩⟩)
     refine q1 c _ (kp.trans (Keeps.put (.inr (.inr (.inr (.inl rfl)))))) ?_
     have kZ:TrOk a.c_Trip (upd H3 t.lD (.lst (t.ds ++ [V.ref p]))) { t.passed m l M L.2 (othI M g) with ds:=t.ds ++ [V.ref p] } rooms tr tm ps (n0 + 1):=k3.dset (by have:=k.dn;show t.ds.length < n0 + 1;omega)
     rw [eT];exact kZ
    | true=>
     have pk:=passed_kv (m:=m) (M:=M) (L:=L.2) (o:=othI M g) (C:=a.c_Trip) (H:=H) (rooms:=rooms) (tr:=tr) (tm:=tm) (ps:=ps) (n0:=n0) hh
     have lp:l < (t.passed m l M L.2 (othI M g)).ls.length:=(zB.mp hL).1
     obtain ⟨h',hh',ek,hd3⟩:=k3.kvAt lp
     rw [pk.1] at hh';cases hh'
     have at1:atI ((t.passed m l M L.2 (othI M g)).hs.map fun h=>V.ref h.1) (l:Int)=some (V.ref h.1):=xi (by rw [zC,pk.1];rfl)
     refine iteB1 rfl (zr rfl ⟨t.x,_,t.dx,zr1 rfl ⟨k3.at_.ins,T.L_Trip,T.n_Trip_holders,rfl,zr rfl (ixl k3.at_.hol at1 (zr rfl ⟨h.1,_,Sum.inl g,rfl,hd3,rfl,(by rw [valV_kv,yI,kvget_put];split;rfl;exact below_some hb),?_⟩))⟩⟩)
     rw [dropK_kv]
     have k4:=k3.hset pk.1 (kv:=kvdel (kvput h.2 (othI M g) M.t) g) (by have:=kvdel_len (kvput h.2 (othI M g) M.t) g;have:=kvput_len h.2 (othI M g) M.t;have:=k.sh h (zD hh);omega)
     have kp4:Keeps t H (upd H3 h.1 (HO.dK (kvV (kvdel (kvput h.2 (othI M g) M.t) g)))):=kp.trans (Keeps.put (.inr (.inr (.inr (.inr (zM.mpr ⟨h,zD hh,rfl⟩))))))
     have k4':TrOk a.c_Trip (upd H3 h.1 (HO.dK (kvV (kvdel (kvput h.2 (othI M g) M.t) g)))) ((t.passed m l M L.2 (othI M g)).setH l (kvdel (kvput h.2 (othI M g) M.t) g)) rooms tr tm ps (n0 + 1):=k4
     generalize upd H3 h.1 (HO.dK (kvV (kvdel (kvput h.2 (othI M g) M.t) g)))=H4 at k4' kp4 ⊢
     refine (zr rfl ⟨t.x,_,t.dx,zr1 rfl ⟨k4'.at_.ins,T.L_Trip,T.n_Trip_deeds,rfl,.inl ⟨rfl,_,SqL.of k4'.at_.dee⟩,zr rfl ⟨t.lD,t.ds,zr rfl ⟨rfl,k4'.at_.dee,by have:=k.dn;omega,?_⟩⟩⟩⟩)
     refine q1 c _ (kp4.trans (Keeps.put (.inr (.inr (.inr (.inl rfl)))))) ?_
     have kZ:TrOk a.c_Trip (upd H4 t.lD (.lst (t.ds ++ [V.ref p]))) { (t.passed m l M L.2 (othI M g)).setH l (kvdel (kvput h.2 (othI M g) M.t) g) with ds:=t.ds ++ [V.ref p] } rooms tr tm ps (n0 + 1):=k4'.dset (by have:=k.dn;show t.ds.length < n0 + 1;omega)
     rw [eT]
     have eP:t.doneP true m l g M L.2=(t.passed m l M L.2 (othI M g)).setH l (kvdel (kvput h.2 (othI M g) M.t) g):=by
      unfold Tr.doneP;rw [if_pos rfl,pk.2]
     rw [eP];exact kZ
  ·exact (zr rfl (zr rfl (.inr ⟨p,xs,rfl,hp,zr rfl (iteB0 rfl (zr rfl (zr rfl (.inr ⟨p,xs,rfl,hp,zr rfl (iteB0 rfl q)⟩))))⟩)))
theorem sc_lone_holder:FnScope ["book", "meeting", "row", "one", "other", "when", "many"] ["book", "meeting", "row"] (defScope s_lone_holder):=⟨rfl,rfl,rfl,by decide +kernel,rfl,by decide +kernel,by decide +kernel⟩
theorem ok_lone_holder (T:Tx K mg a t_MOST_TOKENS):FnOk P w K mg base CX0 1 a.a_lone_holder a.d_lone_holder ["book", "meeting", "row"] (spLoneH):=by
 refine T.F_lone_holder.ok sc_lone_holder (fun vs H Q E h=>?_) (fun cdv A outer s H vs Q E hr h=>?_)
 ·obtain ⟨_,_,_,_,_,_,_,_,_,rfl,_⟩:=h;rfl
 ·have nd:=sc_lone_holder.nd
  have hu:=hr.units
  obtain ⟨b,m,row,os,M,rooms,tr,tm,ps,rfl,hb,gd,hM,hrow,los,q⟩:=h
  refine ⟨_,(xK (xW (wW (xS (xT rfl) (xS (xT rfl) (pv 0) xG (fun _ _=>rfl)) (pv 1) (fun _ _=>rfl)) (xw (n:=4) rfl rfl (xQ (xO (i:=3) nd rfl (by first | exact Or.inl rfl | exact Or.inr rfl)) (xQ (xO (i:=4) nd rfl (by first | exact Or.inl rfl | exact Or.inr rfl)) (xQ (xO (i:=5) nd rfl (by first | exact Or.inl rfl | exact Or.inr rfl)) (xQ (xO (i:=6) nd rfl (by first | exact Or.inl rfl | exact Or.inr rfl)) xv)))))) (xW (xh (xV wE (pe_cmp (pc_isN (xS (xY rfl) (pv 2) (pv 3) (fun _ _=>rfl)))) (pe_cmp (pc_isN (xS (xY rfl) (pv 2) (pv 4) (fun _ _=>rfl)))) (nomark _)) (xK (xf (xb pe_non))) xZ) (xf (xb (pe_ifExp (pt_cmp (pc_isN (xS (xY rfl) (pv 2) (pv 3) (fun _ _=>rfl)))) (pv 4) (pv 3))))))),?_⟩
  have line:=line9
  obtain ⟨p0,hp⟩:∃ p0,ps[m]?=some p0:=⟨_,zE (by have:=(zB.mp hM).1;simpa using this)⟩
  have eM:p0.2=M:=by rw [zC,hp] at hM;exact Option.some.inj hM
  subst eM
  have hrowM:H p0.1=some (.tup p0.2.vs):=hb.rows p0 (zD hp)
  have atm:atI (ps.map fun a=>V.ref a.1) (m:Int)=some (V.ref p0.1):=xi (by rw [zC,hp];rfl)
  have ge:=gd.each p0.2 (zD hM)
  have at_:∀ w:Int,0<=w->w < rooms.length->atI (os.map oV) w=some (oV (oAt os w)):=fun w w0 w1=>by
   obtain ⟨n,rfl⟩:=zO w0
   refine xi ?_
   rw [zC]
   unfold oAt
   rw [zF,zE (by omega)];rfl
  have a1:=at_ p0.2.lo (by omega) (by omega)
  have a2:=at_ p0.2.hi (by omega) (by omega)
  refine (zr rfl (ixt hb.book rfl (zr rfl (ixt hb.meets atm (un4 hrowM ?_)))))
  have ql:∀ v,loneH p0.2 os=v->Q (oV v) H:=fun v e=>by rw [<-e];exact q
  unfold loneH at ql
  cases e1:oAt os p0.2.lo with
  | none=>
   rw [e1] at a1 ql
   cases e2:oAt os p0.2.hi with
   | none=>
    rw [e2] at a2 ql
    exact (zr rfl (zr rfl (ixl hrow a1 (zr rfl (zr rfl (ixl hrow a2 ⟨rfl,zr rfl (iteB1 rfl (ql none rfl))⟩))))))
   | some y=>
    rw [e2] at a2 ql
    exact (zr rfl (zr rfl (ixl hrow a1 (zr rfl (zr rfl (ixl hrow a2 ⟨rfl,zr rfl (iteB0 rfl (zr rfl (zr rfl (ixl hrow a1 (zr rfl (iteB1 rfl (zr rfl (ql (some p0.2.hi) rfl))))))))⟩))))))
  | some x=>
   rw [e1] at a1 ql
   cases e2:oAt os p0.2.hi with
   | none=>
    rw [e2] at a2 ql
    exact (zr rfl (zr rfl (ixl hrow a1 (zr rfl (zr rfl (ixl hrow a2 ⟨rfl,zr rfl (iteB0 rfl (zr rfl (zr rfl (ixl hrow a1 (zr rfl (iteB0 rfl (zr rfl (ql (some p0.2.lo) rfl))))))))⟩))))))
   | some y=>
    rw [e2] at a2 ql
    exact (zr rfl (zr rfl (ixl hrow a1 (zr rfl (zr rfl (ixl hrow a2 ⟨rfl,zr rfl (iteB1 rfl (ql none rfl))⟩))))))
theorem sc_is_done:FnScope ["trip", "deed"] ["trip", "deed"] (defScope s_is_done):=⟨rfl,rfl,rfl,by decide +kernel,rfl,by decide +kernel,by decide +kernel⟩
theorem ok_is_done (T:Tx K mg a t_MOST_TOKENS):FnOk P w K mg base CX0 6 a.a_is_done a.d_is_done ["trip", "deed"] (spIsDone a.c_Trip):=by
 have G_Trip_do:=@ok_Trip_do P w _ _ base _ _ T
 refine T.F_is_done.ok sc_is_done (fun vs H Q E h=>?_) (fun cdv A outer s H vs Q E hr h=>?_)
 ·obtain ⟨_,_,_,_,_,_,_,_,rfl,_⟩:=h;rfl
 ·have nd:=sc_is_done.nd
  have hu:=hr.units
  obtain ⟨t,y,d,rooms,tr,tm,ps,n0,rfl,k,n9,hd,cs,q1,q2⟩:=h
  refine ⟨_,(xK (xW (ps_try3 rfl (psx_meth (pv 0) T.L_Trip T.M_Trip_do G_Trip_do (hr.mono (by decide)) T.i_Trip_do .nil (xF (xI (pv 1) xM rfl))) rfl rfl rfl T.m_NotThere rfl T.m_NoPass rfl T.m_NoRoom (fun _=>(xK (xf (xb pe_bl))))) (xf (xb pe_bl)))),?_⟩
  have line:=line9
  refine (zr rfl ⟨t.x,t.dx,zr rfl ⟨k.at_.ins,rfl,zr rfl (ex7 t y rooms tr tm ps n0 ⟨rfl,k,n9,.inl ⟨d,hd,fun c H1 kp k1=>q1 c H1 kp k1,fun c H1 s1=>?_⟩⟩)⟩⟩)
  rcases cs with e | e | e | e
  ·rw [e];exact ⟨T.f_d4,zr rfl (q2 c H1 s1)⟩
  ·rw [e];exact ⟨T.f_d6,zr rfl (q2 c H1 s1)⟩
  ·rw [e];exact ⟨T.f_d7,zr rfl (q2 c H1 s1)⟩
  ·exact absurd e c
theorem sc_times_of:FnScope ["book", "having", "since"] ["book", "having"] (defScope s_times_of):=⟨rfl,rfl,rfl,by decide +kernel,rfl,by decide +kernel,by decide +kernel⟩
theorem ok_times_of (T:Tx K mg a t_MOST_TOKENS):FnOk P w K mg base CX0 1 a.a_times_of a.d_times_of ["book", "having"] (spTimesOf):=by
 refine T.F_times_of.ok sc_times_of (fun vs H Q E h=>?_) (fun cdv A outer s H vs Q E hr h=>?_)
 ·obtain ⟨_,_,_,_,_,_,_,_,rfl,_⟩:=h;rfl
 ·have nd:=sc_times_of.nd
  have hu:=hr.units
  obtain ⟨b,l,qs,kv,rooms,tr,tm,ps,rfl,hb,rm,hl,hq,pm,knd,q⟩:=h
  refine ⟨_,(xK (xW (xX (i:=2) nd rfl (by first | exact Or.inl rfl | exact Or.inr rfl) (wC (call_dictP rfl rfl) (by rfl) T.b_dict PyProof.Rows.boot_dict (xF (xI (pv 1) xM rfl)))) (xf (xb (pe_comp (own:=["walker"]) (caps:=[2]) rfl (show CompScope ["walker"] [2] ["book", "having", "since"] (defScope s_times_of) _ from ⟨rfl,by decide +kernel,by decide +kernel,by decide +kernel,by decide +kernel⟩) (wH rfl T.b_range (xF (xI (xU (xR rfl) (by rfl) T.b_len PySem.boot_len (xF (xI (xS (xT rfl) (pv 0) xG (fun _ _=>rfl)) xM rfl))) xM rfl))) (fun _ _ _ _=>(xO (i:=0) (show List.Nodup (["walker", "since"]:List Str) from by decide +kernel) rfl (by first | exact Or.inl rfl | exact Or.inr rfl))) (fun _ _ _ _=>wX) (fun _ _ _ _=>(pe_bmK rfl PySem.F.plainAttrs_dict PySem.F.slot_dict_get PySem.F.type_dict_get (mt_dget (by exact hu)) (pv 1) (xF (xI (pv 0) xM rfl))))))))),?_⟩
  have line:=line9
  have h2:∀ x ∈ qs,∃ i j,x.2=[i,j]:=fun x hx=>by
   obtain ⟨pr,_,e⟩:=zM.mp (pm.mem_iff.mp (zM.mpr ⟨x,hx,rfl⟩))
   exact ⟨_,_,e.symm⟩
  obtain ⟨sv,esv⟩:∃ sv:List (Int × Int),qs.map (·.2)=sv.map fun p=>[p.1,p.2]:=by
   refine ⟨qs.map fun x=>(x.2[0]?.getD 0,x.2[1]?.getD 0),?_⟩
   rw [zX]
   refine yF fun x hx=>?_
   obtain ⟨i,j,e⟩:=h2 x hx
   show x.2=[x.2[0]?.getD 0,x.2[1]?.getD 0]
   rw [e];rfl
  have psv:sv.Perm kv:=by
   rw [esv] at pm
   have:=pm.map (fun x:List Int=>(x[0]?.getD 0,x[1]?.getD 0))
   rw [zX,zX] at this
   have e1:∀ xs:List (Int × Int),xs.map ((fun x:List Int=>(x[0]?.getD 0,x[1]?.getD 0)) ∘ fun p=>[p.1,p.2])=xs:=fun xs=>List.map_id' xs
   rw [e1,e1] at this
   exact this
  have ndv:(sv.map (·.1)).Nodup:=((psv.map (·.1)).nodup_iff).mpr knd
  refine (zr rfl ⟨l,qs.map fun x=>(x.1,x.2[0]?.getD 0,V.int (x.2[1]?.getD 0)),rfl,by rw [zX];exact SqL.of hl,fun z hz=>?_,fun p hp=>?_⟩)
  ·obtain ⟨x,hx,rfl⟩:=zM.mp hz
   have:=hq x hx
   obtain ⟨i,j,e⟩:=h2 x hx
   rw [e] at this ⊢
   exact SqT.of this
  have em:((qs.map fun x=>(x.1,x.2[0]?.getD 0,V.int (x.2[1]?.getD 0))).map fun k=>((Sum.inl k.2.1:Key),k.2.2))=sv.map fun p=>(Sum.inl p.1,V.int p.2):=by
   have e3:=congrArg (List.map fun x:List Int=>((Sum.inl (x[0]?.getD 0):Key),V.int (x[1]?.getD 0))) esv
   rw [zX,zX] at e3
   rw [zX]
   exact e3
  rw [em,show ([]:List (Key × V))=kvV [] from rfl,merge_kv]
  have s1:=xL (o:=HO.dK (kvV (kvAll [] sv))) hp
  have k1:upd H p (HO.dK (kvV (kvAll [] sv))) p=some (.dK (kvV (kvAll [] sv))):=xH
  generalize upd H p (HO.dK (kvV (kvAll [] sv)))=H1 at s1 k1 ⊢
  have hb1:=hb.same s1
  have gv:∀ w:Int,kvget (kvAll [] sv) w=kvget kv w:=fun w=>by
   rw [kvget_all ndv,kvget_perm psv knd]
   cases kvget kv w <;> rfl
  refine (zr rfl (ixt hb1.book rfl ⟨tr,zr rfl ⟨.inr (SqT.of hb1.rooms),zr rfl ⟨by omega,by rw [zA];omega,?_⟩⟩⟩))
  refine comp_range (lo:=0) (m:=(rooms.map V.int).length) (fun i τ acc H6=>(∃ t0,τ=[t0,some (.ref p)])/\acc=(tmsOf i kv).map oV/\H1=H6) ⟨⟨_,rfl⟩,rfl,rfl⟩ (by rw [zA];omega) ?_ ?_ ?_
  ·rintro i τ acc H6 ⟨_,rfl,_⟩
   unfold tmsOf
   rw [zA,zA,zv];exact zJ _
  ·rintro i τ acc H6 C hi ⟨⟨t0,rfl⟩,rfl,rfl⟩ hC
   rw [xE]
   refine (zr rfl ⟨.inr (.inr (.inl ⟨rfl,.inl ⟨_,k1⟩⟩)),zr rfl ⟨p,zr2 rfl rfl ⟨DGet.k (k:=Sum.inl (i:Int)) k1,hC _ _ _ ⟨⟨_,rfl⟩,?_,rfl⟩⟩⟩⟩)
   rw [valV_kv,gv]
   unfold tmsOf
   rw [yt,zN,zN]
   congr 1
   show [_]=[oV (kvget kv (i:Int))]
   cases kvget kv (i:Int) <;> rfl
  rintro τ acc H6 ⟨_,rfl,rfl⟩ lr hlr
  rw [zA]
  exact q lr _ (s1.trans (xL hlr)) (s1.free hlr) xH
theorem sc_run:FnScope ["book", "letters", "rule", "trip", "tokens", "meeting", "number", "letter", "giver", "other", "share", "times"] ["book", "letters", "rule"] (defScope s_run):=⟨rfl,rfl,rfl,by decide +kernel,rfl,by decide +kernel,by decide +kernel⟩
theorem ok_run (T:Tx K mg a t_MOST_TOKENS):FnOk P w K mg base CX0 7 a.a_run a.d_run ["book", "letters", "rule"] (spRunX a.c_Trip a.c_AllMet a.c_Halves a.c_Nearer):=by
 have G_other_at:=@ok_other_at P w _ _ base _ _ T
 have G_lone_row:=@ok_lone_row P w _ _ base _ _ T
 have G_AllMet_at_first:=@ok_AllMet_at_first P w _ _ base _ _ T
 have G_AllMet_share:=@ok_AllMet_share P w _ _ base _ _ T
 have G_Halves_at_first:=@ok_Halves_at_first P w _ _ base _ _ T
 have G_Halves_share:=@ok_Halves_share P w _ _ base _ _ T
 have G_Nearer_at_first:=@ok_Nearer_at_first P w _ _ base _ _ T
 have G_Nearer_share:=@ok_Nearer_share P w _ _ base _ _ T
 have G_Trip___init__:=@ok_Trip___init__ P w _ _ base _ _ T
 have G_Trip_having:=@ok_Trip_having P w _ _ base _ _ T
 have G_Trip_done:=@ok_Trip_done P w _ _ base _ _ T
 have G_lone_holder:=@ok_lone_holder P w _ _ base _ _ T
 have G_is_done:=@ok_is_done P w _ _ base _ _ T
 have G_times_of:=@ok_times_of P w _ _ base _ _ T
 refine T.F_run.ok sc_run (fun vs H Q E h=>?_) (fun cdv A outer s H vs Q E hr h=>?_)
 ·obtain ⟨_,_,_,_,_,_,_,_,_,rfl,_⟩:=h;rfl
 ·have nd:=sc_run.nd
  have hu:=hr.units
  obtain ⟨b,ll,r,ls,rooms,tr,tm,ps,d0,rfl,hb,rm1,rm12,rm0,gd,hll0,n41,lbd,hr0,q⟩:=h
  refine ⟨_,(xK (xW (xh (PW.pt (pw_and (wR (xU (call_isO rfl) (by rfl) T.b_isinstance zm (xF (xI (pv 2) (xI (pe_glob (v:=V.ref a.c_Nearer) (by rfl) T.m_Nearer rfl) xM rfl) rfl)))) (pw_and1 (xV op_ne (xU (xR rfl) (by rfl) T.b_len PySem.boot_len (xF (xI (xS (xT rfl) (xj (pv 2) rfl) xG (fun _ _=>rfl)) xM rfl))) (xU (xR rfl) (by rfl) T.b_len PySem.boot_len (xF (xI (xS (xT rfl) (pv 0) xG (fun _ _=>rfl)) xM rfl))) (nomark _))))) (xK (xf ps_never)) xZ) (xW (xX (i:=3) nd rfl (by first | exact Or.inl rfl | exact Or.inr rfl) (pe_make T.Y_Trip G_Trip___init__ (hr.mono (by decide)) rfl T.m_Trip T.i_Trip___init__ .nil pass0 (xF (xI (pv 0) (xI (pv 1) xM rfl) rfl)))) (xW (ps_setComp (ix:=4) nd rfl (by first | exact Or.inl rfl | exact Or.inr rfl) (own:=["letter"]) (caps:=[0,2]) rfl (show CompScope ["letter"] [0,2] ["book", "letters", "rule", "trip", "tokens", "meeting", "number", "letter", "giver", "other", "share", "times"] (defScope s_run) _ from ⟨rfl,by decide +kernel,by decide +kernel,by decide +kernel,by decide +kernel⟩) (pi_list' rfl (pv 1)) (fun _ _ _ _=>(xO (i:=0) (show List.Nodup (["letter", "book", "rule"]:List Str) from by decide +kernel) rfl (by first | exact Or.inl rfl | exact Or.inr rfl))) (fun _ _ _ _=>wX) (fun _ _ _ _=>(xP G_lone_row (hr.mono (by decide)) rfl T.m_lone_row T.k_lone_row T.i_lone_row .nil pass0 (xF (xI (pv 1) (xI (xS (xT rfl) (pv 0) xG (fun _ _=>rfl)) (xI (pe_two (pe_meth0 (pv 2) T.L_AllMet T.M_AllMet_at_first G_AllMet_at_first (hr.mono (by decide)) T.i_AllMet_at_first .nil pass0) (pe_two (pe_meth0 (pv 2) T.L_Halves T.M_Halves_at_first G_Halves_at_first (hr.mono (by decide)) T.i_Halves_at_first .nil pass0) (pe_meth0 (pv 2) T.L_Nearer T.M_Nearer_at_first G_Nearer_at_first (hr.mono (by decide)) T.i_Nearer_at_first .nil pass0))) xM rfl) rfl) rfl))))) (xW (ps_for PassesOwn.never rfl (wH rfl T.b_range (xF (xI (xU (xR rfl) (by rfl) T.b_len PySem.boot_len (xF (xI (xS (xT rfl) (pv 0) xG (fun _ _=>rfl)) xM rfl))) xM rfl))) (xO (i:=5) nd rfl (by first | exact Or.inl rfl | exact Or.inr rfl)) (xK (xf (ps_for PassesOwn.never rfl (pi_enumL rfl rfl T.b_enumerate (xF (xI (pv 1) xM rfl))) (xw (n:=2) rfl rfl (xQ (xO (i:=6) nd rfl (by first | exact Or.inl rfl | exact Or.inr rfl)) (xQ (xO (i:=7) nd rfl (by first | exact Or.inl rfl | exact Or.inr rfl)) xv))) (xK (xW (xX (i:=8) nd rfl (by first | exact Or.inl rfl | exact Or.inr rfl) (xP G_lone_holder (hr.mono (by decide)) rfl T.m_lone_holder T.k_lone_holder T.i_lone_holder .nil pass0 (xF (xI (pv 0) (xI (pv 5) (xI (xS (xY rfl) (pv 4) (pv 6) (fun _ _=>rfl)) xM rfl) rfl) rfl)))) (xW (xh (pt_cmp (pc_isN (pv 8))) (xK (xf ps_continue)) xZ) (xW (xX (i:=9) nd rfl (by first | exact Or.inl rfl | exact Or.inr rfl) (xP G_other_at (hr.mono (by decide)) rfl T.m_other_at T.k_other_at T.i_other_at .nil pass0 (xF (xI (pv 0) (xI (pv 5) (xI (pv 8) xM rfl) rfl) rfl)))) (xW (xX (i:=10) nd rfl (by first | exact Or.inl rfl | exact Or.inr rfl) (pe_two (wD (pv 2) T.L_AllMet T.M_AllMet_share G_AllMet_share (hr.mono (by decide)) T.i_AllMet_share .nil pass0 (xF (xI (pv 7) (xI (pv 8) (xI (pv 9) (xI (xS (xY rfl) (xS (xY rfl) (pv 4) (pv 6) (fun _ _=>rfl)) (pv 8) (fun _ _=>rfl)) xM rfl) rfl) rfl) rfl))) (pe_two (wD (pv 2) T.L_Halves T.M_Halves_share G_Halves_share (hr.mono (by decide)) T.i_Halves_share .nil pass0 (xF (xI (pv 7) (xI (pv 8) (xI (pv 9) (xI (xS (xY rfl) (xS (xY rfl) (pv 4) (pv 6) (fun _ _=>rfl)) (pv 8) (fun _ _=>rfl)) xM rfl) rfl) rfl) rfl))) (wD (pv 2) T.L_Nearer T.M_Nearer_share G_Nearer_share (hr.mono (by decide)) T.i_Nearer_share .nil pass0 (xF (xI (pv 7) (xI (pv 8) (xI (pv 9) (xI (xS (xY rfl) (xS (xY rfl) (pv 4) (pv 6) (fun _ _=>rfl)) (pv 8) (fun _ _=>rfl)) xM rfl) rfl) rfl) rfl)))))) (xf (xh (PW.pt (pw_and (pt_cmp (pc_notN (pv 10))) (pw_and1 (wR (xP G_is_done (hr.mono (by decide)) rfl T.m_is_done T.k_is_done T.i_is_done .nil pass0 (xF (xI (pv 3) (xI (xp (xF (xI pe_str (xI (pv 5) (xI (pv 6) (xI (pv 8) xM rfl) rfl) rfl) rfl))) xM rfl) rfl))))))) (xK (xW (wW (pv 10) (pg_sub (xS (xY rfl) (pv 4) (pv 6) (fun _ _=>rfl)) (pv 9) set_list)) (xf (ps_augS (xS (xY rfl) (pv 4) (pv 6) (fun _ _=>rfl)) (pv 8) (get_list rfl) (pv 10) ip_sub set_list)))) xZ))))))))))) (xW (ps_setComp (ix:=11) nd rfl (by first | exact Or.inl rfl | exact Or.inr rfl) (own:=["number"]) (caps:=[0,3]) rfl (show CompScope ["number"] [0,3] ["book", "letters", "rule", "trip", "tokens", "meeting", "number", "letter", "giver", "other", "share", "times"] (defScope s_run) _ from ⟨rfl,by decide +kernel,by decide +kernel,by decide +kernel,by decide +kernel⟩) (wH rfl T.b_range (xF (xI (xU (xR rfl) (by rfl) T.b_len PySem.boot_len (xF (xI (pv 1) xM rfl))) xM rfl))) (fun _ _ _ _=>(xO (i:=0) (show List.Nodup (["number", "book", "trip"]:List Str) from by decide +kernel) rfl (by first | exact Or.inl rfl | exact Or.inr rfl))) (fun _ _ _ _=>wX) (fun _ _ _ _=>(xP G_times_of (hr.mono (by decide)) rfl T.m_times_of T.k_times_of T.i_times_of .nil pass0 (xF (xI (pv 1) (xI (wD (pv 2) T.L_Trip T.M_Trip_having G_Trip_having (hr.mono (by decide)) T.i_Trip_having .nil pass0 (xF (xI (pv 0) xM rfl))) xM rfl) rfl))))) (xf (xb (xp (xF (xI (pe_meth0 (pv 3) T.L_Trip T.M_Trip_done G_Trip_done (hr.mono (by decide)) T.i_Trip_done .nil pass0) (xI (pv 11) (xI (pv 4) xM rfl) rfl) rfl))))))))))),?_⟩
  have line:100002<=sizeLine:=by rw [sizeLine_eq];decide
  obtain ⟨hll,hrw⟩:=hll0
  obtain ⟨CC,dC,fC,bb,hins,hoc,hkit,hpast⟩:∃ CC dC fC bb,H r=some (.ins CC dC fC)/\OCls K CC/\yN K (.ref CC) (.ref a.c_Nearer)=some bb/\(bb=true->CC=a.c_Nearer/\∃ pb rooms' tr' tm' ps',fC=[(Str.ofString "past", V.ref pb)]/\BookAt H pb rooms' tr' tm' ps'/\rooms'.length=rooms.length):=by
   rcases hr0.at with ⟨dx,e⟩ | ⟨k,⟨dx,e⟩,k1,k2⟩ | ⟨pb,rooms',tr',tm',ps',⟨dx,e⟩,hb',l,n⟩
   ·exact ⟨_,_,_,false,e,T.o_AllMet,T.f_na,fun z=>by cases z⟩
   ·exact ⟨_,_,_,false,e,T.o_Halves,T.f_nh,fun z=>by cases z⟩
   ·exact ⟨_,_,_,true,e,T.o_Nearer,T.f_nn,fun _=>⟨rfl,pb,rooms',tr',tm',ps',rfl,hb',l⟩⟩
  refine (zr rfl ⟨r,CC,dC,fC,_,bb,rfl,hins,hoc,rfl,hkit,zr rfl (iteA (fun σ H1=>σ=[some (.ref b),some (.ref ll),some (.ref r),none,none,none,none,none,none,none,none,none]/\H=H1) ?_ ?_ ?_)⟩)
  rotate_left
  ·intro c kk
   obtain ⟨rfl,pb,rooms',tr',tm',ps',rfl,hb',lr⟩:=hpast c
   refine (zr rfl ⟨r,_,dC,zr1 rfl ⟨hins,T.L_Nearer,T.n_Nearer_past,rfl,ixt hb'.book rfl ⟨tr',zr rfl ⟨.inr (SqT.of hb'.rooms),zr rfl (ixt hb.book rfl ⟨tr,zr rfl ⟨.inr (SqT.of hb.rooms),rfl,zr rfl (iteB0 (by rw [zA,zA,lr];simp) (kk _ _ ⟨rfl,rfl⟩))⟩⟩)⟩⟩⟩⟩)
  ·intro _
   exact ⟨rfl,rfl⟩
  rintro σ H1 ⟨rfl,rfl⟩
  refine (zr rfl (zr rfl (fun x dx nx ndx nex=>?_)))
  have sm2:Same H (upd (upd H dx (.own x)) x (.ins a.c_Trip dx [])):=same_two nx ndx nex
  refine (ex9 x dx b ll ls rooms tr tm ps ⟨rfl,xH,hb.same sm2,gd,by omega,sm2 _ _ hll,fun l hl=>sm2 _ _ (hrw l hl),n41,fun t H7 bt1 kt nt=>⟨rfl,?_⟩⟩)
  have s7:Same H H7:=But.same nx (xL ndx) (But.trans But.set bt1)
  have ft:∀ c,t.own c\/c=t.lL\/c=t.lH->H c=none:=fun c hc=>by
   rcases nt.fr c hc with z | z
   ·rw [z];exact nx
   ·exact sm2.free z
  obtain rfl:=nt.ex
  clear bt1 sm2 nx ndx nex
  have hll7:=s7 _ _ hll
  refine (zr rfl ⟨ll,rfl,⟨_,SqL.of hll7⟩,?_⟩)
  refine comp_list (K:=K) (a:=ll) (xs:=ls.map fun x=>V.ref x.1) (fun i τ acc H6=>∃ ts:List (Addr × List (Option Int)),(∃ t0,τ=[t0,some (.ref b),some (.ref r)])/\acc=(ts.map fun x=>V.ref x.1)/\ts.length=i/\Same H7 H6/\(∀ x ∈ ts,H7 x.1=none/\H6 x.1=some (.lst (x.2.map oV)))/\(ts.map (·.1)).Nodup/\∀ (j:Nat) x L,ts[j]?=some x->ls[j]?=some L->x.2=rep rooms.length (lone L.2.s d0.first)) ⟨[],⟨_,rfl⟩,rfl,rfl,Same.refl _,(fun _ z=>nomatch z),List.nodup_nil,fun _ _ _ z=>nomatch z⟩ (by rw [zA];omega) ?_ ?_ ?_
  ·rintro i τ acc H6 ⟨ts,_,rfl,l,s6,_⟩
   exact ⟨by rw [zA,l];exact zJ _,SqL.of (s6 _ _ hll7)⟩
  ·rintro i v τ acc H6 C hv ⟨ts,⟨t0,rfl⟩,rfl,l,s6,kts,ndt,ats⟩ hC
   obtain ⟨L,hL,rfl⟩:=xz hv
   have hrow:H6 L.1=some (.tup (letRow L.2)):=s6 _ _ (s7 _ _ (hrw L (zD hL)))
   have s06:=s7.trans s6
   refine (zr rfl (zr rfl (ixt hrow rfl ?_)))
   dsimp only [tCons]
   refine rule_firstX (hr0.same s06) rfl ?_
   refine (ex7 b L.2.s d0.first rooms tr tm ps ⟨rfl,hb.same s06,by omega,fun l9 H9 f9 s9 k9=>hC _ _ _ ⟨ts ++ [(l9,rep rooms.length (lone L.2.s d0.first))],⟨_,rfl⟩,by rw [zN];rfl,by rw [zT,l];rfl,s6.trans s9,fun x hx=>?_,?_,fun j x L' hx hL'=>?_⟩⟩)
   ·rcases zW.mp hx with h | h
    ·exact ⟨(kts x h).1,s9 _ _ (kts x h).2⟩
    ·rw [zI.mp h];exact ⟨s6.free f9,k9⟩
   ·rw [zN]
    refine List.nodup_append.mpr ⟨ndt,by simp,fun c hc d hd=>?_⟩
    obtain ⟨g,hg,rfl⟩:=zM.mp hc
    cases zI.mp hd
    exact xJ (kts g hg).2 f9
   ·by_cases hj:j < ts.length
    ·rw [List.getElem?_append_left hj] at hx
     exact ats j x L' hx hL'
    ·rw [z6 (by omega)] at hx
     obtain rfl:j=ts.length:=by
      have:=(zB.mp hx).1
      simp at this;omega
     rw [Nat.sub_self] at hx
     cases hx
     rw [l,hL] at hL';cases hL'
     rfl
  rintro τ acc HA ⟨ts,⟨t0,rfl⟩,rfl,lts,sA,kts,ndt,ats⟩ tl htl
  rw [zA] at lts
  have sB:=xL (o:=HO.lst (ts.map fun x=>V.ref x.1)) htl
  have ktl:upd HA tl (HO.lst (ts.map fun x=>V.ref x.1)) tl=some (.lst (ts.map fun x=>V.ref x.1)):=xH
  have sAB:=sA.trans sB
  have own:∀ c,H7 c=none->¬ (t.own c\/c=t.lL\/c=t.lH):=fun c z h=>(by obtain ⟨o,ho,_⟩:=kt.there h;rw [z] at ho;cases ho)
  have f:RunF H t tl (ts.map (·.1)):=by
   refine ⟨fun c z=>ft c (.inl z),own _ (sA.free htl),fun c hc=>?_,fun c hc=>?_,fun hc=>?_,ndt⟩
   ·obtain ⟨x,hx,rfl⟩:=zM.mp hc;exact own _ (kts x hx).1
   ·obtain ⟨x,hx,rfl⟩:=zM.mp hc;exact s7.free (kts x hx).1
   ·obtain ⟨x,hx,e⟩:=zM.mp hc
    have:=(kts x hx).2
    rw [e,htl] at this;cases this
  have w0:RunI a.c_Trip H (upd HA tl (HO.lst (ts.map fun x=>V.ref x.1))) t tl (ts.map (·.1)) t ts [] rooms tr tm ps ls 0:=
   ⟨s7.trans sAB,kt.same sAB,⟨rfl,rfl,rfl,rfl,rfl,rfl,rfl,rfl,rfl⟩,by rw [nt.er];decide,HistT.new nt gd (fun l hl=>(lbd l hl).1) fun w r hr=>rm0 r (zD hr),OsOk.new nt,TokOk.new nt.el nt.eh lts (fun j x L h1 h2=>⟨d0.first,(RuleD.first_b hr0).1,(RuleD.first_b hr0).2,ats j x L h1 h2⟩),nt.twin,trivial,nt.ed,(fun y hy=>by cases hy),ktl,fun x hx=>sB _ _ (kts x hx).2,rfl⟩
  have ftl:H tl=none:=(s7.trans sA).free htl
  generalize upd HA tl (HO.lst (ts.map fun x=>V.ref x.1))=HB at w0 ⊢
  have x0:RunX t ts [] (runTo rooms (ps.map (·.2)) d0 ls 0):=by
   refine ⟨by show Twin t (newTr ls (ps.map (·.2)).length);rw [zA];exact nt.twin,?_,rfl⟩
   show ts.map (·.2)=ls.map fun l=>rep rooms.length (lone l.2.s d0.first)
   refine yg fun i=>?_
   rw [zC,zC]
   cases e1:ts[i]? with
   | none=>
    have:ls.length<=i:=by rw [<-lts];exact List.getElem?_eq_none_iff.mp e1
    rw [zp this];rfl
   | some x=>
    obtain ⟨L,hL⟩:∃ L,ls[i]?=some L:=⟨_,zE (by rw [<-lts];exact (zB.mp e1).1)⟩
    rw [hL]
    show some x.2=some _
    rw [ats i x L e1 hL]
  have etb:=nt.eb
  have ets:=nt.el
  clear kt nt ft s7 hll7 sA kts ats sB ktl sAB own htl lts ndt
  have n60:=gd.len
  have lm:(ps.map (·.2)).length=ps.length:=zA _
  have lpm:(ps.map fun a=>V.ref a.1).length=ps.length:=zA _
  have lll:(ls.map fun x=>V.ref x.1).length=ls.length:=zA _
  refine (zr rfl (ixt ((hb.same w0.sm).book) rfl ⟨tm,zr rfl ⟨.inr (SqT.of (hb.same w0.sm).meets),zr rfl ⟨by omega,by rw [lpm];omega,?_⟩⟩⟩))
  refine for_range (lo:=0) (fun m σ H5=>∃ t' ts' ys,ys.length<=m * 41/\(∃ v5 v6 v7 v8 v9 v10 v11,σ=[some (.ref b),some (.ref ll),some (.ref r),some (.ref t.x),some (.ref tl),v5,v6,v7,v8,v9,v10,v11])/\RunI a.c_Trip H H5 t tl (ts.map (·.1)) t' ts' ys rooms tr tm ps ls m/\RunX t' ts' ys (runTo rooms (ps.map (·.2)) d0 ls m)) ⟨t,ts,[],zb _,⟨_,_,_,_,_,_,_,rfl⟩,w0,x0⟩ ?_ ?_
  ·rintro m σ H5 hm ⟨t',ts',ys,ly,⟨v5,v6,v7,v8,v9,v10,v11,rfl⟩,w,xx⟩
   have hm':m < ps.length:=by rw [lpm] at hm;simpa using hm
   obtain ⟨M,hM⟩:∃ M,(ps.map (·.2))[m]?=some M:=⟨_,zE (by omega)⟩
   rw [xE]
   refine (zr rfl ⟨ll,rfl,⟨_,SqL.of (w.sm _ _ hll)⟩,?_⟩)
   refine for_enumL (K:=K) (a:=ll) (xs:=ls.map fun x=>V.ref x.1) (fun j σ H6=>∃ t' ts' ys,ys.length<=m * 41 + j/\(∃ v6 v7 v8 v9 v10 v11,σ=[some (.ref b),some (.ref ll),some (.ref r),some (.ref t.x),some (.ref tl),some (.int (m:Int)),v6,v7,v8,v9,v10,v11])/\RunI a.c_Trip H H6 t tl (ts.map (·.1)) t' ts' ys rooms tr tm ps ls m/\RunX t' ts' ys (meetTo rooms (List.map (fun y:Addr × M4=>y.2) ps) d0 ls m M (runTo rooms (List.map (fun y:Addr × M4=>y.2) ps) d0 ls m) j)) ⟨t',ts',ys,by omega,⟨_,_,_,_,_,_,rfl⟩,w,xx⟩ ?_ ?_ ?_
   ·rintro j σ H6 _ ⟨_,_,_,_,_,w,_⟩
    exact SqL.of (w.sm _ _ hll)
   ·clear w ly xx
    rintro j v q0 σ H6 hv hq ⟨t',ts',ys,ly,⟨v6,v7,v8,v9,v10,v11,rfl⟩,w,xx⟩
    obtain ⟨L,hL,rfl⟩:=xz hv
    have mS:meetTo rooms (ps.map (·.2)) d0 ls m M (runTo rooms (ps.map (·.2)) d0 ls m) (j + 1)=(meetTo rooms (ps.map (·.2)) d0 ls m M (runTo rooms (ps.map (·.2)) d0 ls m) j).step rooms (ps.map (·.2)) d0 m M j L.2:=by
     show (match ls[j]? with | some L=>_ | none=>_)=_
     rw [hL]
    rw [mS]
    clear mS
    have s1:=xL (o:=HO.tup [V.int (j:Int),V.ref L.1]) hq
    have kq:upd H6 q0 (HO.tup [V.int (j:Int),V.ref L.1]) q0=some (.tup [V.int (j:Int),V.ref L.1]):=xH
    replace w:=w.same s1
    generalize upd H6 q0 (HO.tup [V.int (j:Int),V.ref L.1])=H8 at w kq s1 ⊢
    refine (un2 kq ?_)
    have hj:j < ls.length:=(zB.mp hL).1
    obtain ⟨x,hx⟩:∃ x,ts'[j]?=some x:=⟨_,zE (by rw [w.tok.1,w.ad.ls,ets];exact hj)⟩
    obtain ⟨h,hh⟩:∃ h,t'.hs[j]?=some h:=⟨_,zE (by rw [w.kt.lh,w.ad.ls,ets];exact hj)⟩
    obtain ⟨lx,kx,vx⟩:=w.tok.2 j x h hx hh
    have hbH:=hb.same w.sm
    have atx:atI (ts'.map fun x=>V.ref x.1) (j:Int)=some (V.ref x.1):=xi (by rw [zC,hx];rfl)
    have kxr:=w.kts x (zD hx)
    refine (zr rfl (zr rfl (zr rfl (zr rfl (ixl w.ktl atx (ex9 b m x.1 x.2 M rooms tr tm ps ⟨rfl,hbH,gd,hM,kxr,lx,?_⟩))))))
    cases eg:loneH M x.2 with
    | none=>exact (zr rfl (zr rfl (iteB1 rfl ⟨t',ts',ys,by omega,⟨_,_,_,_,_,_,rfl⟩,w,xx.none1 hx eg⟩)))
    | some g=>
     have hL':t'.ls[j]?=some L:=by rw [w.ad.ls,ets];exact hL
     obtain ⟨hg,eg1,eo1,cs⟩:=lone_code gd w.kt.lh hM w.rr hL' hh kx eg
     obtain ⟨gvv,egv⟩:∃ gvv,oAt x.2 g=some gvv:=zf.mp eg1
     have gb:=vx g gvv egv
     have ge:=gd.each M (zD hM)
     have gr:0<=g/\g < rooms.length:=by omega
     have ob:0<=othI M g/\othI M g < rooms.length/\othI M g ≠ g:=by unfold othI;split <;> omega
     have gN:x.2[g.toNat]?=some (some gvv):=by
      have:=egv
      unfold oAt at this
      cases e:x.2[g.toNat]? with
      | none=>rw [e] at this;cases this
      | some o=>rw [e] at this;rw [show o=some gvv from this]
     have atg:atI (x.2.map oV) g=some (V.int gvv):=by
      obtain ⟨gn,rfl⟩:=zO gr.1
      rw [zF] at gN
      exact xi (by rw [zC,gN];rfl)
     refine (zr rfl (zr rfl (iteB0 rfl (zr rfl (zr rfl (zr rfl (ex8 b m g rooms tr tm ps M ⟨rfl,hbH,hM,?_⟩)))))))
     refine rule_shareX (L:=L.2) (tok:=gvv) (g:=g) (o:=othI M g) (lt:=L.1) (hr0.same w.sm) rfl (fun Z z=>⟨(zr rfl (zr rfl (zr rfl (zr rfl (zr rfl (ixl w.ktl atx (zr rfl (ixl kxr atg z)))))))),(zr rfl (zr rfl (zr rfl (zr rfl (zr rfl (ixl w.ktl atx (zr rfl (ixl kxr atg z)))))))),(zr rfl (zr rfl (zr rfl (zr rfl (zr rfl (ixl w.ktl atx (zr rfl (ixl kxr atg z))))))))⟩) (w.sm _ _ (hrw L (zD hL))) gb.1 gb.2 fun H9 s9=>?_
     replace w:=w.same s9
     clear kxr hbH kq s1
     have kxr:=w.kts x (zD hx)
     cases esv:d0.share L.2 g (othI M g) gvv with
     | none=>exact (zr rfl (zr rfl (iteB0 rfl (iteB0 rfl ⟨t',ts',ys,by omega,⟨_,_,_,_,_,_,rfl⟩,w,xx.none2 hx eg egv esv⟩))))
     | some sv=>
      have svb:=RuleD.share_b gb.1 esv
      refine (zr rfl (zr rfl (iteB1 rfl (zr rfl (zr rfl (zr rfl (zr rfl ⟨by show 4<=sizeLine;omega,fun ya hya=>?_⟩)))))))
      have s10:=xL (o:=HO.tup [V.str (Str.ofString "copy"),V.int (m:Int),V.int (j:Int),oV (some g)]) hya
      have kya:upd H9 ya (HO.tup [V.str (Str.ofString "copy"),V.int (m:Int),V.int (j:Int),oV (some g)]) ya=some (.tup (Dd.pass false (m:Int) (j:Int) g).vs):=xH
      replace w:=w.same s10
      generalize upd H9 ya (HO.tup [V.str (Str.ofString "copy"),V.int (m:Int),V.int (j:Int),oV (some g)])=H10 at w kya ⊢
      clear kxr s10 s9
      have m60:m * 41<=60 * 41:=Nat.mul_le_mul_right _ (by omega)
      refine ⟨t',.ref ya,.pass false (m:Int) (j:Int) g,rooms,tr,tm,ps,ys.length + 1,(by rw [w.ad.x];rfl),w.kt,by omega,⟨ya,rfl,kya⟩,cs,fun c HB kp kB=>(zr rfl (iteB1 rfl ?_)),fun c HB sB=>(zr rfl (iteB0 rfl ⟨t',ts',ys,by omega,⟨_,_,_,_,_,_,rfl⟩,w.same sB,xx.none3 hx eg c⟩))⟩
      have xa:x.1 ∈ ts.map (·.1):=by rw [<-w.ea];exact zM.mpr ⟨x,zD hx,rfl⟩
      have nxo:¬ t'.own x.1:=fun z=>f.na x.1 xa (.inl ((w.ad.own _).mp z))
      have kxB:=kp _ _ nxo (w.kts x (zD hx))
      have ktlB:=kp _ _ (fun z=>f.nt (.inl ((w.ad.own _).mp z))) w.ktl
      have ntx:tl ≠ x.1:=fun z=>f.ntl (by rw [z];exact xa)
      have ixo:ixN (x.2.map oV).length (othI M g)=some (othI M g).toNat:=by unfold ixN;rw [if_pos ob.1,if_pos (by rw [zA,lx];exact ob.2.1)]
      refine (zr rfl (zr rfl (zr rfl (ixl ktlB atx (zr rfl ⟨x.1,_,_,(othI M g).toNat,rfl,rfl,kxB,ixo,?_⟩)))))
      have b1:But x.1 HB (upd HB x.1 (HO.lst ((x.2.map oV).set (othI M g).toNat (oV (some sv))))):=But.set
      have kxC:upd HB x.1 (HO.lst ((x.2.map oV).set (othI M g).toNat (oV (some sv)))) x.1=some (.lst ((x.2.map oV).set (othI M g).toNat (oV (some sv)))):=xH
      generalize upd HB x.1 (HO.lst ((x.2.map oV).set (othI M g).toNat (oV (some sv))))=HC at b1 kxC ⊢
      have ktlC:=b1 _ _ ntx ktlB
      have lrow:((x.2.map oV).set (othI M g).toNat (oV (some sv))).length=rooms.length:=by rw [z8,zA];exact lx
      have ixg:ixN ((x.2.map oV).set (othI M g).toNat (oV (some sv))).length g=some g.toNat:=by unfold ixN;rw [if_pos gr.1,if_pos (by rw [lrow];exact gr.2)]
      have gtg:((x.2.map oV).set (othI M g).toNat (oV (some sv)))[g.toNat]?=some (V.int gvv):=by rw [zZ,if_neg (by omega),zC,gN];rfl
      obtain ⟨gn,egn⟩:=zO gr.1
      have gtn:((x.2.map oV).set (othI M g).toNat (oV (some sv)))[gn]?=some (V.int gvv):=by rw [show gn=g.toNat by omega];exact gtg
      refine (zr rfl (zr rfl (ixl ktlC atx (zr rfl ⟨x.1,_,V.int gvv,gn,rfl,(by rw [egn];rfl),SqL.of kxC,gtn,zr rfl (zr2 rfl rfl ⟨x.1,_,_,g.toNat,rfl,rfl,kxC,ixg,?_⟩)⟩))))
      exact ⟨_,_,ys ++ [(ya,_)],by rw [zT];show _ + 1<=_;omega,⟨_,_,_,_,_,_,rfl⟩,RunI.step f w hM hx hg egv svb gb.2 c kp kB kya (b1.trans But.set) (by rw [xH,zw,zw];rfl),xx.done hx eg egv esv c ya _⟩
   rintro σ H6 ⟨t',ts',ys,ly,⟨v6,v7,v8,v9,v10,v11,rfl⟩,w,xx⟩
   rw [lll] at xx
   refine ⟨t',ts',ys,by rw [lll] at ly;omega,⟨_,_,_,_,_,_,_,rfl⟩,w.mono (yl _),?_⟩
   show RunX t' ts' ys (match (ps.map (·.2))[m]? with | some M=>_ | none=>_)
   rw [hM];exact xx
  clear w0 x0
  rintro σ H5 ⟨t',ts',ys,ly,⟨v5,v6,v7,v8,v9,v10,v11,rfl⟩,w,xx⟩
  rw [lpm,zF] at xx
  have ly2:ys.length<=2460:=by
   have:((((ps.map fun a=>V.ref a.1).length:Nat):Int)).toNat * 41<=60 * 41:=Nat.mul_le_mul_right _ (by rw [lpm];omega)
   omega
  have ex:=w.ad.x
  rw [<-ex]
  have k:=w.kt
  have his:=w.hist
  have etl:t'.ls=ls:=w.ad.ls.trans ets
  refine (zr rfl ⟨ll,zr rfl ⟨.inl (SqL.of (w.sm _ _ hll)),zr rfl ⟨by omega,by rw [lll];omega,?_⟩⟩⟩)
  refine comp_range (lo:=0) (m:=(ls.map fun x=>V.ref x.1).length) (fun i τ acc H6=>∃ rws:List (Addr × List (Option Int)),(∃ t0,τ=[t0,some (.ref b),some (.ref t'.x)])/\acc=(rws.map fun x=>V.ref x.1)/\rws.map (·.2)=((t'.hs.take i).map fun h=>tmsOf rooms.length h.2)/\Same H5 H6/\∀ x ∈ rws,H5 x.1=none/\H6 x.1=some (.lst (x.2.map oV))) ⟨[],⟨_,rfl⟩,rfl,rfl,Same.refl _,fun _ z=>nomatch z⟩ (by rw [lll];omega) ?_ ?_ ?_
  ·rintro i τ acc H6 ⟨rws,_,rfl,e,_⟩
   have:=congrArg List.length e
   rw [zA,zA,yY] at this
   rw [zA];omega
  ·rintro i τ acc H6 C hi ⟨rws,⟨t0,rfl⟩,rfl,e,s6,kr⟩ hC
   rw [xE]
   obtain ⟨h,hh⟩:∃ h,t'.hs[i]?=some h:=⟨_,zE (by rw [k.lh,etl];rw [lll] at hi;exact hi)⟩
   have k6:=k.same s6
   have few:=his.few k.lh k.lo hh
   refine (zr rfl (zr rfl ⟨t'.x,t'.dx,zr rfl ⟨k6.at_.ins,rfl,zr rfl ⟨t'.x,t'.b,t'.dx,t'.lL,t'.lH,t'.lA,t'.lP,t'.lD,t'.ls,t'.hs,t'.os,t'.ns,t'.r,t'.ds,i,h,rfl,k6.at_,hh,by omega,fun l1 qs1 H8 s8 f1 fq1 k1 kr1 pm1 pw1=>?_⟩⟩⟩))
   refine ⟨b,l1,qs1,h.2,ex4 rooms tr tm ps ⟨rfl,hb.same (w.sm.trans (s6.trans s8)),rm12,k1,kr1,pm1,his.nd i h hh,fun p9 H9 s9 f9 k9=>hC _ _ _ ⟨rws ++ [(p9,tmsOf rooms.length h.2)],⟨_,rfl⟩,by rw [zN];rfl,by rw [zN,e,wI hh,zN];rfl,(s6.trans s8).trans s9,fun x hx=>?_⟩⟩⟩
   rcases zW.mp hx with h1 | h1
   ·exact ⟨(kr x h1).1,s9 _ _ (s8 _ _ (kr x h1).2)⟩
   ·rw [zI.mp h1];exact ⟨(s6.trans s8).free f9,k9⟩
  rintro τ acc H6 ⟨rws,⟨t0,rfl⟩,rfl,er,s6,kr⟩ rl hrl
  rw [lll,<- etl,<- k.lh,yj] at er
  have s7:=xL (o:=HO.lst (rws.map fun x=>V.ref x.1)) hrl
  have krl:upd H6 rl (HO.lst (rws.map fun x=>V.ref x.1)) rl=some (.lst (rws.map fun x=>V.ref x.1)):=xH
  generalize upd H6 rl (HO.lst (rws.map fun x=>V.ref x.1))=H7 at s7 krl ⊢
  have s57:=s6.trans s7
  have k7:=k.same s57
  refine (zr rfl ⟨t'.x,t'.dx,zr rfl ⟨k7.at_.ins,rfl,t'.x,t'.b,t'.dx,t'.lL,t'.lH,t'.lA,t'.lP,t'.lD,t'.ls,t'.hs,t'.os,t'.ns,t'.r,t'.ds,rfl,k7.at_,fun l2 hl2=>(zr rfl (zr rfl ⟨by show 3<=sizeLine;omega,fun p9 hp9=>?_⟩))⟩⟩)
  have s8:=xL (o:=HO.lst t'.ds) hl2
  have k8:upd H7 l2 (HO.lst t'.ds) l2=some (.lst t'.ds):=xH
  generalize upd H7 l2 (HO.lst t'.ds)=H8 at s8 k8 hp9 ⊢
  have s9:=xL (o:=HO.tup [V.ref l2,V.ref rl,V.ref tl]) hp9
  have s58:=(s57.trans s8).trans s9
  have fw:∀ {c:Addr},H5 c=none->H c=none:=fun {c} h=>w.sm.free h
  exact q p9 l2 rl tl ys rws ts' t' _ (w.sm.trans s58) xH (by rw [<-w.eds];exact s9 _ _ k8) (w.dsa.same s58) ly2 w.rok w.tw his w.oso (s9 _ _ (s8 _ _ krl)) (fun x hx=>s9 _ _ (s8 _ _ (s7 _ _ (kr x hx).2))) er (s58 _ _ w.ktl) (fun x hx=>s58 _ _ (w.kts x hx)) xx w.tok ⟨w.sm.free (s57.free hl2),fw (s6.free hrl),ftl,fun x hx=>fw (kr x hx).1,fun x hx=>f.fa x.1 (by rw [<-w.ea];exact zM.mpr ⟨x,hx,rfl⟩)⟩
theorem sc__law_wide:FnScope ["_law_book_here", "_law_room"] ["_law_book_here", "_law_room"] (defScope s__law_wide):=⟨rfl,rfl,rfl,by decide +kernel,rfl,by decide +kernel,by decide +kernel⟩
theorem ok__law_wide (T:Tx K mg a t_MOST_TOKENS):FnOk P w K mg base CX0 1 a.a__law_wide a.d__law_wide ["_law_book_here", "_law_room"] (spWide58):=by
 refine T.F__law_wide.ok sc__law_wide (fun vs H Q E h=>?_) (fun cdv A outer s H vs Q E hr h=>?_)
 ·obtain ⟨_,_,_,_,_,_,rfl,_⟩:=h;rfl
 ·have nd:=sc__law_wide.nd
  have hu:=hr.units
  obtain ⟨b,r,rooms,tr,tm,ps,rfl,hb,r12,p60,q⟩:=h
  refine ⟨_,(xK (xf (xb (xp (xF (xI (wC (wO) (by rfl) T.b_tuple zu (xF (xI (xg op_rep (xu (xF (xI (pv 1) xM rfl))) (xU (xR rfl) (by rfl) T.b_len PySem.boot_len (xF (xI (xS (xT rfl) (pv 0) xG (fun _ _=>rfl)) xM rfl)))) xM rfl))) (xI (wC (wO) (by rfl) T.b_tuple zu (xF (xI (pe_comp (own:=["_law_meeting"]) (caps:=[]) rfl (show CompScope ["_law_meeting"] [] ["_law_book_here", "_law_room"] (defScope s__law_wide) _ from ⟨rfl,by decide +kernel,by decide +kernel,by decide +kernel,by decide +kernel⟩) (pi_tup'' rfl (xS (xT rfl) (pv 0) xG (fun _ _=>rfl))) (fun _ _ _ _=>(xO (i:=0) (show List.Nodup (["_law_meeting"]:List Str) from by decide +kernel) rfl (by first | exact Or.inl rfl | exact Or.inr rfl))) (fun _ _ _ _=>wX) (fun _ _ _ _=>(xp (xF (xI (xS (xT rfl) (pv 0) xG (fun _ _=>rfl)) (xI (xS (xT rfl) (pv 0) xG (fun _ _=>rfl)) (xI (xS (xT rfl) (pv 0) xG (fun _ _=>rfl)) (xI xG xM rfl) rfl) rfl) rfl))))) xM rfl))) xM rfl) rfl)))))),?_⟩
  have line:=line9
  refine (zr rfl ⟨by show 1<=sizeLine;omega,fun l1 hl1=>?_⟩)
  have s1:=xL (o:=HO.lst [V.int r]) hl1
  have k1:upd H l1 (HO.lst [V.int r]) l1=some (.lst [V.int r]):=xH
  generalize upd H l1 (HO.lst [V.int r])=H1 at s1 k1 ⊢
  have hb1:=hb.same s1
  refine (zr rfl (ixt hb1.book rfl ⟨tr,zr rfl ⟨.inr (SqT.of hb1.rooms),l1,zr2 rfl rfl ⟨k1,by omega,by rw [zA];omega,by rw [zA];show 1 * rooms.length<=sizeLine;omega,fun l2 hl2=>?_⟩⟩⟩))
  have s2:=xL (o:=HO.lst (List.replicate ((rooms.map V.int).length:Int).toNat [V.int r]).flatten) hl2
  have k2:upd H1 l2 (HO.lst (List.replicate ((rooms.map V.int).length:Int).toNat [V.int r]).flatten) l2=some (.lst ((List.replicate rooms.length r).map V.int)):=by
   rw [xH,zF,zA,List.flatten_replicate_singleton,yn]
  generalize upd H1 l2 (HO.lst (List.replicate ((rooms.map V.int).length:Int).toNat [V.int r]).flatten)=H2 at s2 k2 ⊢
  refine ⟨l2,zr rfl (.inl ⟨SqL.of k2,fun t1 ht1=>?_⟩)⟩
  have s3:=xL (o:=HO.tup ((List.replicate rooms.length r).map V.int)) ht1
  have k3:upd H2 t1 (HO.tup ((List.replicate rooms.length r).map V.int)) t1=some (.tup ((List.replicate rooms.length r).map V.int)):=xH
  generalize upd H2 t1 (HO.tup ((List.replicate rooms.length r).map V.int))=H3 at s3 k3 ⊢
  have s03:=s1.trans (s2.trans s3)
  have hb3:=hb.same s03
  refine (zr rfl (ixt hb3.book rfl ⟨tm,rfl,⟨_,SqT.of hb3.meets⟩,?_⟩))
  refine comp_tup (K:=K) (a:=tm) (xs:=ps.map fun a=>V.ref a.1) (fun i τ acc H5=>∃ qs:List (Addr × M4),(∃ t0,τ=[t0])/\acc=(qs.map fun a=>V.ref a.1)/\qs.map (·.2)=((ps.map (·.2)).take i).map wideM/\Same H3 H5/\RowsAt H5 qs) ⟨[],⟨_,rfl⟩,rfl,rfl,Same.refl _,fun _ z=>nomatch z⟩ (by rw [zA];omega) ?_ ?_ ?_
  ·rintro i τ acc H5 ⟨qs,_,rfl,e,s5,_⟩
   have:=congrArg List.length e
   rw [zA,zA,yY] at this
   exact ⟨by rw [zA];omega,SqT.of (s5 _ _ hb3.meets)⟩
  ·rintro i v τ acc H5 C hv ⟨qs,⟨t0,rfl⟩,rfl,e,s5,rw5⟩ hC
   obtain ⟨p0,hp0,rfl⟩:=xz hv
   have hM:(ps.map (·.2))[i]?=some p0.2:=by rw [zC,hp0];rfl
   have hrow:H5 p0.1=some (.tup [V.int p0.2.lo,V.int p0.2.hi,V.int p0.2.t,V.int p0.2.m]):=s5 _ _ (hb3.rows p0 (zD hp0))
   refine (zr rfl (ixt hrow rfl (zr rfl (ixt hrow rfl (zr rfl (ixt hrow rfl ⟨by show 4<=sizeLine;omega,fun t ht=>hC _ _ _ ⟨qs ++ [(t,wideM p0.2)],⟨_,rfl⟩,by rw [zN];rfl,by rw [zN,wI hM,zN,e];rfl,s5.trans (xL ht),fun a ha=>?_⟩⟩))))))
   rcases zW.mp ha with h | h
   ·exact xL ht _ _ (rw5 a h)
   ·cases zI.mp h
    exact xH
  rintro τ acc H5 ⟨qs,_,rfl,e,s5,rw5⟩ l3 hl3
  rw [zA,List.take_of_length_le (by rw [zA];exact zJ _)] at e
  refine ⟨l3,zr rfl (.inl ⟨SqL.of xH,fun t2 ht2=>⟨by show 2<=sizeLine;omega,fun b2 hb2=>?_⟩⟩)⟩
  have s6:=(xL (o:=HO.lst (qs.map fun a=>V.ref a.1)) hl3).trans (xL (o:=HO.tup (qs.map fun a=>V.ref a.1)) ht2)
  have s7:=xL (o:=HO.tup [V.ref t1,V.ref t2]) hb2
  exact q b2 t1 t2 qs _ (s03.trans (s5.trans (s6.trans s7))) ⟨xH,s7 _ _ (s6 _ _ (s5 _ _ k3)),s7 _ _ xH,fun a ha=>s7 _ _ (s6 _ _ (rw5 a ha))⟩ e
theorem sc__law_rule:FnScope ["_law_head", "_law_purse_here", "_law_walkers", "_law_kind", "_law_past", "_law_many"] ["_law_head", "_law_purse_here", "_law_walkers"] (defScope s__law_rule):=⟨rfl,rfl,rfl,by decide +kernel,rfl,by decide +kernel,by decide +kernel⟩
theorem ok__law_rule (T:Tx K mg a t_MOST_TOKENS):FnOk P w K mg base CX0 5 a.a__law_rule a.d__law_rule ["_law_head", "_law_purse_here", "_law_walkers"] (spRule58 a.c_AllMet a.c_Halves a.c_Nearer):=by
 have G__law_take:=@xr P w _ _ base _ _ T
 have G__law_meetings:=@ok__law_meetings P w _ _ base _ _ T
 have G_AllMet___init__:=@ok_AllMet___init__ P w _ _ base _ _ T
 have G_Halves___init__:=@ok_Halves___init__ P w _ _ base _ _ T
 have G_Nearer___init__:=@ok_Nearer___init__ P w _ _ base _ _ T
 refine T.F__law_rule.ok sc__law_rule (fun vs H Q E h=>?_) (fun cdv A outer s H vs Q E hr h=>?_)
 ·obtain ⟨_,_,_,rfl,_⟩:=h;rfl
 ·have nd:=sc__law_rule.nd
  have hu:=hr.units
  obtain ⟨p,p2,n,rfl,n1,n12,pu,pu2,np,q⟩:=h
  refine ⟨_,(xK (xW (xX (i:=3) nd rfl (by first | exact Or.inl rfl | exact Or.inr rfl) (xP G__law_take (hr.mono (by decide)) rfl T.m__law_take T.k__law_take T.i__law_take .nil pass0 (xF (xI (pv 0) (xI xG xM rfl) rfl)))) (xW (xh (xV wE (pv 3) xG (nomark _)) (xK (xf (xb (pe_make0 T.Y_AllMet G_AllMet___init__ (hr.mono (by decide)) rfl T.m_AllMet T.i_AllMet___init__ .nil pass0)))) xZ) (xW (xh (xV wE (pv 3) xG (nomark _)) (xK (xf (xb (pe_make (E:=E0) T.Y_Halves G_Halves___init__ (hr.mono (by decide)) rfl T.m_Halves T.i_Halves___init__ .nil passN (xF (xI (xg xt xG (xP G__law_take (hr.mono (by decide)) rfl T.m__law_take T.k__law_take T.i__law_take .nil pass0 (xF (xI (pv 0) (xI xG xM rfl) rfl)))) xM rfl)))))) xZ) (xW (xX (i:=4) nd rfl (by first | exact Or.inl rfl | exact Or.inr rfl) (xp (xF (xI (wC (wO) (by rfl) T.b_tuple zu (xF (xI (xg op_rep (xu (xF (xI xG xM rfl))) (pv 2)) xM rfl))) (xI (xp pa_nil) xM rfl) rfl)))) (xW (xh (xV op_gt (pv 2) xG (nomark _)) (xK (xW (xX (i:=5) nd rfl (by first | exact Or.inl rfl | exact Or.inr rfl) (xU (call_min2 rfl) (by rfl) T.b_min PyProof.Rows.boot_min (xF (xI xG (xI (xP G__law_take (hr.mono (by decide)) rfl T.m__law_take T.k__law_take T.i__law_take .nil pass0 (xF (xI (pv 1) (xI xG xM rfl) rfl))) xM rfl) rfl)))) (xf (xX (i:=4) nd rfl (by first | exact Or.inl rfl | exact Or.inr rfl) (xp (xF (xI (xS (xT rfl) (pv 4) xG (fun _ _=>rfl)) (xI (xP G__law_meetings (hr.mono (by decide)) rfl T.m__law_meetings T.k__law_meetings T.i__law_meetings .nil pass0 (xF (xI (pv 1) (xI (pv 2) (xI (pv 5) xM rfl) rfl) rfl))) xM rfl) rfl))))))) xZ) (xf (xb (pe_make T.Y_Nearer G_Nearer___init__ (hr.mono (by decide)) rfl T.m_Nearer T.i_Nearer___init__ .nil pass0 (xF (xI (pv 4) xM rfl))))))))))),?_⟩
  have line:=line9
  refine (zr rfl ⟨p,3,rfl,by decide,by decide,pu,fun kind H1 c0 c1 g1=>?_⟩)
  have pu21:Purse H1 p2:=by obtain ⟨x,y,z,e⟩:=pu2;exact ⟨x,y,z,g1.1 _ _ np.symm e⟩
  refine (zr rfl ⟨rfl,zr rfl (iteB (fun _=>?_) (fun _=>?_))⟩)
  ·intro x dx nx ndx nex
   exact (zr rfl ⟨rfl,q x .all _ (fun c o h1 h2 e=>same_two nx ndx nex _ _ (g1.1 c o h1 e)) ⟨dx,xH⟩⟩)
  refine (zr rfl ⟨rfl,zr rfl (iteB (fun _=>?_) (fun _=>?_))⟩)
  ·refine (zr rfl ⟨p,64,rfl,by decide,by decide,g1.2,fun e H2 e0 e1 g2=>(zr2 rfl rfl (fun x dx nx ndx nex=>?_))⟩)
   refine ⟨x,dx,.int (1 + e), "int", rfl,xH,rfl,.inr ⟨1 + e,rfl,by omega,by omega,fun H3 b3 hh=>⟨rfl,?_⟩⟩⟩
   have s3:=But.same nx (xL ndx) (But.trans But.set b3)
   exact q x (.half (1 + e)) H3 (fun c o h1 h2 z=>s3 _ _ (g2.1 c o h1 (g1.1 c o h1 z))) ⟨hh,by omega,by omega⟩
  refine ⟨by show 1<=sizeLine;omega,fun l1 hl1=>(zr rfl ⟨l1,zr2 rfl rfl ⟨xH,by omega,by omega,by show 1 * n<=sizeLine;omega,fun l2 hl2=>?_⟩⟩)⟩
  have s1:=(xL (o:=HO.lst [V.int 1]) hl1).trans (xL (o:=HO.lst (List.replicate ((n:Nat):Int).toNat [V.int 1]).flatten) hl2)
  have k2:upd (upd H1 l1 (HO.lst [V.int 1])) l2 (HO.lst (List.replicate ((n:Nat):Int).toNat [V.int 1]).flatten) l2=some (.lst ((List.replicate n (1:Int)).map V.int)):=by
   rw [xH,zF,List.flatten_replicate_singleton,yn]
  generalize upd (upd H1 l1 (HO.lst [V.int 1])) l2 (HO.lst (List.replicate ((n:Nat):Int).toNat [V.int 1]).flatten)=H2 at s1 k2 ⊢
  refine ⟨l2,zr rfl (.inl ⟨SqL.of k2,fun t1 ht1=>⟨by show 0<=sizeLine;omega,fun t2 ht2=>⟨by show 2<=sizeLine;omega,fun pb hpb=>?_⟩⟩⟩)⟩
  have s2:=(xL (o:=HO.tup ((List.replicate n (1:Int)).map V.int)) ht1).trans (xL (o:=HO.tup []) ht2)
  have s3:=xL (o:=HO.tup [V.ref t1,V.ref t2]) hpb
  have s14:=s1.trans (s2.trans s3)
  have bk:BookAt (upd (upd (upd H2 t1 (HO.tup ((List.replicate n (1:Int)).map V.int))) t2 (HO.tup [])) pb (HO.tup [V.ref t1,V.ref t2])) pb (List.replicate n (1:Int)) t1 t2 []:=⟨xH,s3 _ _ (xL ht2 _ _ xH),s3 _ _ xH,fun _ z=>nomatch z⟩
  generalize upd (upd (upd H2 t1 (HO.tup ((List.replicate n (1:Int)).map V.int))) t2 (HO.tup [])) pb (HO.tup [V.ref t1,V.ref t2])=H4 at s14 bk s3 ⊢
  have pu24:Purse H4 p2:=pu21.same s14
  have kept4:∀ c o,c ≠ p->c ≠ p2->H c=some o->H4 c=some o:=fun c o h1 h2 e=>s14 _ _ (g1.1 c o h1 e)
  refine (zr rfl (zr2 rfl rfl (zr rfl (iteN (fun σ H5=>∃ pb rooms tr tm ps v5,σ=[some (.ref p),some (.ref p2),some (.int (n:Int)),some (.int kind),some (.ref pb),v5]/\BookAt H5 pb rooms tr tm ps/\rooms.length=n/\ps.length<=60/\∀ c o,c ≠ p->c ≠ p2->H c=some o->H5 c=some o) ?_ ?_ ?_))))
  rotate_left
  ·intro cn kk
   have n2:2<=n:=by have:=of_decide_eq_true cn;omega
   refine (zr rfl ⟨p2,63,rfl,by decide,by decide,pu24,fun e H5 e0 e1 g5=>(zr1 rfl ?_)⟩)
   obtain ⟨mm,emm,mm60⟩:∃ mm:Nat,(if e < 60 then e else 60)=(mm:Int)/\mm<=60:=⟨(if e < 60 then e else 60).toNat,by split <;> omega,by split <;> omega⟩
   show gName 5 (V.int (if e < 60 then e else 60)) _ _ _
   rw [emm]
   have nbp2:pb ≠ p2:=fun z=>by obtain ⟨x,y,w,e9⟩:=pu24;rw [<-z,bk.book] at e9;cases e9
   have tu5:=g5.tups pu24
   have bk5:=bk.tups tu5
   refine (zr rfl (ixt bk5.book rfl (zr rfl (zr rfl (zr rfl ⟨p2,(n:Int),mm,rfl,mm60,by omega,by omega,g5.2,fun tm2 ps2 H6 g6 h6 r6 gd6 l6=>⟨by show 2<=sizeLine;omega,fun pb2 hpb2=>kk _ _ ?_⟩⟩)))))
   have tn:=Tups.new (o:=HO.tup [V.ref t1,V.ref tm2]) hpb2
   exact ⟨pb2,_,t1,tm2,ps2,zr rfl ⟨⟨xH,tn _ _ (g6.tups g5.2 _ _ bk5.rooms),tn _ _ h6,r6.tups tn⟩,zY,by omega,fun c o h1 h2 z=>xL hpb2 _ _ (g6.1 _ _ h2 (g5.1 _ _ h2 (kept4 c o h1 h2 z)))⟩⟩
  ·intro _
   exact ⟨pb,_,t1,t2,[],zr rfl ⟨bk,zY,zb _,kept4⟩⟩
  rintro σ H5 ⟨pb,rooms,tr,tm,ps,v5,rfl,bk5,lr,lp,kept5⟩
  refine (zr rfl (fun x dx nx ndx nex=>⟨x,dx,pb,rfl,xH,fun H6 b6 hh=>⟨rfl,?_⟩⟩))
  have s6:=But.same nx (xL ndx) (But.trans But.set b6)
  exact q x (.near (ps.map (·.2))) H6 (fun c o h1 h2 z=>s6 _ _ (kept5 c o h1 h2 z)) ⟨pb,rooms,tr,tm,ps,hh,bk5.same s6,lr,by omega,rfl⟩
theorem sc__law_three:FnScope ["_law_told", "_law_many", "_law_part"] ["_law_told", "_law_many"] (defScope s__law_three):=⟨rfl,rfl,rfl,by decide +kernel,rfl,by decide +kernel,by decide +kernel⟩
theorem ok__law_three (T:Tx K mg a t_MOST_TOKENS):FnOk P w K mg base CX0 1 a.a__law_three a.d__law_three ["_law_told", "_law_many"] (spThree58):=by
 refine T.F__law_three.ok sc__law_three (fun vs H Q E h=>?_) (fun cdv A outer s H vs Q E hr h=>?_)
 ·obtain ⟨_,_,_,_,_,_,_,_,rfl,_⟩:=h;rfl
 ·have nd:=sc__law_three.nd
  have hu:=hr.units
  obtain ⟨p,dl,tl,kl,k,xs,ys,zs,rfl,hp,h1,h2,h3,l2,l3,q⟩:=h
  refine ⟨_,(xK (xW (xh (PW.pt (pw_or (pt_not (wR (xU (wU) (by rfl) T.b_isinstance zm (xF (xI (pv 0) (xI (pe_bltn (v:=V.ty "tuple") rfl T.b_tuple zu rfl) xM rfl) rfl))))) (pw_or1 (xV op_ne (xU (xR rfl) (by rfl) T.b_len PySem.boot_len (xF (xI (pv 0) xM rfl))) xG (nomark _))))) (xK (xf (xb pe_bl))) xZ) (xW (ps_for PassesOwn.never rfl (pi_tup'' rfl (pv 0)) (xO (i:=2) nd rfl (by first | exact Or.inl rfl | exact Or.inr rfl)) (xK (xf (xh (pt_not (wR (xU (wU) (by rfl) T.b_isinstance zm (xF (xI (pv 2) (xI (pe_bltn (v:=V.ty "list") rfl T.b_list yX rfl) xM rfl) rfl))))) (xK (xf (xb pe_bl))) xZ)))) (xf (xb (pe_and (pe_cmpR wE (xU (xR rfl) (by rfl) T.b_len PySem.boot_len (xF (xI (xS (xT rfl) (pv 0) xG (fun _ _=>rfl)) xM rfl))) (pv 1) (nomark _)) (pe_one (pe_cmpR wE (xU (xR rfl) (by rfl) T.b_len PySem.boot_len (xF (xI (xS (xT rfl) (pv 0) xG (fun _ _=>rfl)) xM rfl))) (pv 1) (nomark _))))))))),?_⟩
  have line:=line9
  refine (zr rfl ⟨_, "tuple", "tuple", rfl,tyS_tup hp,by simp,zr rfl (iteB0 rfl (zr rfl ⟨p,zr rfl ⟨.inr (SqT.of hp),rfl,zr rfl (iteB0 rfl ?_)⟩⟩))⟩)
  refine (zr rfl ⟨p,rfl,⟨_,SqT.of hp⟩,?_⟩)
  refine for_tup (K:=K) (a:=p) (xs:=[.ref dl,.ref tl,.ref kl]) (fun i σ H5=>(∃ v2,σ=[some (.ref p),some (.int (k:Int)),v2])/\H=H5) ⟨⟨_,rfl⟩,rfl⟩ ?_ ?_ ?_
  ·rintro i σ H5 _ ⟨_,rfl⟩
   exact SqT.of hp
  ·rintro i v σ H5 hv ⟨⟨v2,rfl⟩,rfl⟩
   obtain ⟨c,vs,rfl,hc⟩:∃ c vs,v=V.ref c/\H c=some (.lst vs):=by
    have hm:=zD hv
    rcases zR.mp hm with z | hm
    ·exact ⟨dl,_,z,h1⟩
    rcases zR.mp hm with z | hm
    ·exact ⟨tl,_,z,h2⟩
    exact ⟨kl,_,zI.mp hm,h3⟩
   exact (zr rfl ⟨_, "list", "list", rfl,tyS_lst hc,by simp,zr rfl (iteB0 rfl ⟨⟨_,rfl⟩,rfl⟩)⟩)
  rintro σ H5 ⟨⟨v2,rfl⟩,rfl⟩
  refine (zr rfl (ixt hp rfl ⟨tl,zr rfl ⟨.inl (SqL.of h2),zr rfl ⟨rfl,zr rfl (iteB1 (by rw [l2];simp) (zr rfl (ixt hp rfl ⟨kl,zr rfl ⟨.inl (SqL.of h3),zr rfl ⟨rfl,?_⟩⟩⟩)))⟩⟩⟩))
  rw [l3,decide_eq_true rfl];exact q
theorem sc__law_straight:FnScope ["_law_book_here", "_law_letter_here", "_law_sender", "_law_since", "_law_wish", "_law_last", "_law_number", "_law_meeting"] ["_law_book_here", "_law_letter_here"] (defScope s__law_straight):=⟨rfl,rfl,rfl,by decide +kernel,rfl,by decide +kernel,by decide +kernel⟩
theorem ok__law_straight (T:Tx K mg a t_MOST_TOKENS):FnOk P w K mg base CX0 1 a.a__law_straight a.d__law_straight ["_law_book_here", "_law_letter_here"] (spStraight58):=by
 refine T.F__law_straight.ok sc__law_straight (fun vs H Q E h=>?_) (fun cdv A outer s H vs Q E hr h=>?_)
 ·obtain ⟨_,_,_,_,_,_,_,rfl,_⟩:=h;rfl
 ·have nd:=sc__law_straight.nd
  have hu:=hr.units
  obtain ⟨b,lt,rooms,tr,tm,ps,L,rfl,hb,p60,hlt,q⟩:=h
  refine ⟨_,(xK (xW (wW (pv 1) (xw (n:=4) rfl rfl (xQ (xO (i:=2) nd rfl (by first | exact Or.inl rfl | exact Or.inr rfl)) (xQ (xO (i:=3) nd rfl (by first | exact Or.inl rfl | exact Or.inr rfl)) (xQ (xO (i:=4) nd rfl (by first | exact Or.inl rfl | exact Or.inr rfl)) (xQ (xO (i:=5) nd rfl (by first | exact Or.inl rfl | exact Or.inr rfl)) xv)))))) (xW (ps_for PassesOwn.never rfl (wH rfl T.b_range (xF (xI (xU (xR rfl) (by rfl) T.b_len PySem.boot_len (xF (xI (xS (xT rfl) (pv 0) xG (fun _ _=>rfl)) xM rfl))) xM rfl))) (xO (i:=6) nd rfl (by first | exact Or.inl rfl | exact Or.inr rfl)) (xK (xW (xX (i:=7) nd rfl (by first | exact Or.inl rfl | exact Or.inr rfl) (xS (xT rfl) (xS (xT rfl) (pv 0) xG (fun _ _=>rfl)) (pv 6) (fun _ _=>rfl))) (xf (xh (PW.pt (pw_and (xV op_gt (xS (xT rfl) (pv 7) xG (fun _ _=>rfl)) (pv 3) (nomark _)) (pw_and (xV (op_in_seq' rfl) (pv 2) (pe_slice (sl_tup' rfl) (pv 7) po_none (po_some xG)) rfl) (pw_and1 (xV (op_in_seq' rfl) (pv 4) (pe_slice (sl_tup' rfl) (pv 7) po_none (po_some xG)) rfl))))) (xK (xf (xh (xV op_ne (pv 2) (pv 4) (nomark _)) (xK (xf (xb (pv 6)))) xZ))) xZ))))) (xf (xb (pe_un un_neg xG)))))),?_⟩
  have line:=line9
  have hrow:H lt=some (.tup [V.int (L.s:Int),V.int L.a,V.int (L.w:Int),V.int L.z]):=hlt
  have lpm:(ps.map fun a=>V.ref a.1).length=ps.length:=zA _
  have lm:(List.map (fun y:Addr × M4=>y.2) ps).length=ps.length:=zA _
  refine (zr rfl (un4 hrow ?_))
  refine (zr rfl (ixt hb.book rfl ⟨tm,zr rfl ⟨.inr (SqT.of hb.meets),zr rfl ⟨by omega,by rw [lpm];omega,?_⟩⟩⟩))
  refine for_range (lo:=0) (fun i σ H5=>(∃ v6 v7,σ=[some (.ref b),some (.ref lt),some (.int (L.s:Int)),some (.int L.a),some (.int (L.w:Int)),some (.int L.z),v6,v7])/\Same H H5/\fsS (List.map (fun y:Addr × M4=>y.2) ps) L i=none) ⟨⟨_,_,rfl⟩,Same.refl _,rfl⟩ ?_ ?_
  ·rintro i σ H5 hi ⟨⟨v6,v7,rfl⟩,s5,f5⟩
   rw [xE]
   have hi':i < ps.length:=by rw [lpm] at hi;simpa using hi
   obtain ⟨p0,hp0⟩:∃ p0,ps[i]?=some p0:=⟨_,zE hi'⟩
   have hM:(List.map (fun y:Addr × M4=>y.2) ps)[i]?=some p0.2:=by rw [zC,hp0];rfl
   have hb5:=hb.same s5
   have hr5:H5 p0.1=some (.tup [V.int p0.2.lo,V.int p0.2.hi,V.int p0.2.t,V.int p0.2.m]):=hb5.rows p0 (zD hp0)
   have atm:atI (ps.map fun a=>V.ref a.1) (i:Int)=some (V.ref p0.1):=xi (by rw [zC,hp0];rfl)
   have cut2:¬ (HT.sIx 4 0 none=0/\HT.sIx 4 4 (some 2)=4):=by decide
   have no:∀ HX,Same H5 HX->¬ straight L p0.2->Same H HX/\fsS (List.map (fun y:Addr × M4=>y.2) ps) L (i + 1)=none:=fun HX sx c=>⟨s5.trans sx,fsS_miss f5 hM c⟩
   refine (zr rfl (ixt hb5.book rfl (zr rfl (ixt hb5.meets atm ?_))))
   refine (zr rfl (ixt hr5 rfl (zr rfl (zr2 rfl rfl (zr rfl (iteB (fun c1=>?_) (fun c1=>iteB0 rfl ⟨⟨_,_,rfl⟩,no H5 (Same.refl _) (fun z=>by have:=z.1;rw [decide_eq_true this] at c1;cases c1)⟩)))))))
   have a1:L.a < p0.2.t:=of_decide_eq_true c1
   refine (zr rfl (zr rfl (zr rfl ⟨p0.1,zr rfl ⟨SqT.of hr5,cut2,fun x1 hx1=>?_⟩⟩)))
   have sx1:=xL (o:=HO.tup [V.int p0.2.lo,V.int p0.2.hi]) hx1
   refine ⟨x1,[.int p0.2.lo,.int p0.2.hi],rfl,.inr (SqT.of xH),rfl,rfl,zr rfl ?_⟩
   rw [inV_two]
   refine iteB (fun c2=>?_) (fun c2=>iteB0 rfl ⟨⟨_,_,rfl⟩,no _ sx1 (fun z=>?_)⟩)
   rotate_left
   ·rcases z.2.2.1 with y | y
    ·rw [decide_eq_true y] at c2;cases c2
    ·rw [decide_eq_true y,Bool.or_true] at c2;cases c2
   have a2:p0.2.lo=(L.s:Int)\/p0.2.hi=(L.s:Int):=by
    rcases (Bool.or_eq_true _ _).mp c2 with y | y
    ·exact .inl (of_decide_eq_true y)
    ·exact .inr (of_decide_eq_true y)
   refine (zr rfl (zr rfl (zr rfl ⟨p0.1,zr rfl ⟨SqT.of (sx1 _ _ hr5),cut2,fun x2 hx2=>?_⟩⟩)))
   have sx2:=sx1.trans (xL (o:=HO.tup [V.int p0.2.lo,V.int p0.2.hi]) hx2)
   refine ⟨x2,[.int p0.2.lo,.int p0.2.hi],rfl,.inr (SqT.of xH),rfl,rfl,zr rfl ?_⟩
   rw [inV_two]
   refine iteB (fun c3=>?_) (fun c3=>⟨⟨_,_,rfl⟩,no _ sx2 (fun z=>?_)⟩)
   rotate_left
   ·rcases z.2.2.2 with y | y
    ·rw [decide_eq_true y] at c3;cases c3
    ·rw [decide_eq_true y,Bool.or_true] at c3;cases c3
   have a3:p0.2.lo=(L.w:Int)\/p0.2.hi=(L.w:Int):=by
    rcases (Bool.or_eq_true _ _).mp c3 with y | y
    ·exact .inl (of_decide_eq_true y)
    ·exact .inr (of_decide_eq_true y)
   refine (zr rfl (zr rfl ⟨rfl,zr rfl (iteB (fun c4=>?_) (fun c4=>⟨⟨_,_,rfl⟩,no _ sx2 (fun z=>?_)⟩))⟩))
   ·have nsw:L.s ≠ L.w:=fun z=>by rw [z] at c4;simp at c4
    have e:=fsS_hit f5 hM ⟨a1,nsw,a2,a3⟩
    have e2:stV (List.map (fun y:Addr × M4=>y.2) ps) L=(i:Int):=by unfold stV;rw [e]
    have:=q _ (s5.trans sx2)
    rw [e2] at this
    exact (zr rfl this)
   ·have:L.s=L.w:=by have:=z.2.1;simp at c4;omega
    exact z.2.1 this
  rintro σ H5 ⟨⟨v6,v7,rfl⟩,s5,f5⟩
  rw [lpm,zF] at f5
  have e2:stV (List.map (fun y:Addr × M4=>y.2) ps) L=-1:=by unfold stV;rw [lm,f5]
  have:=q _ s5
  rw [e2] at this
  exact ⟨1,rfl,this⟩
theorem sc__law_bare_so:FnScope ["_law_book_here", "_law_letters", "_law_rule_here", "_law_told", "_law_due", "_law_k", "_law_sender", "_law_since", "_law_wish", "_law_last", "_law_row", "_law_number"] ["_law_book_here", "_law_letters", "_law_rule_here"] (defScope wl):=⟨rfl,rfl,rfl,by decide +kernel,rfl,by decide +kernel,by decide +kernel⟩
theorem ok__law_bare_so (T:Tx K mg a t_MOST_TOKENS):FnOk P w K mg base CX0 8 a.a__law_bare_so a.d__law_bare_so ["_law_book_here", "_law_letters", "_law_rule_here"] (spBare58 a.c_Trip a.c_AllMet a.c_Halves a.c_Nearer):=by
 have G_run:=@ok_run P w _ _ base _ _ T
 have G__law_three:=@ok__law_three P w _ _ base _ _ T
 have G__law_straight:=@ok__law_straight P w _ _ base _ _ T
 refine T.F__law_bare_so.ok sc__law_bare_so (fun vs H Q E h=>?_) (fun cdv A outer s H vs Q E hr h=>?_)
 ·obtain ⟨_,_,_,_,_,_,_,_,_,rfl,_⟩:=h;rfl
 ·have nd:=sc__law_bare_so.nd
  have hu:=hr.units
  obtain ⟨b,ll,r,ls,rooms,tr,tm,ps,d,rfl,hb,r1,r12,r0,m99,gd,hll,l41,lb,hru,q⟩:=h
  refine ⟨_,(xK (xW (xX (i:=3) nd rfl (by first | exact Or.inl rfl | exact Or.inr rfl) (xP G_run (hr.mono (by decide)) rfl T.m_run T.k_run T.i_run .nil pass0 (xF (xI (pv 0) (xI (wC (call_list_of' rfl) (by rfl) T.b_list yX (xF (xI (pv 1) xM rfl))) (xI (pv 2) xM rfl) rfl) rfl)))) (xW (xh (pt_not (wR (xP G__law_three (hr.mono (by decide)) rfl T.m__law_three T.k__law_three T.i__law_three .nil pass0 (xF (xI (pv 3) (xI (xU (xR rfl) (by rfl) T.b_len PySem.boot_len (xF (xI (pv 1) xM rfl))) xM rfl) rfl))))) (xK (xf (xb pe_bl))) xZ) (xW (xX (i:=4) nd rfl (by first | exact Or.inl rfl | exact Or.inr rfl) (xu pa_nil)) (xW (ps_for PassesOwn.never rfl (wH rfl T.b_range (xF (xI (xU (xR rfl) (by rfl) T.b_len PySem.boot_len (xF (xI (pv 1) xM rfl))) xM rfl))) (xO (i:=5) nd rfl (by first | exact Or.inl rfl | exact Or.inr rfl)) (xK (xW (wW (xS (xY rfl) (pv 1) (pv 5) (fun _ _=>rfl)) (xw (n:=4) rfl rfl (xQ (xO (i:=6) nd rfl (by first | exact Or.inl rfl | exact Or.inr rfl)) (xQ (xO (i:=7) nd rfl (by first | exact Or.inl rfl | exact Or.inr rfl)) (xQ (xO (i:=8) nd rfl (by first | exact Or.inl rfl | exact Or.inr rfl)) (xQ (xO (i:=9) nd rfl (by first | exact Or.inl rfl | exact Or.inr rfl)) xv)))))) (xW (xX (i:=10) nd rfl (by first | exact Or.inl rfl | exact Or.inr rfl) (xg op_rep (xu (xF (xI pe_non xM rfl))) (xU (xR rfl) (by rfl) T.b_len PySem.boot_len (xF (xI (xS (xT rfl) (pv 0) xG (fun _ _=>rfl)) xM rfl))))) (xW (wW (pv 7) (pg_sub (pv 10) (pv 6) set_list)) (xW (xX (i:=11) nd rfl (by first | exact Or.inl rfl | exact Or.inr rfl) (xP G__law_straight (hr.mono (by decide)) rfl T.m__law_straight T.k__law_straight T.i__law_straight .nil pass0 (xF (xI (pv 0) (xI (xS (xY rfl) (pv 1) (pv 5) (fun _ _=>rfl)) xM rfl) rfl)))) (xW (xh (xV op_ge (pv 11) xG (nomark _)) (xK (xW (wW (xS (xT rfl) (xS (xT rfl) (xS (xT rfl) (pv 0) xG (fun _ _=>rfl)) (pv 11) (fun _ _=>rfl)) xG (fun _ _=>rfl)) (pg_sub (pv 10) (pv 8) set_list)) (xf (wG (pe_bm yM yJ yK mt_append (pv 4) (xF (xI (xp (xF (xI (pv 11) (xI (pv 5) (xI (pv 6) xM rfl) rfl) rfl))) xM rfl))))))) xZ) (xf (xh (xV (op_neO hu) (xS (xY rfl) (xS (xT rfl) (pv 3) xG (fun _ _=>rfl)) (pv 5) (fun _ _=>rfl)) (pv 10) (nomark _)) (xK (xf (xb pe_bl))) xZ))))))))) (xf (xb (pe_cmpR (op_eqE hu) (xS (xT rfl) (pv 3) xG (fun _ _=>rfl)) (pe_comp (own:=["_law_one", "_law_two", "_law_three_here"]) (caps:=[]) rfl (show CompScope ["_law_one", "_law_two", "_law_three_here"] [] ["_law_book_here", "_law_letters", "_law_rule_here", "_law_told", "_law_due", "_law_k", "_law_sender", "_law_since", "_law_wish", "_law_last", "_law_row", "_law_number"] (defScope wl) _ from ⟨rfl,by decide +kernel,by decide +kernel,by decide +kernel,by decide +kernel⟩) (pi_list' rfl (xU (call_sortT) (by rfl) T.b_sorted PyProof.Rows.boot_sorted (xF (xI (pv 4) xM rfl)))) (fun _ _ _ _=>(xw (n:=3) rfl rfl (xQ (xO (i:=0) (show List.Nodup (["_law_one", "_law_two", "_law_three_here"]:List Str) from by decide +kernel) rfl (by first | exact Or.inl rfl | exact Or.inr rfl)) (xQ (xO (i:=1) (show List.Nodup (["_law_one", "_law_two", "_law_three_here"]:List Str) from by decide +kernel) rfl (by first | exact Or.inl rfl | exact Or.inr rfl)) (xQ (xO (i:=2) (show List.Nodup (["_law_one", "_law_two", "_law_three_here"]:List Str) from by decide +kernel) rfl (by first | exact Or.inl rfl | exact Or.inr rfl)) xv))))) (fun _ _ _ _=>wX) (fun _ _ _ _=>(xp (xF (xI pe_str (xI (pv 0) (xI (pv 1) (xI (pv 2) xM rfl) rfl) rfl) rfl))))) (nomark _))))))))),?_⟩
  have line:100002<=sizeLine:=by rw [sizeLine_eq];decide
  have lm:(List.map (fun y:Addr × M4=>y.2) ps).length=ps.length:=zA _
  have n60:=gd.len
  have lll:(ls.map fun x=>V.ref x.1).length=ls.length:=zA _
  refine (zr rfl (zr rfl ⟨ll,zr rfl ⟨.inl (SqL.of hll.1),fun lc hlc=>?_⟩⟩))
  have s1:=xL (o:=HO.lst (ls.map fun x=>V.ref x.1)) hlc
  have klc:upd H lc (HO.lst (ls.map fun x=>V.ref x.1)) lc=some (.lst (ls.map fun x=>V.ref x.1)):=xH
  generalize upd H lc (HO.lst (ls.map fun x=>V.ref x.1))=H1 at s1 klc ⊢
  refine (zr rfl (ex9 b lc r ls rooms tr tm ps d ⟨rfl,hb.same s1,r1,r12,(fun z hz=>by rw [r0 z hz];decide),gd,⟨klc,(hll.same s1).2⟩,l41,lb,hru.same s1,fun p4 dl tl kl ys rws tks t H2 s2 kp kdl dsa ly rok tw his oso ktl krws er kkl ktks wx tko fr=>?_⟩))
  have s02:=s1.trans s2
  have hb2:=hb.same s02
  have hll2:=hll.same s02
  have fb:=RuleD.first_b hru
  obtain ⟨pth,e1,e2,le1,le2,_,_⟩:=tok_of wx er tko tw gd fb
  obtain ⟨_,_,bT,bD⟩:=bare_run (d:=d) (ls:=ls) gd ⟨fun z hz=>by rw [r0 z hz];decide,fun M hM=>by rw [m99 M hM];decide⟩ l41 lb fb ps.length
  have eds:ys.map (·.2)=dsB (List.map (fun y:Addr × M4=>y.2) ps) ls (List.map (fun y:Addr × M4=>y.2) ps).length:=by rw [lm,wx.ds,bD]
  have erow:∀ (k:Nat) x L,rws[k]?=some x->ls[k]?=some L->x.2=bareT rooms.length L.2 (fsS (List.map (fun y:Addr × M4=>y.2) ps) L.2 (List.map (fun y:Addr × M4=>y.2) ps).length):=fun k x L hx hL=>by
   have h1:(rws.map (·.2))[k]?=some x.2:=by rw [zC,hx];rfl
   rw [e1,bT k L hL] at h1
   rw [lm];exact (Option.some.inj h1).symm
  clear bT bD e1 pth wx er tko tw his oso rok e2
  refine (zr rfl (zr rfl ⟨ll,zr rfl ⟨.inl (SqL.of hll2.1),p4,dl,tl,kl,ls.length,_,_,_,(by rw [lll];rfl),kp,kdl,ktl,kkl,by rw [zA];exact le1,by rw [zA];exact le2,(zr rfl (iteB0 rfl ?_))⟩⟩))
  refine ⟨by show 0<=sizeLine;omega,fun du hdu=>?_⟩
  have s3:=xL (o:=HO.lst []) hdu
  have k3:upd H2 du (HO.lst []) du=some (.lst (([]:List (Addr × List Int)).map fun a=>V.ref a.1)):=xH
  generalize upd H2 du (HO.lst [])=H3 at s3 k3 ⊢
  refine (zr rfl ⟨ll,zr rfl ⟨.inl (SqL.of (s3 _ _ hll2.1)),zr rfl ⟨by omega,by rw [lll];omega,?_⟩⟩⟩)
  refine for_range (lo:=0) (fun i σ H5=>∃ rs:List (Addr × List Int),(∃ v5 v6 v7 v8 v9 v10 v11,σ=[some (.ref b),some (.ref ll),some (.ref r),some (.ref p4),some (.ref du),v5,v6,v7,v8,v9,v10,v11])/\Same H2 H5/\H5 du=some (.lst (rs.map fun a=>V.ref a.1))/\(∀ a ∈ rs,H5 a.1=some (.tup (a.2.map V.int))/\a.2 ≠ [])/\rs.length<=i/\rs.map (·.2)=dueB (List.map (fun y:Addr × M4=>y.2) ps) ls (List.map (fun y:Addr × M4=>y.2) ps).length i) ⟨[],⟨_,_,_,_,_,_,_,rfl⟩,s3,k3,(fun _ z=>nomatch z),zJ _,rfl⟩ ?_ ?_
  ·clear s3 k3
   rintro i σ H5 hi ⟨rs,⟨v5,v6,v7,v8,v9,v10,v11,rfl⟩,s5,kdu,krs,lrs,ers⟩
   rw [xE]
   have hi':i < ls.length:=by rw [lll] at hi;simpa using hi
   obtain ⟨L,hL⟩:∃ L,ls[i]?=some L:=⟨_,zE hi'⟩
   obtain ⟨x,hx⟩:∃ x,rws[i]?=some x:=⟨_,zE (by omega)⟩
   have Lm:=zD hL
   have lbL:=lb L Lm
   have hl5:=hll2.same s5
   have hrow:H5 L.1=some (.tup [V.int (L.2.s:Int),V.int L.2.a,V.int (L.2.w:Int),V.int L.2.z]):=hl5.2 L Lm
   have low:atI (ls.map fun l=>V.ref l.1) (i:Int)=some (V.ref L.1):=xi (by rw [zC,hL];rfl)
   have atx:atI (rws.map fun l=>V.ref l.1) (i:Int)=some (V.ref x.1):=xi (by rw [zC,hx];rfl)
   refine (zr rfl (zr rfl (ixl hl5.1 low (un4 hrow ?_))))
   refine ⟨by show 1<=sizeLine;omega,fun l1 hl1=>?_⟩
   have s6:=xL (o:=HO.lst [V.non]) hl1
   have k6:upd H5 l1 (HO.lst [V.non]) l1=some (.lst [V.non]):=xH
   generalize upd H5 l1 (HO.lst [V.non])=H6 at s6 k6 ⊢
   have hb6:=hb2.same (s5.trans s6)
   refine (zr rfl (ixt hb6.book rfl ⟨tr,zr rfl ⟨.inr (SqT.of hb6.rooms),l1,zr2 rfl rfl ⟨k6,by omega,by rw [zA];omega,by rw [zA];show 1 * rooms.length<=sizeLine;omega,fun rl hrl=>?_⟩⟩⟩))
   have s7:=xL (o:=HO.lst (List.replicate ((rooms.map V.int).length:Int).toNat [V.non]).flatten) hrl
   have k7:upd H6 rl (HO.lst (List.replicate ((rooms.map V.int).length:Int).toNat [V.non]).flatten) rl=some (.lst ((List.replicate rooms.length (none:Option Int)).map oV)):=by
    rw [xH,zF,zA,List.flatten_replicate_singleton,yn];rfl
   generalize upd H6 rl (HO.lst (List.replicate ((rooms.map V.int).length:Int).toNat [V.non]).flatten)=H7 at s7 k7 ⊢
   have frl:H5 rl=none:=s6.free hrl
   have s57:=s6.trans s7
   have ixs:ixN ((List.replicate rooms.length (none:Option Int)).map oV).length (L.2.s:Int)=some L.2.s:=by unfold ixN;rw [if_pos (by omega),if_pos (by rw [zA,zY];omega),zF]
   refine (zr rfl (zr rfl (zr rfl ⟨rl,_,_,L.2.s,rfl,rfl,k7,ixs,?_⟩)))
   have b8:But rl H7 (upd H7 rl (HO.lst (((List.replicate rooms.length (none:Option Int)).map oV).set L.2.s (V.int L.2.a)))):=But.set
   have k8:upd H7 rl (HO.lst (((List.replicate rooms.length (none:Option Int)).map oV).set L.2.s (V.int L.2.a))) rl=some (.lst ((rep rooms.length (lone L.2.s L.2.a)).map oV)):=by
    rw [xH,<- set_lone lbL.1,zw];rfl
   generalize upd H7 rl (HO.lst (((List.replicate rooms.length (none:Option Int)).map oV).set L.2.s (V.int L.2.a)))=H8 at b8 k8 ⊢
   have s58:Same H5 H8:=But.same frl s57 b8
   refine (zr rfl (zr rfl (zr rfl (ixl (s58 _ _ hl5.1) low (ex7 b L.1 rooms tr tm ps L.2 ⟨rfl,hb2.same (s5.trans s58),by omega,s58 _ _ hrow,fun H9 s9=>?_⟩)))))
   have s59:=s58.trans s9
   have k9:=s9 _ _ k8
   have frl9:H2 rl=none:=s5.free frl
   have kdu9:=s59 _ _ kdu
   have ndr:du ≠ rl:=xJ kdu frl
   have krs9:∀ a ∈ rs,H9 a.1=some (.tup (a.2.map V.int))/\a.2 ≠ []:=fun a ha=>⟨s59 _ _ (krs a ha).1,(krs a ha).2⟩
   have ktl9:=(s5.trans s59) _ _ ktl
   have kp9:=(s5.trans s59) _ _ kp
   have kx9:=(s5.trans s59) _ _ (krws x (zD hx))
   have nrx:x.1 ≠ rl:=xJ (s5 _ _ (krws x (zD hx))) frl
   have ex:=erow i x L hx hL
   have ds:=dueB_succ (ms:=(List.map (fun y:Addr × M4=>y.2) ps)) (N:=(List.map (fun y:Addr × M4=>y.2) ps).length) hL
   cases ef:fsS (List.map (fun y:Addr × M4=>y.2) ps) L.2 (List.map (fun y:Addr × M4=>y.2) ps).length with
   | none=>
    have es:stV (List.map (fun y:Addr × M4=>y.2) ps) L.2=-1:=by unfold stV;rw [ef]
    rw [es]
    rw [ef] at ds ex
    have k9':H9 rl=some (.lst (x.2.map oV)):=by rw [ex];exact k9
    refine (zr rfl (zr2 rfl rfl (zr rfl (iteB0 (by decide) ?_))))
    exact (zr rfl (ixt kp9 rfl (zr rfl (ixl ktl9 atx (zr rfl ⟨x.1,rl,x.2,x.2,rfl,rfl,SqL.of kx9,SqL.of k9',zr rfl (iteB0 (by simp) ⟨rs,⟨_,_,_,_,_,_,_,rfl⟩,s5.trans s59,kdu9,krs9,by omega,by rw [ds,ers];exact (za _).symm⟩)⟩)))))
   | some y=>
    have es:stV (List.map (fun y:Addr × M4=>y.2) ps) L.2=(y.1:Int):=by unfold stV;rw [ef]
    rw [es]
    rw [ef] at ds ex
    obtain ⟨M,hM,eMt⟩:=fsS_is _ y ef
    obtain ⟨p0,hp0,rfl⟩:∃ p0,ps[y.1]?=some p0/\p0.2=M:=by rw [zC] at hM;exact Option.map_eq_some_iff.mp hM
    have hb9:=hb2.same (s5.trans s59)
    have hr9:H9 p0.1=some (.tup [V.int p0.2.lo,V.int p0.2.hi,V.int p0.2.t,V.int p0.2.m]):=hb9.rows p0 (zD hp0)
    have atm:atI (ps.map fun a=>V.ref a.1) (y.1:Int)=some (V.ref p0.1):=xi (by rw [zC,hp0];rfl)
    have ixw:ixN ((rep rooms.length (lone L.2.s L.2.a)).map oV).length (L.2.w:Int)=some L.2.w:=by unfold ixN;rw [if_pos (by omega),if_pos (by unfold rep;rw [zA,zA,zv];omega),zF]
    refine (zr rfl (zr2 rfl rfl (zr rfl (iteB1 (decide_eq_true (by omega)) ?_))))
    refine (zr rfl (ixt hb9.book rfl (zr rfl (ixt hb9.meets atm (ixt hr9 rfl (zr rfl (zr rfl ⟨rl,_,_,L.2.w,rfl,rfl,k9,ixw,?_⟩)))))))
    have b10:But rl H9 (upd H9 rl (HO.lst (((rep rooms.length (lone L.2.s L.2.a)).map oV).set L.2.w (V.int p0.2.t)))):=But.set
    have k10:upd H9 rl (HO.lst (((rep rooms.length (lone L.2.s L.2.a)).map oV).set L.2.w (V.int p0.2.t))) rl=some (.lst (x.2.map oV)):=by
     rw [xH,ex,eMt]
     show _=some (HO.lst (((rep rooms.length (lone L.2.s L.2.a)).set L.2.w (some y.2)).map oV))
     rw [zw];rfl
    generalize upd H9 rl (HO.lst (((rep rooms.length (lone L.2.s L.2.a)).map oV).set L.2.w (V.int p0.2.t)))=H10 at b10 k10 ⊢
    have s510:Same H5 H10:=But.same frl s59 b10
    refine (zr rfl ⟨.inl ⟨rfl,_,SqL.of (s510 _ _ kdu)⟩,zr rfl (zr rfl (zr rfl ⟨by show 3<=sizeLine;omega,fun tt htt=>?_⟩))⟩)
    have s11:=xL (o:=HO.tup [V.int (y.1:Int),V.int (i:Int),V.int (L.2.s:Int)]) htt
    have k11:upd H10 tt (HO.tup [V.int (y.1:Int),V.int (i:Int),V.int (L.2.s:Int)]) tt=some (.tup [V.int (y.1:Int),V.int (i:Int),V.int (L.2.s:Int)]):=xH
    generalize upd H10 tt (HO.tup [V.int (y.1:Int),V.int (i:Int),V.int (L.2.s:Int)])=H11 at s11 k11 ⊢
    have s511:=s510.trans s11
    have kdu11:=s511 _ _ kdu
    refine ⟨du,zr2 rfl rfl ⟨kdu11,by rw [zA];omega,?_⟩⟩
    have b12:But du H11 (upd H11 du (HO.lst ((rs.map fun a=>V.ref a.1) ++ [V.ref tt]))):=But.set
    have k12:upd H11 du (HO.lst ((rs.map fun a=>V.ref a.1) ++ [V.ref tt])) du=some (.lst ((rs ++ [(tt,[(y.1:Int),(i:Int),(L.2.s:Int)])]).map fun a=>V.ref a.1)):=by rw [xH,zN];rfl
    generalize upd H11 du (HO.lst ((rs.map fun a=>V.ref a.1) ++ [V.ref tt]))=H12 at b12 k12 ⊢
    have s212:Same H2 H12:=But.same hdu (s5.trans s511) b12
    have krl12:=b12 _ _ ndr.symm (s11 _ _ k10)
    have ndt:tt ≠ du:=fun z=>by rw [z,kdu11] at k11;cases k11
    have ndrs:∀ a ∈ rs,a.1 ≠ du:=fun a ha z=>by have:=s511 _ _ (krs a ha).1;rw [z,kdu11] at this;cases this
    refine (zr rfl (ixt (s212 _ _ kp) rfl (zr rfl (ixl (s212 _ _ ktl) atx (zr rfl ⟨x.1,rl,x.2,x.2,rfl,rfl,SqL.of (s212 _ _ (krws x (zD hx))),SqL.of krl12,zr rfl (iteB0 (by simp) ⟨rs ++ [(tt,[(y.1:Int),(i:Int),(L.2.s:Int)])],⟨_,_,_,_,_,_,_,rfl⟩,s212,k12,fun a ha=>?_,by rw [zT];show _ + 1<=_;omega,by rw [zN,ers,ds];rfl⟩)⟩)))))
    rcases zW.mp ha with z | z
    ·exact ⟨b12 _ _ (ndrs a z) (s511 _ _ (krs a z).1),(krs a z).2⟩
    ·cases zI.mp z
     exact ⟨b12 _ _ ndt k11,List.cons_ne_nil _ _⟩
  clear s3 k3
  rintro σ H5 ⟨rs,⟨v5,v6,v7,v8,v9,v10,v11,rfl⟩,s5,kdu,krs,lrs,ers⟩
  rw [lll,zF] at lrs ers
  refine (zr rfl (ixt (s5 _ _ kp) rfl (zr rfl ⟨du,rs,rfl,SqL.of kdu,by omega,krs,fun sl qs fsl pm pw=>?_⟩)))
  have eq2:qs.map (·.2)=(dsB (List.map (fun y:Addr × M4=>y.2) ps) ls (List.map (fun y:Addr × M4=>y.2) ps).length).map rowD:=bare_sorted (by rw [<-ers];exact pm.map _) (List.pairwise_map.mpr pw)
  have s6:=xL (o:=HO.lst (qs.map fun a=>V.ref a.1)) fsl
  have ksl:upd H5 sl (HO.lst (qs.map fun a=>V.ref a.1)) sl=some (.lst (qs.map fun a=>V.ref a.1)):=xH
  have kqs:∀ a ∈ qs,upd H5 sl (HO.lst (qs.map fun a=>V.ref a.1)) a.1=some (.tup (a.2.map V.int)):=fun a ha=>s6 _ _ (krs a (pm.mem_iff.mp ha)).1
  generalize upd H5 sl (HO.lst (qs.map fun a=>V.ref a.1))=H6 at s6 ksl kqs ⊢
  have lqs:qs.length<=41:=by rw [pm.length_eq];omega
  refine ⟨sl,rfl,⟨_,SqL.of ksl⟩,?_⟩
  refine comp_list (K:=K) (a:=sl) (xs:=qs.map fun a=>V.ref a.1) (fun j τ acc H7=>∃ zs:List (Addr × Dd),(∃ t0 t1 t2,τ=[t0,t1,t2])/\acc=(zs.map fun z=>V.ref z.1)/\zs.map (·.2)=(dsB (List.map (fun y:Addr × M4=>y.2) ps) ls (List.map (fun y:Addr × M4=>y.2) ps).length).take j/\zs.length<=j/\DsAt H7 zs/\Same H6 H7) ⟨[],⟨_,_,_,rfl⟩,rfl,rfl,zJ _,(fun _ z=>nomatch z),Same.refl _⟩ (by rw [zA];omega) ?_ ?_ ?_
  ·rintro j τ acc H7 ⟨zs,_,rfl,_,lz,_,s7⟩
   exact ⟨by rw [zA];exact lz,SqL.of (s7 _ _ ksl)⟩
  ·rintro j v τ acc H7 C hv ⟨zs,⟨t0,t1,t2,rfl⟩,rfl,ez,lz,dz,s7⟩ hC
   obtain ⟨u,hu,rfl⟩:=xz hv
   obtain ⟨dd,hdd⟩:∃ dd,(dsB (List.map (fun y:Addr × M4=>y.2) ps) ls (List.map (fun y:Addr × M4=>y.2) ps).length)[j]?=some dd:=by
    have l1:=congrArg List.length eq2
    rw [zA,zA] at l1
    exact ⟨_,zE (by rw [<-l1];exact (zB.mp hu).1)⟩
   have eu:u.2=rowD dd:=by
    have h1:(qs.map (·.2))[j]?=some u.2:=by rw [zC,hu];rfl
    rw [eq2,zC,hdd] at h1
    exact (Option.some.inj h1).symm
   obtain ⟨j0,L0,y0,_,_,_,edd⟩:=(mem_dsB (List.map (fun y:Addr × M4=>y.2) ps).length (zJ _)).mp (zD hdd)
   have ku:H7 u.1=some (.tup [V.int (y0.1:Int),V.int (j0:Int),V.int (L0.2.s:Int)]):=by
    have:=s7 _ _ (kqs u (zD hu));rw [eu,edd] at this;exact this
   refine (un3 ku (zr rfl (zr rfl (zr rfl ⟨by show 4<=sizeLine;omega,fun t9 ht9=>hC _ _ _ ⟨zs ++ [(t9,dd)],⟨_,_,_,rfl⟩,by rw [zN];rfl,by rw [zN,ez,wI hdd];rfl,by rw [zT];show _ + 1<=_;omega,fun z hz=>?_,s7.trans (xL ht9)⟩⟩))))
   rcases zW.mp hz with h | h
   ·exact xL ht9 _ _ (dz z h)
   ·rw [zI.mp h,edd];exact xH
  rintro τ acc H7 ⟨zs,_,rfl,ez,lz,dz,s7⟩ zl hzl
  have l1:=congrArg List.length eq2
  rw [zA,zA] at l1
  rw [zA,l1,yj] at ez
  have s8:=xL (o:=HO.lst (zs.map fun z=>V.ref z.1)) hzl
  have s28:=s5.trans (s6.trans (s7.trans s8))
  exact eq_deeds (s28 _ _ kdl) xH (dsa.same s28) (dz.same s8) (eds.trans ez.symm) (q _ (s02.trans s28))
theorem sc_law:FnScope ["_law_script", "_law_book_here", "_law_letters", "_law_k", "_law_rule_here", "_law_wide_here", "_law_handed", "_law_told", "_law_due", "_law_alone"] ["_law_script"] (defScope s_law):=⟨rfl,rfl,rfl,by decide +kernel,rfl,by decide +kernel,by decide +kernel⟩
theorem ok_law (T:Tx K mg a t_MOST_TOKENS):FnOk P w K mg base CX0 9 a.a_law a.d_law ["_law_script"] (spLaw K):=by
 have G__law_purse:=@ok__law_purse P w _ _ base _ _ T
 have G__law_book:=@ok__law_book P w _ _ base _ _ T
 have G__law_letter:=@ok__law_letter P w _ _ base _ _ T
 have G_run:=@ok_run P w _ _ base _ _ T
 have G__law_wide:=@ok__law_wide P w _ _ base _ _ T
 have G__law_rule:=@ok__law_rule P w _ _ base _ _ T
 have G__law_three:=@ok__law_three P w _ _ base _ _ T
 have G__law_bare_so:=@ok__law_bare_so P w _ _ base _ _ T
 refine T.F_law.ok sc_law (fun vs H Q E h=>?_) (fun cdv A outer s H vs Q E hr h=>?_)
 ·obtain ⟨_,_,rfl,_⟩:=h;rfl
 ·have nd:=sc_law.nd
  have hu:=hr.units
  obtain ⟨sa,ns,rfl,hS,hn,q⟩:=h
  refine ⟨_,(xK (xW (xX (i:=1) nd rfl (by first | exact Or.inl rfl | exact Or.inr rfl) (xP G__law_book (hr.mono (by decide)) rfl T.m__law_book T.k__law_book T.i__law_book .nil pass0 (xF (xI (xP G__law_purse (hr.mono (by decide)) rfl T.m__law_purse T.k__law_purse T.i__law_purse .nil pass0 (xF (xI (pv 0) (xI xG xM rfl) rfl))) (xI xG (xI xG xM rfl) rfl) rfl)))) (xW (xX (i:=2) nd rfl (by first | exact Or.inl rfl | exact Or.inr rfl) (xu pa_nil)) (xW (ps_for PassesOwn.never rfl (pi_range2 rfl T.b_range (xF (xI xG (xI (xU (call_min2 rfl) (by rfl) T.b_min PyProof.Rows.boot_min (xF (xI (xU (call_max2 rfl) (by rfl) T.b_max PyProof.Rows.boot_max (xF (xI (xU (xR rfl) (by rfl) T.b_len PySem.boot_len (xF (xI (pv 0) xM rfl))) (xI xG xM rfl) rfl))) (xI xG xM rfl) rfl))) xM rfl) rfl))) (xO (i:=3) nd rfl (by first | exact Or.inl rfl | exact Or.inr rfl)) (xK (xf (wG (pe_bm yM yJ yK mt_append (pv 2) (xF (xI (xP G__law_letter (hr.mono (by decide)) rfl T.m__law_letter T.k__law_letter T.i__law_letter .nil pass0 (xF (xI (xP G__law_purse (hr.mono (by decide)) rfl T.m__law_purse T.k__law_purse T.i__law_purse .nil pass0 (xF (xI (pv 0) (xI (pv 3) xM rfl) rfl))) (xI (pv 1) xM rfl) rfl))) xM rfl))))))) (xW (xX (i:=4) nd rfl (by first | exact Or.inl rfl | exact Or.inr rfl) (xP G__law_rule (hr.mono (by decide)) rfl T.m__law_rule T.k__law_rule T.i__law_rule .nil pass0 (xF (xI (xP G__law_purse (hr.mono (by decide)) rfl T.m__law_purse T.k__law_purse T.i__law_purse .nil pass0 (xF (xI (pv 0) (xI xG xM rfl) rfl))) (xI (xP G__law_purse (hr.mono (by decide)) rfl T.m__law_purse T.k__law_purse T.i__law_purse .nil pass0 (xF (xI (pv 0) (xI xG xM rfl) rfl))) (xI (xU (xR rfl) (by rfl) T.b_len PySem.boot_len (xF (xI (xS (xT rfl) (pv 1) xG (fun _ _=>rfl)) xM rfl))) xM rfl) rfl) rfl)))) (xW (xX (i:=5) nd rfl (by first | exact Or.inl rfl | exact Or.inr rfl) (xP G__law_wide (hr.mono (by decide)) rfl T.m__law_wide T.k__law_wide T.i__law_wide .nil pass0 (xF (xI (pv 1) (xI xG xM rfl) rfl)))) (xW (xX (i:=6) nd rfl (by first | exact Or.inl rfl | exact Or.inr rfl) (wC (call_list_of' rfl) (by rfl) T.b_list yX (xF (xI (pv 2) xM rfl)))) (xW (xX (i:=7) nd rfl (by first | exact Or.inl rfl | exact Or.inr rfl) (xP G_run (hr.mono (by decide)) rfl T.m_run T.k_run T.i_run .nil pass0 (xF (xI (pv 5) (xI (pv 6) (xI (pv 4) xM rfl) rfl) rfl)))) (xW (xh (PW.pt (pw_or (pt_not (wR (xP G__law_three (hr.mono (by decide)) rfl T.m__law_three T.k__law_three T.i__law_three .nil pass0 (xF (xI (pv 7) (xI (xU (xR rfl) (by rfl) T.b_len PySem.boot_len (xF (xI (pv 2) xM rfl))) xM rfl) rfl))))) (pw_or1 (xV (op_neE hu) (pv 6) (pv 2) (nomark _))))) (xK (xf (xb pe_bl))) xZ) (xW (ps_for PassesOwn.never rfl (wH rfl T.b_range (xF (xI (xU (xR rfl) (by rfl) T.b_len PySem.boot_len (xF (xI (pv 2) xM rfl))) xM rfl))) (xO (i:=3) nd rfl (by first | exact Or.inl rfl | exact Or.inr rfl)) (xK (xW (ps_setComp (ix:=8) nd rfl (by first | exact Or.inl rfl | exact Or.inr rfl) (own:=["_law_deed"]) (caps:=[3]) rfl (show CompScope ["_law_deed"] [3] ["_law_script", "_law_book_here", "_law_letters", "_law_k", "_law_rule_here", "_law_wide_here", "_law_handed", "_law_told", "_law_due", "_law_alone"] (defScope s_law) _ from ⟨rfl,by decide +kernel,by decide +kernel,by decide +kernel,by decide +kernel⟩) (pi_list' rfl (xS (xT rfl) (pv 7) xG (fun _ _=>rfl))) (fun _ _ _ _=>(xO (i:=0) (show List.Nodup (["_law_deed", "_law_k"]:List Str) from by decide +kernel) rfl (by first | exact Or.inl rfl | exact Or.inr rfl))) (fun _ _ _ _=>pts_one (xV wE (xS (xT rfl) (pv 0) xG (fun _ _=>rfl)) (pv 1) (nomark _))) (fun _ _ _ _=>(xp (xF (xI pe_str (xI (xS (xT rfl) (pv 0) xG (fun _ _=>rfl)) (xI xG (xI (xS (xT rfl) (pv 0) xG (fun _ _=>rfl)) xM rfl) rfl) rfl) rfl))))) (xW (xX (i:=9) nd rfl (by first | exact Or.inl rfl | exact Or.inr rfl) (xP G_run (hr.mono (by decide)) rfl T.m_run T.k_run T.i_run .nil pass0 (xF (xI (pv 5) (xI (xu (xF (xI (xS (xY rfl) (pv 2) (pv 3) (fun _ _=>rfl)) xM rfl))) (xI (pv 4) xM rfl) rfl) rfl)))) (xf (xh (xV (op_neE hu) (pv 9) (xp (xF (xI (pv 8) (xI (xu (xF (xI (xS (xY rfl) (xS (xT rfl) (pv 7) xG (fun _ _=>rfl)) (pv 3) (fun _ _=>rfl)) xM rfl))) (xI (xu (xF (xI (xS (xY rfl) (xS (xT rfl) (pv 7) xG (fun _ _=>rfl)) (pv 3) (fun _ _=>rfl)) xM rfl))) xM rfl) rfl) rfl))) (nomark _)) (xK (xf (xb pe_bl))) xZ)))))) (xf (xb (xP G__law_bare_so (hr.mono (by decide)) rfl T.m__law_bare_so T.k__law_bare_so T.i__law_bare_so .nil pass0 (xF (xI (xP G__law_wide (hr.mono (by decide)) rfl T.m__law_wide T.k__law_wide T.i__law_wide .nil pass0 (xF (xI (pv 1) (xI xG xM rfl) rfl))) (xI (pv 2) (xI (pv 4) xM rfl) rfl) rfl))))))))))))))),?_⟩
  have line:100002<=sizeLine:=by rw [sizeLine_eq];decide
  refine (zr rfl ⟨sa,ns,0,rfl,hS,by omega,fun p H1 hp pu s1=>⟨p,12,60,rfl,by decide,by decide,by decide,pu,fun b rooms tr tm ps H2 g2 hb r1 r12 rr gd lps=>?_⟩⟩)
  have s2:Same H H2:=But.same hp s1 g2.1
  have r12':rooms.length<=12:=by omega
  clear hp pu s1 g2
  refine ⟨by show 0<=sizeLine;omega,fun ll hll=>?_⟩
  have s5:=xL (o:=HO.lst []) hll
  have k5:upd H2 ll (HO.lst []) ll=some (.lst ([]:List V)):=xH
  generalize upd H2 ll (HO.lst [])=H5 at s5 k5 ⊢
  refine (zr rfl ⟨sa,zr rfl ⟨.inl ((s2.trans s5).seq hS),zr1 rfl (zr1 rfl (zr1 rfl ⟨?_,?_⟩))⟩⟩)
  ·refine ⟨by decide,by decide,?_,?_⟩
   ·split <;> omega
   ·rw [zA];split <;> (try split) <;> omega
  refine for_range (lo:=3) (fun i σ H8=>∃ ls,(∃ v3,σ=[some (.ref sa),some (.ref b),some (.ref ll),v3,none,none,none,none,none,none])/\Same H2 H8/\LetsL H8 ll ls/\(∀ l ∈ ls,l.2.s < rooms.length/\l.2.w < rooms.length)/\ls.length=i) ⟨[],⟨_,rfl⟩,s5,⟨k5,fun _ z=>nomatch z⟩,(fun _ z=>nomatch z),rfl⟩ ?_ ?_
  ·clear s5 k5
   rintro i σ H8 hi ⟨ls,⟨v3,rfl⟩,s8,hL8,lr8,lls⟩
   have i60:i < 13:=by
    rw [zA] at hi
    revert hi
    split <;> (try split) <;> intro h <;> omega
   refine (zr rfl ⟨.inl ⟨rfl,_,SqL.of hL8.1⟩,?_⟩)
   refine (zr rfl (zr rfl ⟨sa,ns,3 + i,by simp,(s2.trans s8).seq hS,by omega,fun p2 H9 hp2 pu9 s9=>?_⟩))
   refine (zr rfl (ex6 p2 b rooms tr tm ps ⟨rfl,(hb.same s8).same s9,r1,by omega,gd,pu9,fun t s0 a0 w0 z0 HA gA ht s1' s2' w1' w2' a1' a2' z1' z2'=>?_⟩))
   obtain ⟨s0,rfl⟩:=zO s1'
   obtain ⟨w0,rfl⟩:=zO w1'
   have sA:Same H8 HA:=But.same hp2 s9 gA.1
   have hLA:=hL8.same sA
   have tA:=Tups.set (o:=HO.lst ((ls.map fun x=>V.ref x.1) ++ [V.ref t])) hLA.1
   refine ⟨ll,zr2 rfl rfl ⟨hLA.1,by rw [zA];omega,ls ++ [(t,⟨s0,w0,a0,z0⟩)],⟨_,rfl⟩,Same.put hll (s8.trans sA),⟨by rw [xH,zN];rfl,fun x hx=>?_⟩,fun x hx=>?_,by rw [zT,lls];rfl⟩⟩
   ·rcases zW.mp hx with h | h
    ·exact tA _ _ (hLA.2 x h)
    ·cases zI.mp h
     exact tA _ _ ht
   ·rcases zW.mp hx with h | h
    ·exact lr8 x h
    ·cases zI.mp h
     exact ⟨by show s0 < rooms.length;omega,by show w0 < rooms.length;omega⟩
  rintro σ H6 ⟨ls,⟨v3,rfl⟩,s6,hL6,lb,lls⟩
  have l12:ls.length<=12:=by
   rw [lls,zA]
   split <;> (try split) <;> omega
  clear lls s5 k5
  have s06:=s2.trans s6
  have hb6:=hb.same s6
  refine (zr rfl ⟨sa,ns,1,rfl,s06.seq hS,by omega,fun p1 H7 hp1 pu1 s7=>(zr rfl ⟨sa,ns,2,rfl,(s06.trans s7).seq hS,by omega,fun p2 H8 hp2 pu2 s8=>?_⟩)⟩)
  have hb8:=hb6.same (s7.trans s8)
  have np:p1 ≠ p2:=fun z=>by obtain ⟨x,y,w,e⟩:=pu1;rw [z,hp2] at e;cases e
  refine (zr rfl (ixt hb8.book rfl ⟨tr,zr rfl ⟨.inr (SqT.of hb8.rooms),p1,p2,rooms.length,(by rw [zA];rfl),r1,r12',pu1.same s8,pu2,np,fun r d H9 kept hru=>?_⟩⟩))
  have s69:Same H6 H9:=fun c o e=>kept c o (xJ e hp1) (xJ (s7 _ _ e) hp2) (s8 _ _ (s7 _ _ e))
  clear kept hp1 hp2 pu1 pu2 s7 s8 hb8 np
  have hb9:=hb6.same s69
  have hL9:=hL6.same s69
  refine (zr rfl (ex6 b 99 rooms tr tm ps ⟨rfl,hb9,r12',lps,fun b2 tr2 tm2 ps2 H10 s10 hb2 em2=>?_⟩))
  obtain ⟨R9,eR9⟩:∃ R9,R9=List.replicate rooms.length (99:Int):=⟨_,rfl⟩
  rw [<-eR9] at hb2
  have lR9:R9.length=rooms.length:=by rw [eR9,zY]
  have aR9:∀ z ∈ R9,z=99:=fun z hz=>by rw [eR9] at hz;exact List.eq_of_mem_replicate hz
  have lps2:ps2.length=ps.length:=by have:=congrArg List.length em2;rwa [zA,zA,zA] at this
  have gd2:Good R9.length (ps2.map (·.2)):=by rw [lR9,em2];exact gd.wide
  have m99:∀ M ∈ ps2.map (·.2),M.m=99:=fun M hM=>by rw [em2] at hM;obtain ⟨M',_,rfl⟩:=zM.mp hM;rfl
  have wd:WideB R9 (ps2.map (·.2)):=⟨fun z hz=>by rw [aR9 z hz];decide,fun M hM=>by rw [m99 M hM];decide⟩
  clear eR9
  have hL10:=hL9.same s10
  refine (zr rfl ⟨ll,zr rfl ⟨.inl (SqL.of hL10.1),fun lc hlc=>?_⟩⟩)
  have s11:=xL (o:=HO.lst (ls.map fun x=>V.ref x.1)) hlc
  have klc:upd H10 lc (HO.lst (ls.map fun x=>V.ref x.1)) lc=some (.lst (ls.map fun x=>V.ref x.1)):=xH
  generalize upd H10 lc (HO.lst (ls.map fun x=>V.ref x.1))=H11 at s11 klc ⊢
  have hL11:=hL10.same s11
  have hb211:=hb2.same s11
  have hru11:RuleIs a.c_AllMet a.c_Halves a.c_Nearer H11 r R9.length d:=by rw [lR9];exact hru.same (s10.trans s11)
  have lb2:∀ l ∈ ls,l.2.s < R9.length/\l.2.w < R9.length:=fun l hl=>by rw [lR9];exact lb l hl
  have r0:∀ z ∈ R9,(0:Int)<=z:=fun z hz=>by rw [aR9 z hz];decide
  have fb:=RuleD.first_b hru
  have s011:=s06.trans (s69.trans (s10.trans s11))
  have hb11:=hb9.same (s10.trans s11)
  have hrb:RuleIs a.c_AllMet a.c_Halves a.c_Nearer H11 r rooms.length d:=hru.same (s10.trans s11)
  clear hb2 hL10 hL9 hL6 hb9 hb6 hru s69 s6 s06 s2 hb s10 s11
  refine (zr rfl (zr rfl (zr rfl ⟨b2,lc,r,ls,R9,tr2,tm2,ps2,d,rfl,hb211,by omega,by omega,r0,gd2,⟨klc,hL11.2⟩,by omega,lb2,hru11,fun p4 dl tl kl ys rws tks t H12 s12 kp kdl dsa ly rok tw his oso ktl krws er kkl ktks wx tko fr=>?_⟩)))
  obtain ⟨pth,_,_,le1,le2,_,_⟩:=tok_of wx er tko tw gd2 fb
  have cop:∀ y ∈ ys,IsCopy (ps2.map (·.2)) ls.length y.2:=fun y hy=>pth.copies y.2 (zM.mpr ⟨y,hy,rfl⟩)
  have ly2:ys.length<=720:=by
   have h1:=run_len (rooms:=R9) (ms:=ps2.map (·.2)) (ls:=ls) (d:=d) ps2.length
   rw [<-wx.ds,zA] at h1
   have h2:ps2.length * ls.length<=60 * 12:=Nat.mul_le_mul (by omega) l12
   omega
  have wide:=fun {i:Nat}{L:Addr × L4} (hL:ls[i]?=some L)=>wide_of wx er tko tw gd2 wd (by omega) fb hL
  clear pth wx er tko tw his oso rok fr
  have lll:(ls.map fun x=>V.ref x.1).length=ls.length:=zA _
  have hL12:=hL11.same s12
  refine (zr rfl (zr rfl ⟨ll,zr rfl ⟨.inl (SqL.of hL12.1),p4,dl,tl,kl,ls.length,_,_,_,(by rw [lll];rfl),kp,kdl,ktl,kkl,by rw [zA];exact le1,by rw [zA];exact le2,(zr rfl (iteB0 rfl ?_))⟩⟩))
  refine (zr rfl (zr rfl (eq_refsL (neg:=true) (xs:=ls.map fun x=>V.ref x.1) (s12 _ _ klc) hL12.1 (fun x hx=>by obtain ⟨y,_,rfl⟩:=zM.mp hx;exact ⟨_,rfl⟩) (zr rfl (iteB0 rfl ?_)))))
  refine (zr rfl ⟨ll,zr rfl ⟨.inl (SqL.of hL12.1),zr rfl ⟨by omega,by rw [lll];omega,?_⟩⟩⟩)
  refine for_range (lo:=0) (fun i σ H13=>(∃ v3 v8 v9,σ=[some (.ref sa),some (.ref b),some (.ref ll),v3,some (.ref r),some (.ref b2),some (.ref lc),some (.ref p4),v8,v9])/\Same H12 H13) ⟨⟨_,_,_,rfl⟩,Same.refl _⟩ ?_ ?_
  ·rintro i σ H13 hi ⟨⟨v3,v8,v9,rfl⟩,s13⟩
   rw [xE]
   have hi':i < ls.length:=by rw [lll] at hi;simpa using hi
   obtain ⟨L,hL⟩:∃ L,ls[i]?=some L:=⟨_,zE hi'⟩
   obtain ⟨x,y,hx,hy,ex,ey,eds⟩:=wide hL
   have kp13:=s13 _ _ kp
   have kdl13:=s13 _ _ kdl
   refine (zr rfl (ixt kp13 rfl ⟨dl,rfl,⟨_,SqL.of kdl13⟩,?_⟩))
   refine comp_list (K:=K) (a:=dl) (xs:=ys.map fun y=>V.ref y.1) (fun j τ acc H14=>∃ zs:List (Addr × Dd),(∃ t0,τ=[t0,some (.int (i:Int))])/\acc=(zs.map fun z=>V.ref z.1)/\zs.map (·.2)=(((ys.map (·.2)).take j).filterMap (pickD i)).map toD0/\zs.length<=j/\DsAt H14 zs/\Same H13 H14) ⟨[],⟨_,rfl⟩,rfl,rfl,zJ _,(fun _ z=>nomatch z),Same.refl _⟩ (by rw [zA];omega) ?_ ?_ ?_
   ·rintro j τ acc H14 ⟨zs,_,rfl,_,lz,_,s14⟩
    exact ⟨by rw [zA];exact lz,SqL.of (s14 _ _ kdl13)⟩
   ·rintro j v τ acc H14 C hv ⟨zs,⟨t0,rfl⟩,rfl,ez,lz,dz,s14⟩ hC
    obtain ⟨u,hu,rfl⟩:=xz hv
    obtain ⟨m,l0,g,M,e0,_,_,_⟩:=cop u (zD hu)
    have hu2:(ys.map (·.2))[j]?=some u.2:=by rw [zC,hu];rfl
    have ku:H14 u.1=some (.tup [V.str (Str.ofString "copy"),V.int (m:Int),V.int (l0:Int),V.int g]):=by
     have:=(s13.trans s14) _ _ (dsa u (zD hu));rw [e0] at this;exact this
    refine (zr rfl (ixt ku rfl (zr rfl ⟨rfl,zr rfl ?_⟩)))
    by_cases c:l0=i
    ·have pk:pickD i u.2=some ((m:Int),g):=by rw [e0,c];show (if ((i:Nat):Int)=((i:Nat):Int) then some ((m:Int),g) else none)=_;rw [if_pos rfl]
     refine iteB1 (by rw [c];simp) (zr rfl (ixt ku rfl (zr rfl (ixt ku rfl ⟨by show 4<=sizeLine;omega,fun t9 ht9=>hC _ _ _ ⟨zs ++ [(t9,toD0 ((m:Int),g))],⟨_,rfl⟩,by rw [zN];rfl,by rw [zN,ez,wI hu2,zy,zN,zi,pk];rfl,by rw [zT];show _ + 1<=_;omega,fun z hz=>?_,s14.trans (xL ht9)⟩⟩))))
     rcases zW.mp hz with h | h
     ·exact xL ht9 _ _ (dz z h)
     ·rw [zI.mp h];exact xH
    ·have pk:pickD i u.2=none:=by rw [e0];show (if ((l0:Nat):Int)=((i:Nat):Int) then some ((m:Int),g) else none)=_;rw [if_neg (by omega)]
     exact iteB0 (by simp;omega) (hC _ _ _ ⟨zs,⟨_,rfl⟩,rfl,by rw [ez,wI hu2,zy,zi,pk];exact congrArg _ (za _).symm,by omega,dz,s14⟩)
   rintro τ acc H14 ⟨zs,_,rfl,ez,lz,dz,s14⟩ du hdu
   rw [zA,List.take_of_length_le (by rw [zA];exact zJ _),eds] at ez
   have s15:=xL (o:=HO.lst (zs.map fun z=>V.ref z.1)) hdu
   have kdu:upd H14 du (HO.lst (zs.map fun z=>V.ref z.1)) du=some (.lst (zs.map fun z=>V.ref z.1)):=xH
   have dz15:=dz.same s15
   generalize upd H14 du (HO.lst (zs.map fun z=>V.ref z.1))=H15 at s15 kdu dz15 ⊢
   have s1215:=s13.trans (s14.trans s15)
   have hL15:=hL12.same s1215
   have low:atI (ls.map fun l=>V.ref l.1) (i:Int)=some (V.ref L.1):=xi (by rw [zC,hL];rfl)
   refine (zr rfl (zr rfl (zr rfl (ixl hL15.1 low ⟨by show 1<=sizeLine;omega,fun l1 hl1=>?_⟩))))
   have s16:=xL (o:=HO.lst [V.ref L.1]) hl1
   have kl1:upd H15 l1 (HO.lst [V.ref L.1]) l1=some (.lst [V.ref L.1]):=xH
   generalize upd H15 l1 (HO.lst [V.ref L.1])=H16 at s16 kl1 ⊢
   have s1116:=s12.trans (s1215.trans s16)
   have Lm:=zD hL
   refine (zr rfl ⟨b2,l1,r,[L],R9,tr2,tm2,ps2,d,rfl,hb211.same s1116,by omega,by omega,r0,gd2,⟨kl1,fun l hl=>by rw [zI.mp hl];exact (hL11.same s1116).2 L Lm⟩,(by show 1<=41;decide),(fun l hl=>by rw [zI.mp hl];exact lb2 L Lm),hru11.same s1116,fun p5 dl5 tl5 kl5 ys5 rws5 tks5 t5 H17 s17 kp5 kdl5 dsa5 ly5 rok5 tw5 his5 oso5 ktl5 krws5 er5 kkl5 ktks5 wx5 tko5 fr5=>?_⟩)
   obtain ⟨pth5,_,_,le51,le52,_,_⟩:=tok_of wx5 er5 tko5 tw5 gd2 fb
   have cop5:∀ x ∈ ys5.map (·.2),IsCopy (ps2.map (·.2)) 1 x:=fun x hx=>pth5.copies x hx
   obtain ⟨x5,y5,hx5,hy5,ex5,ey5,eds5⟩:=wide_of (i:=0) (L:=L) wx5 er5 tko5 tw5 gd2 wd (by show 1<=41;decide) fb rfl
   have e5:=alone_ds cop5
   rw [eds5] at e5
   obtain rfl:rws5=[x5]:=by
    match rws5,hx5,le51 with
    | [z],hx5,_=>cases hx5;rfl
   obtain rfl:tks5=[y5]:=by
    match tks5,hy5,le52 with
    | [z],hy5,_=>cases hy5;rfl
   clear pth5 wx5 er5 tko5 tw5 his5 oso5 rok5 fr5 cop5 eds5 eds
   have s1217:=s1215.trans (s16.trans s17)
   have kp17:=s1217 _ _ kp
   have ktl17:=s1217 _ _ ktl
   have kkl17:=s1217 _ _ kkl
   have atx:atI (rws.map fun l=>V.ref l.1) (i:Int)=some (V.ref x.1):=xi (by rw [zC,hx];rfl)
   have aty:atI (tks.map fun l=>V.ref l.1) (i:Int)=some (V.ref y.1):=xi (by rw [zC,hy];rfl)
   refine (zr rfl (zr rfl (zr rfl (ixt kp17 rfl (zr rfl (ixl ktl17 atx ⟨by show 1<=sizeLine;omega,fun l2 hl2=>?_⟩))))))
   have s18:=xL (o:=HO.lst [V.ref x.1]) hl2
   have kl2:upd H17 l2 (HO.lst [V.ref x.1]) l2=some (.lst [V.ref x.1]):=xH
   generalize upd H17 l2 (HO.lst [V.ref x.1])=H18 at s18 kl2 ⊢
   refine (zr rfl (ixt (s18 _ _ kp17) rfl (zr rfl (ixl (s18 _ _ kkl17) aty ⟨by show 1<=sizeLine;omega,fun l3 hl3=>?_⟩))))
   have s19:=xL (o:=HO.lst [V.ref y.1]) hl3
   have kl3:upd H18 l3 (HO.lst [V.ref y.1]) l3=some (.lst [V.ref y.1]):=xH
   generalize upd H18 l3 (HO.lst [V.ref y.1])=H19 at s19 kl3 ⊢
   refine ⟨by show 3<=sizeLine;omega,fun q0 hq0=>?_⟩
   have s20:=xL (o:=HO.tup [V.ref du,V.ref l2,V.ref l3]) hq0
   have kq0:upd H19 q0 (HO.tup [V.ref du,V.ref l2,V.ref l3]) q0=some (.tup [V.ref du,V.ref l2,V.ref l3]):=xH
   generalize upd H19 q0 (HO.tup [V.ref du,V.ref l2,V.ref l3])=H20 at s20 kq0 ⊢
   have s1720:=s18.trans (s19.trans s20)
   have s1520:=s16.trans (s17.trans s1720)
   have s1220:=s1217.trans s1720
   have kx20:=s1220 _ _ (krws x (zD hx))
   have ky20:=s1220 _ _ (ktks y (zD hy))
   have kx5:=s1720 _ _ (krws5 x5 (zI.mpr rfl))
   have ky5:=s1720 _ _ (ktks5 y5 (zI.mpr rfl))
   rw [ex5,<- ex] at kx5
   rw [ey5,<- ey] at ky5
   refine ne_three (s1720 _ _ kp5) kq0 (eqv_deeds e5 ez (s1720 _ _ kdl5) (s1520 _ _ kdu) (dsa5.same s1720) (dz15.same s1520)) (eqv_one (s1720 _ _ ktl5) ((s19.trans s20) _ _ kl2) kx5 kx20) (eqv_one (s1720 _ _ kkl5) (s20 _ _ kl3) ky5 ky20) (zr rfl (iteB0 rfl ⟨⟨_,_,_,rfl⟩,s1220⟩))
  rintro σ H13 ⟨⟨v3,v8,v9,rfl⟩,s13⟩
  have s1113:=s12.trans s13
  refine (zr rfl (ex6 b 0 rooms tr tm ps ⟨rfl,hb11.same s1113,r12',lps,fun b3 tr3 tm3 ps3 H14 s14 hb3 em3=>?_⟩))
  have s1114:=s1113.trans s14
  have gd3:Good (List.replicate rooms.length (0:Int)).length (ps3.map (·.2)):=by rw [zY,em3];exact gd.wide
  exact (zr rfl (zr rfl ⟨b3,ll,r,ls,List.replicate rooms.length (0:Int),tr3,tm3,ps3,d,rfl,hb3,by rw [zY];exact r1,by rw [zY];exact r12',(fun z hz=>List.eq_of_mem_replicate hz),(fun M hM=>by rw [em3] at hM;obtain ⟨M',_,rfl⟩:=zM.mp hM;rfl),gd3,hL11.same s1114,by omega,(fun l hl=>by rw [zY];exact lb l hl),by rw [zY];exact hrb.same s1114,fun H15 s15=>q _⟩))
end
theorem all_mk {l:PySem.W.OpenLaw}{w:World}{K:PySem.W.Frag}{h:Heap}{mg:Str->Option Value}{fa f__wall f__law_purse f__law_take f__law_far f__law_rooms f__law_step f__law_meetings f__law_book f__law_time f__law_letter f_is_whole f_is_within f_is_below f_is_meeting_number f_is_walker f_other_at f_lone_row f_AllMet___init__ f_AllMet_at_first f_AllMet_share f_Halves___init__ f_Halves_at_first f_Halves_share f_times_met f_Nearer___init__ f_Nearer_at_first f_Nearer_share f_are_wholes f_is_passing f_is_drop f_Trip_takes_room f_Trip_note_arrival f_Trip___init__ f_Trip_having f_Trip_bag f_Trip_done f_Trip_need_letter f_Trip_need_drop f_Trip_need_passing f_Trip_pass_on f_Trip_do f_lone_holder f_is_done f_times_of f_run f__law_wide f__law_rule f__law_three f__law_straight f__law_bare_so f_law c_AllMet c_Halves c_HasIt c_Nearer c_NoDeed c_NoLetter c_NoMeeting c_NoPass c_NoRoom c_NoRule c_NoWalker c_NotThere c_Trip:Addr} (X:K.In h) (G:h.Ns mainGlobals mg) (hfa:mg "law" = some (.ref fa))
  {d__wall d__law_purse d__law_take d__law_far d__law_rooms d__law_step d__law_meetings d__law_book d__law_time d__law_letter d_is_whole d_is_within d_is_below d_is_meeting_number d_is_walker d_other_at d_lone_row d_AllMet___init__ d_AllMet_at_first d_AllMet_share d_Halves___init__ d_Halves_at_first d_Halves_share d_times_met d_Nearer___init__ d_Nearer_at_first d_Nearer_share d_are_wholes d_is_passing d_is_drop d_Trip_takes_room d_Trip_note_arrival d_Trip___init__ d_Trip_having d_Trip_bag d_Trip_done d_Trip_need_letter d_Trip_need_drop d_Trip_need_passing d_Trip_pass_on d_Trip_do d_lone_holder d_is_done d_times_of d_run d__law_wide d__law_rule d__law_three d__law_straight d__law_bare_so d_law:FuncData}{t_MOST_TOKENS:Tok}
  (a__wall:zL K mainGlobals "_wall" = some (some (.ref f__wall))) (F__wall:Fun K "_wall" "_wall" s__wall f__wall d__wall)
  (a__law_purse:zL K mainGlobals "_law_purse" = some (some (.ref f__law_purse))) (F__law_purse:Fun K "_law_purse" "_law_purse" s__law_purse f__law_purse d__law_purse)
  (a__law_take:zL K mainGlobals "_law_take" = some (some (.ref f__law_take))) (F__law_take:Fun K "_law_take" "_law_take" s__law_take f__law_take d__law_take)
  (a__law_far:zL K mainGlobals "_law_far" = some (some (.ref f__law_far))) (F__law_far:Fun K "_law_far" "_law_far" s__law_far f__law_far d__law_far)
  (a__law_rooms:zL K mainGlobals "_law_rooms" = some (some (.ref f__law_rooms))) (F__law_rooms:Fun K "_law_rooms" "_law_rooms" s__law_rooms f__law_rooms d__law_rooms)
  (a__law_step:zL K mainGlobals "_law_step" = some (some (.ref f__law_step))) (F__law_step:Fun K "_law_step" "_law_step" s__law_step f__law_step d__law_step)
  (a__law_meetings:zL K mainGlobals "_law_meetings" = some (some (.ref f__law_meetings))) (F__law_meetings:Fun K "_law_meetings" "_law_meetings" wQ f__law_meetings d__law_meetings)
  (a__law_book:zL K mainGlobals "_law_book" = some (some (.ref f__law_book))) (F__law_book:Fun K "_law_book" "_law_book" s__law_book f__law_book d__law_book)
  (a__law_time:zL K mainGlobals "_law_time" = some (some (.ref f__law_time))) (F__law_time:Fun K "_law_time" "_law_time" s__law_time f__law_time d__law_time)
  (a__law_letter:zL K mainGlobals "_law_letter" = some (some (.ref f__law_letter))) (F__law_letter:Fun K "_law_letter" "_law_letter" s__law_letter f__law_letter d__law_letter)
  (a_is_whole:zL K mainGlobals "is_whole" = some (some (.ref f_is_whole))) (F_is_whole:Fun K "is_whole" "is_whole" s_is_whole f_is_whole d_is_whole)
  (a_is_within:zL K mainGlobals "is_within" = some (some (.ref f_is_within))) (F_is_within:Fun K "is_within" "is_within" s_is_within f_is_within d_is_within)
  (a_is_below:zL K mainGlobals "is_below" = some (some (.ref f_is_below))) (F_is_below:Fun K "is_below" "is_below" s_is_below f_is_below d_is_below)
  (a_is_meeting_number:zL K mainGlobals "is_meeting_number" = some (some (.ref f_is_meeting_number))) (F_is_meeting_number:Fun K "is_meeting_number" "is_meeting_number" wL f_is_meeting_number d_is_meeting_number)
  (a_is_walker:zL K mainGlobals "is_walker" = some (some (.ref f_is_walker))) (F_is_walker:Fun K "is_walker" "is_walker" s_is_walker f_is_walker d_is_walker)
  (a_other_at:zL K mainGlobals "other_at" = some (some (.ref f_other_at))) (F_other_at:Fun K "other_at" "other_at" s_other_at f_other_at d_other_at)
  (a_lone_row:zL K mainGlobals "lone_row" = some (some (.ref f_lone_row))) (F_lone_row:Fun K "lone_row" "lone_row" s_lone_row f_lone_row d_lone_row)
  (a_AllMet___init__:zK K (.ref c_AllMet) "__init__" = some (some (.ref f_AllMet___init__))) (j_AllMet___init__:zc K (.ref f_AllMet___init__)=true) (F_AllMet___init__:Fun K "__init__" "AllMet.__init__" wZ f_AllMet___init__ d_AllMet___init__)
  (a_AllMet_at_first:zK K (.ref c_AllMet) "at_first" = some (some (.ref f_AllMet_at_first))) (j_AllMet_at_first:zc K (.ref f_AllMet_at_first)=true) (F_AllMet_at_first:Fun K "at_first" "AllMet.at_first" wa f_AllMet_at_first d_AllMet_at_first)
  (a_AllMet_share:zK K (.ref c_AllMet) "share" = some (some (.ref f_AllMet_share))) (j_AllMet_share:zc K (.ref f_AllMet_share)=true) (F_AllMet_share:Fun K "share" "AllMet.share" s_AllMet_share f_AllMet_share d_AllMet_share)
  (a_Halves___init__:zK K (.ref c_Halves) "__init__" = some (some (.ref f_Halves___init__))) (j_Halves___init__:zc K (.ref f_Halves___init__)=true) (F_Halves___init__:Fun K "__init__" "Halves.__init__" wc f_Halves___init__ d_Halves___init__)
  (a_Halves_at_first:zK K (.ref c_Halves) "at_first" = some (some (.ref f_Halves_at_first))) (j_Halves_at_first:zc K (.ref f_Halves_at_first)=true) (F_Halves_at_first:Fun K "at_first" "Halves.at_first" we f_Halves_at_first d_Halves_at_first)
  (a_Halves_share:zK K (.ref c_Halves) "share" = some (some (.ref f_Halves_share))) (j_Halves_share:zc K (.ref f_Halves_share)=true) (F_Halves_share:Fun K "share" "Halves.share" s_Halves_share f_Halves_share d_Halves_share)
  (a_times_met:zL K mainGlobals "times_met" = some (some (.ref f_times_met))) (F_times_met:Fun K "times_met" "times_met" s_times_met f_times_met d_times_met)
  (a_Nearer___init__:zK K (.ref c_Nearer) "__init__" = some (some (.ref f_Nearer___init__))) (j_Nearer___init__:zc K (.ref f_Nearer___init__)=true) (F_Nearer___init__:Fun K "__init__" "Nearer.__init__" wf f_Nearer___init__ d_Nearer___init__)
  (a_Nearer_at_first:zK K (.ref c_Nearer) "at_first" = some (some (.ref f_Nearer_at_first))) (j_Nearer_at_first:zc K (.ref f_Nearer_at_first)=true) (F_Nearer_at_first:Fun K "at_first" "Nearer.at_first" wg f_Nearer_at_first d_Nearer_at_first)
  (a_Nearer_share:zK K (.ref c_Nearer) "share" = some (some (.ref f_Nearer_share))) (j_Nearer_share:zc K (.ref f_Nearer_share)=true) (F_Nearer_share:Fun K "share" "Nearer.share" s_Nearer_share f_Nearer_share d_Nearer_share)
  (a_are_wholes:zL K mainGlobals "are_wholes" = some (some (.ref f_are_wholes))) (F_are_wholes:Fun K "are_wholes" "are_wholes" s_are_wholes f_are_wholes d_are_wholes)
  (a_is_passing:zL K mainGlobals "is_passing" = some (some (.ref f_is_passing))) (F_is_passing:Fun K "is_passing" "is_passing" s_is_passing f_is_passing d_is_passing)
  (a_is_drop:zL K mainGlobals "is_drop" = some (some (.ref f_is_drop))) (F_is_drop:Fun K "is_drop" "is_drop" s_is_drop f_is_drop d_is_drop)
  (a_Trip_takes_room:zK K (.ref c_Trip) "takes_room" = some (some (.ref f_Trip_takes_room))) (j_Trip_takes_room:zc K (.ref f_Trip_takes_room)=true) (F_Trip_takes_room:Fun K "takes_room" "Trip.takes_room" wj f_Trip_takes_room d_Trip_takes_room)
  (a_Trip_note_arrival:zK K (.ref c_Trip) "note_arrival" = some (some (.ref f_Trip_note_arrival))) (j_Trip_note_arrival:zc K (.ref f_Trip_note_arrival)=true) (F_Trip_note_arrival:Fun K "note_arrival" "Trip.note_arrival" wM f_Trip_note_arrival d_Trip_note_arrival)
  (a_Trip___init__:zK K (.ref c_Trip) "__init__" = some (some (.ref f_Trip___init__))) (j_Trip___init__:zc K (.ref f_Trip___init__)=true) (F_Trip___init__:Fun K "__init__" "Trip.__init__" xq f_Trip___init__ d_Trip___init__)
  (a_Trip_having:zK K (.ref c_Trip) "having" = some (some (.ref f_Trip_having))) (j_Trip_having:zc K (.ref f_Trip_having)=true) (F_Trip_having:Fun K "having" "Trip.having" s_Trip_having f_Trip_having d_Trip_having)
  (a_Trip_bag:zK K (.ref c_Trip) "bag" = some (some (.ref f_Trip_bag))) (j_Trip_bag:zc K (.ref f_Trip_bag)=true) (F_Trip_bag:Fun K "bag" "Trip.bag" s_Trip_bag f_Trip_bag d_Trip_bag)
  (a_Trip_done:zK K (.ref c_Trip) "done" = some (some (.ref f_Trip_done))) (j_Trip_done:zc K (.ref f_Trip_done)=true) (F_Trip_done:Fun K "done" "Trip.done" s_Trip_done f_Trip_done d_Trip_done)
  (a_Trip_need_letter:zK K (.ref c_Trip) "need_letter" = some (some (.ref f_Trip_need_letter))) (j_Trip_need_letter:zc K (.ref f_Trip_need_letter)=true) (F_Trip_need_letter:Fun K "need_letter" "Trip.need_letter" wT f_Trip_need_letter d_Trip_need_letter)
  (a_Trip_need_drop:zK K (.ref c_Trip) "need_drop" = some (some (.ref f_Trip_need_drop))) (j_Trip_need_drop:zc K (.ref f_Trip_need_drop)=true) (F_Trip_need_drop:Fun K "need_drop" "Trip.need_drop" s_Trip_need_drop f_Trip_need_drop d_Trip_need_drop)
  (a_Trip_need_passing:zK K (.ref c_Trip) "need_passing" = some (some (.ref f_Trip_need_passing))) (j_Trip_need_passing:zc K (.ref f_Trip_need_passing)=true) (F_Trip_need_passing:Fun K "need_passing" "Trip.need_passing" wN f_Trip_need_passing d_Trip_need_passing)
  (a_Trip_pass_on:zK K (.ref c_Trip) "pass_on" = some (some (.ref f_Trip_pass_on))) (j_Trip_pass_on:zc K (.ref f_Trip_pass_on)=true) (F_Trip_pass_on:Fun K "pass_on" "Trip.pass_on" s_Trip_pass_on f_Trip_pass_on d_Trip_pass_on)
  (a_Trip_do:zK K (.ref c_Trip) "do" = some (some (.ref f_Trip_do))) (j_Trip_do:zc K (.ref f_Trip_do)=true) (F_Trip_do:Fun K "do" "Trip.do" s_Trip_do f_Trip_do d_Trip_do)
  (a_lone_holder:zL K mainGlobals "lone_holder" = some (some (.ref f_lone_holder))) (F_lone_holder:Fun K "lone_holder" "lone_holder" s_lone_holder f_lone_holder d_lone_holder)
  (a_is_done:zL K mainGlobals "is_done" = some (some (.ref f_is_done))) (F_is_done:Fun K "is_done" "is_done" s_is_done f_is_done d_is_done)
  (a_times_of:zL K mainGlobals "times_of" = some (some (.ref f_times_of))) (F_times_of:Fun K "times_of" "times_of" s_times_of f_times_of d_times_of)
  (a_run:zL K mainGlobals "run" = some (some (.ref f_run))) (F_run:Fun K "run" "run" s_run f_run d_run)
  (a__law_wide:zL K mainGlobals "_law_wide" = some (some (.ref f__law_wide))) (F__law_wide:Fun K "_law_wide" "_law_wide" s__law_wide f__law_wide d__law_wide)
  (a__law_rule:zL K mainGlobals "_law_rule" = some (some (.ref f__law_rule))) (F__law_rule:Fun K "_law_rule" "_law_rule" s__law_rule f__law_rule d__law_rule)
  (a__law_three:zL K mainGlobals "_law_three" = some (some (.ref f__law_three))) (F__law_three:Fun K "_law_three" "_law_three" s__law_three f__law_three d__law_three)
  (a__law_straight:zL K mainGlobals "_law_straight" = some (some (.ref f__law_straight))) (F__law_straight:Fun K "_law_straight" "_law_straight" s__law_straight f__law_straight d__law_straight)
  (a__law_bare_so:zL K mainGlobals "_law_bare_so" = some (some (.ref f__law_bare_so))) (F__law_bare_so:Fun K "_law_bare_so" "_law_bare_so" wl f__law_bare_so d__law_bare_so)
  (a_law:zL K mainGlobals "law" = some (some (.ref f_law))) (F_law:Fun K "law" "law" s_law f_law d_law)
  (z_all:zL K mainGlobals "all" = some none)
  (z_bool:zL K mainGlobals "bool" = some none)
  (z_dict:zL K mainGlobals "dict" = some none)
  (z_enumerate:zL K mainGlobals "enumerate" = some none)
  (z_int:zL K mainGlobals "int" = some none)
  (z_isinstance:zL K mainGlobals "isinstance" = some none)
  (z_len:zL K mainGlobals "len" = some none)
  (z_list:zL K mainGlobals "list" = some none)
  (z_max:zL K mainGlobals "max" = some none)
  (z_min:zL K mainGlobals "min" = some none)
  (z_range:zL K mainGlobals "range" = some none)
  (z_sorted:zL K mainGlobals "sorted" = some none)
  (z_tuple:zL K mainGlobals "tuple" = some none)
  (g_MOST_TOKENS:zL K mainGlobals "MOST_TOKENS" = some (some (.int 64 t_MOST_TOKENS)))
  (e_AllMet:zL K mainGlobals "AllMet" = some (some (.ref c_AllMet)))
  (e_Halves:zL K mainGlobals "Halves" = some (some (.ref c_Halves)))
  (e_HasIt:zL K mainGlobals "HasIt" = some (some (.ref c_HasIt)))
  (e_Nearer:zL K mainGlobals "Nearer" = some (some (.ref c_Nearer)))
  (e_NoDeed:zL K mainGlobals "NoDeed" = some (some (.ref c_NoDeed)))
  (e_NoLetter:zL K mainGlobals "NoLetter" = some (some (.ref c_NoLetter)))
  (e_NoMeeting:zL K mainGlobals "NoMeeting" = some (some (.ref c_NoMeeting)))
  (e_NoPass:zL K mainGlobals "NoPass" = some (some (.ref c_NoPass)))
  (e_NoRoom:zL K mainGlobals "NoRoom" = some (some (.ref c_NoRoom)))
  (e_NoRule:zL K mainGlobals "NoRule" = some (some (.ref c_NoRule)))
  (e_NoWalker:zL K mainGlobals "NoWalker" = some (some (.ref c_NoWalker)))
  (e_NotThere:zL K mainGlobals "NotThere" = some (some (.ref c_NotThere)))
  (e_Trip:zL K mainGlobals "Trip" = some (some (.ref c_Trip)))
  (pg_AllMet:yA K c_AllMet Str.empty=true) (hd_AllMet:yG K c_AllMet=true) (po_AllMet:yf K c_AllMet=true) (sa_AllMet:zK K (.ref c_AllMet) "__setattr__" = some (some (.builtin "object.__setattr__")))
  (pg_Halves:yA K c_Halves Str.empty=true) (hd_Halves:yG K c_Halves=true) (po_Halves:yf K c_Halves=true) (sa_Halves:zK K (.ref c_Halves) "__setattr__" = some (some (.builtin "object.__setattr__")))
  (pg_Nearer:yA K c_Nearer Str.empty=true) (hd_Nearer:yG K c_Nearer=true) (po_Nearer:yf K c_Nearer=true) (sa_Nearer:zK K (.ref c_Nearer) "__setattr__" = some (some (.builtin "object.__setattr__")))
  (pg_Trip:yA K c_Trip Str.empty=true) (hd_Trip:yG K c_Trip=true) (po_Trip:yf K c_Trip=true) (sa_Trip:zK K (.ref c_Trip) "__setattr__" = some (some (.builtin "object.__setattr__")))
  (mk_AllMet:yp K c_AllMet=true) (kc_AllMet:zH K (.ref c_AllMet)=true)
  (mk_Halves:yp K c_Halves=true) (kc_Halves:zH K (.ref c_Halves)=true)
  (mk_Nearer:yp K c_Nearer=true) (kc_Nearer:zH K (.ref c_Nearer)=true)
  (mk_Trip:yp K c_Trip=true) (kc_Trip:zH K (.ref c_Trip)=true)
  (nf_Halves_tokens:zK K (.ref c_Halves) "tokens" = some none)
  (nf_Nearer_past:zK K (.ref c_Nearer) "past" = some none)
  (nf_Trip_book:zK K (.ref c_Trip) "book" = some none)
  (nf_Trip_letters:zK K (.ref c_Trip) "letters" = some none)
  (nf_Trip_holders:zK K (.ref c_Trip) "holders" = some none)
  (nf_Trip_arrivals:zK K (.ref c_Trip) "arrivals" = some none)
  (nf_Trip_passed:zK K (.ref c_Trip) "passed" = some none)
  (nf_Trip_reached:zK K (.ref c_Trip) "reached" = some none)
  (nf_Trip_deeds:zK K (.ref c_Trip) "deeds" = some none)
  (xx_NoDeed:xclsB K c_NoDeed=true)
  (xx_NoMeeting:xclsB K c_NoMeeting=true)
  (xx_NoLetter:xclsB K c_NoLetter=true)
  (xx_NoWalker:xclsB K c_NoWalker=true)
  (xx_NotThere:xclsB K c_NotThere=true)
  (xx_HasIt:xclsB K c_HasIt=true)
  (xx_NoPass:xclsB K c_NoPass=true)
  (xx_NoRoom:xclsB K c_NoRoom=true)
  (xx_NoRule:xclsB K c_NoRule=true)
  (oo_AllMet:oclsB K c_AllMet=true)
  (oo_Halves:oclsB K c_Halves=true)
  (oo_Nearer:oclsB K c_Nearer=true)
  (ff_f_d4:yi K (.ref c_NotThere) [.ref c_NotThere,.ref c_NoPass,.ref c_NoRoom]=some true)
  (ff_f_d6:yi K (.ref c_NoPass) [.ref c_NotThere,.ref c_NoPass,.ref c_NoRoom]=some true)
  (ff_f_d7:yi K (.ref c_NoRoom) [.ref c_NotThere,.ref c_NoPass,.ref c_NoRoom]=some true)
  (ff_f_na:yN K (.ref c_AllMet) (.ref c_Nearer)=some false)
  (ff_f_nh:yN K (.ref c_Halves) (.ref c_Nearer)=some false)
  (ff_f_nn:yN K (.ref c_Nearer) (.ref c_Nearer)=some true) :
  ∃ fd:FuncData,(∀ (s:Shared) (v:Value),BindsTo s fd ⟨[v],[]⟩ [("_law_script", v)])/\∀ base:Heap,K.In base->base.Ns mainGlobals mg->FnOk l.prog w K mg base CX0 9 fa fd ["_law_script"] (spLaw K):=by
 have e:=hfa.symm.trans (zP X G a_law)
 cases e
 have b__wall:=F__wall.binds (ps:=["k"]) fun _ _ _ _ _ _ us hl=>us1 hl fun _=>rfl
 have b__law_purse:=F__law_purse.binds (ps:=["_law_script", "_law_k"]) fun _ _ _ _ _ _ us hl=>us2 hl fun _ _=>rfl
 have b__law_take:=F__law_take.binds (ps:=["_law_purse_here", "_law_many"]) fun _ _ _ _ _ _ us hl=>us2 hl fun _ _=>rfl
 have b__law_far:=F__law_far.binds (ps:=["_law_purse_here"]) fun _ _ _ _ _ _ us hl=>us1 hl fun _=>rfl
 have b__law_rooms:=F__law_rooms.binds (ps:=["_law_purse_here", "_law_walkers"]) fun _ _ _ _ _ _ us hl=>us2 hl fun _ _=>rfl
 have b__law_step:=F__law_step.binds (ps:=["_law_purse_here"]) fun _ _ _ _ _ _ us hl=>us1 hl fun _=>rfl
 have b__law_meetings:=F__law_meetings.binds (ps:=["_law_purse_here", "_law_walkers", "_law_most"]) fun _ _ _ _ _ _ us hl=>us3 hl fun _ _ _=>rfl
 have b__law_book:=F__law_book.binds (ps:=["_law_purse_here", "_law_most_walkers", "_law_most_meetings"]) fun _ _ _ _ _ _ us hl=>us3 hl fun _ _ _=>rfl
 have b__law_time:=F__law_time.binds (ps:=["_law_purse_here", "_law_book_here", "_law_later"]) fun _ _ _ _ _ _ us hl=>us3 hl fun _ _ _=>rfl
 have b__law_letter:=F__law_letter.binds (ps:=["_law_purse_here", "_law_book_here"]) fun _ _ _ _ _ _ us hl=>us2 hl fun _ _=>rfl
 have b_is_whole:=F_is_whole.binds (ps:=["thing"]) fun _ _ _ _ _ _ us hl=>us1 hl fun _=>rfl
 have b_is_within:=F_is_within.binds (ps:=["thing", "least", "most"]) fun _ _ _ _ _ _ us hl=>us3 hl fun _ _ _=>rfl
 have b_is_below:=F_is_below.binds (ps:=["number", "bound"]) fun _ _ _ _ _ _ us hl=>us2 hl fun _ _=>rfl
 have b_is_meeting_number:=F_is_meeting_number.binds (ps:=["book", "thing"]) fun _ _ _ _ _ _ us hl=>us2 hl fun _ _=>rfl
 have b_is_walker:=F_is_walker.binds (ps:=["book", "thing"]) fun _ _ _ _ _ _ us hl=>us2 hl fun _ _=>rfl
 have b_other_at:=F_other_at.binds (ps:=["book", "number", "walker"]) fun _ _ _ _ _ _ us hl=>us3 hl fun _ _ _=>rfl
 have b_lone_row:=F_lone_row.binds (ps:=["book", "walker", "number"]) fun _ _ _ _ _ _ us hl=>us3 hl fun _ _ _=>rfl
 have b_AllMet___init__:=F_AllMet___init__.binds (ps:=["self"]) fun _ _ _ _ _ _ us hl=>us1 hl fun _=>rfl
 have b_AllMet_at_first:=F_AllMet_at_first.binds (ps:=["self"]) fun _ _ _ _ _ _ us hl=>us1 hl fun _=>rfl
 have b_AllMet_share:=F_AllMet_share.binds (ps:=["self", "letter", "giver", "other", "tokens"]) fun _ _ _ _ _ _ us hl=>us5 hl fun _ _ _ _ _=>rfl
 have b_Halves___init__:=F_Halves___init__.binds (ps:=["self", "tokens"]) fun _ _ _ _ _ _ us hl=>us2 hl fun _ _=>rfl
 have b_Halves_at_first:=F_Halves_at_first.binds (ps:=["self"]) fun _ _ _ _ _ _ us hl=>us1 hl fun _=>rfl
 have b_Halves_share:=F_Halves_share.binds (ps:=["self", "letter", "giver", "other", "tokens"]) fun _ _ _ _ _ _ us hl=>us5 hl fun _ _ _ _ _=>rfl
 have b_times_met:=F_times_met.binds (ps:=["book", "one", "other"]) fun _ _ _ _ _ _ us hl=>us3 hl fun _ _ _=>rfl
 have b_Nearer___init__:=F_Nearer___init__.binds (ps:=["self", "past"]) fun _ _ _ _ _ _ us hl=>us2 hl fun _ _=>rfl
 have b_Nearer_at_first:=F_Nearer_at_first.binds (ps:=["self"]) fun _ _ _ _ _ _ us hl=>us1 hl fun _=>rfl
 have b_Nearer_share:=F_Nearer_share.binds (ps:=["self", "letter", "giver", "other", "tokens"]) fun _ _ _ _ _ _ us hl=>us5 hl fun _ _ _ _ _=>rfl
 have b_are_wholes:=F_are_wholes.binds (ps:=["things"]) fun _ _ _ _ _ _ us hl=>us1 hl fun _=>rfl
 have b_is_passing:=F_is_passing.binds (ps:=["thing"]) fun _ _ _ _ _ _ us hl=>us1 hl fun _=>rfl
 have b_is_drop:=F_is_drop.binds (ps:=["thing"]) fun _ _ _ _ _ _ us hl=>us1 hl fun _=>rfl
 have b_Trip_takes_room:=F_Trip_takes_room.binds (ps:=["self", "letter", "walker"]) fun _ _ _ _ _ _ us hl=>us3 hl fun _ _ _=>rfl
 have b_Trip_note_arrival:=F_Trip_note_arrival.binds (ps:=["self", "letter", "walker", "time"]) fun _ _ _ _ _ _ us hl=>us4 hl fun _ _ _ _=>rfl
 have b_Trip___init__:=F_Trip___init__.binds (ps:=["self", "book", "letters"]) fun _ _ _ _ _ _ us hl=>us3 hl fun _ _ _=>rfl
 have b_Trip_having:=F_Trip_having.binds (ps:=["self", "letter"]) fun _ _ _ _ _ _ us hl=>us2 hl fun _ _=>rfl
 have b_Trip_bag:=F_Trip_bag.binds (ps:=["self", "walker"]) fun _ _ _ _ _ _ us hl=>us2 hl fun _ _=>rfl
 have b_Trip_done:=F_Trip_done.binds (ps:=["self"]) fun _ _ _ _ _ _ us hl=>us1 hl fun _=>rfl
 have b_Trip_need_letter:=F_Trip_need_letter.binds (ps:=["self", "letter"]) fun _ _ _ _ _ _ us hl=>us2 hl fun _ _=>rfl
 have b_Trip_need_drop:=F_Trip_need_drop.binds (ps:=["self", "letter", "walker"]) fun _ _ _ _ _ _ us hl=>us3 hl fun _ _ _=>rfl
 have b_Trip_need_passing:=F_Trip_need_passing.binds (ps:=["self", "meeting", "letter", "giver"]) fun _ _ _ _ _ _ us hl=>us4 hl fun _ _ _ _=>rfl
 have b_Trip_pass_on:=F_Trip_pass_on.binds (ps:=["self", "meeting", "letter", "giver"]) fun _ _ _ _ _ _ us hl=>us4 hl fun _ _ _ _=>rfl
 have b_Trip_do:=F_Trip_do.binds (ps:=["self", "deed"]) fun _ _ _ _ _ _ us hl=>us2 hl fun _ _=>rfl
 have b_lone_holder:=F_lone_holder.binds (ps:=["book", "meeting", "row"]) fun _ _ _ _ _ _ us hl=>us3 hl fun _ _ _=>rfl
 have b_is_done:=F_is_done.binds (ps:=["trip", "deed"]) fun _ _ _ _ _ _ us hl=>us2 hl fun _ _=>rfl
 have b_times_of:=F_times_of.binds (ps:=["book", "having"]) fun _ _ _ _ _ _ us hl=>us2 hl fun _ _=>rfl
 have b_run:=F_run.binds (ps:=["book", "letters", "rule"]) fun _ _ _ _ _ _ us hl=>us3 hl fun _ _ _=>rfl
 have b__law_wide:=F__law_wide.binds (ps:=["_law_book_here", "_law_room"]) fun _ _ _ _ _ _ us hl=>us2 hl fun _ _=>rfl
 have b__law_rule:=F__law_rule.binds (ps:=["_law_head", "_law_purse_here", "_law_walkers"]) fun _ _ _ _ _ _ us hl=>us3 hl fun _ _ _=>rfl
 have b__law_three:=F__law_three.binds (ps:=["_law_told", "_law_many"]) fun _ _ _ _ _ _ us hl=>us2 hl fun _ _=>rfl
 have b__law_straight:=F__law_straight.binds (ps:=["_law_book_here", "_law_letter_here"]) fun _ _ _ _ _ _ us hl=>us2 hl fun _ _=>rfl
 have b__law_bare_so:=F__law_bare_so.binds (ps:=["_law_book_here", "_law_letters", "_law_rule_here"]) fun _ _ _ _ _ _ us hl=>us3 hl fun _ _ _=>rfl
 have b_law:=F_law.binds (ps:=["_law_script"]) fun _ _ _ _ _ _ us hl=>us1 hl fun _=>rfl
 have T:Tx K mg ⟨f__wall,d__wall,f__law_purse,d__law_purse,f__law_take,d__law_take,f__law_far,d__law_far,f__law_rooms,d__law_rooms,f__law_step,d__law_step,f__law_meetings,d__law_meetings,f__law_book,d__law_book,f__law_time,d__law_time,f__law_letter,d__law_letter,f_is_whole,d_is_whole,f_is_within,d_is_within,f_is_below,d_is_below,f_is_meeting_number,d_is_meeting_number,f_is_walker,d_is_walker,f_other_at,d_other_at,f_lone_row,d_lone_row,f_AllMet___init__,d_AllMet___init__,f_AllMet_at_first,d_AllMet_at_first,f_AllMet_share,d_AllMet_share,f_Halves___init__,d_Halves___init__,f_Halves_at_first,d_Halves_at_first,f_Halves_share,d_Halves_share,f_times_met,d_times_met,f_Nearer___init__,d_Nearer___init__,f_Nearer_at_first,d_Nearer_at_first,f_Nearer_share,d_Nearer_share,f_are_wholes,d_are_wholes,f_is_passing,d_is_passing,f_is_drop,d_is_drop,f_Trip_takes_room,d_Trip_takes_room,f_Trip_note_arrival,d_Trip_note_arrival,f_Trip___init__,d_Trip___init__,f_Trip_having,d_Trip_having,f_Trip_bag,d_Trip_bag,f_Trip_done,d_Trip_done,f_Trip_need_letter,d_Trip_need_letter,f_Trip_need_drop,d_Trip_need_drop,f_Trip_need_passing,d_Trip_need_passing,f_Trip_pass_on,d_Trip_pass_on,f_Trip_do,d_Trip_do,f_lone_holder,d_lone_holder,f_is_done,d_is_done,f_times_of,d_times_of,f_run,d_run,f__law_wide,d__law_wide,f__law_rule,d__law_rule,f__law_three,d__law_three,f__law_straight,d__law_straight,f__law_bare_so,d__law_bare_so,fa,d_law,c_AllMet,c_Halves,c_HasIt,c_Nearer,c_NoDeed,c_NoLetter,c_NoMeeting,c_NoPass,c_NoRoom,c_NoRule,c_NoWalker,c_NotThere,c_Trip⟩ t_MOST_TOKENS:=⟨F__wall,b__wall,zP X G a__wall,F__wall.kp,F__law_purse,b__law_purse,zP X G a__law_purse,F__law_purse.kp,F__law_take,b__law_take,zP X G a__law_take,F__law_take.kp,F__law_far,b__law_far,zP X G a__law_far,F__law_far.kp,F__law_rooms,b__law_rooms,zP X G a__law_rooms,F__law_rooms.kp,F__law_step,b__law_step,zP X G a__law_step,F__law_step.kp,F__law_meetings,b__law_meetings,zP X G a__law_meetings,F__law_meetings.kp,F__law_book,b__law_book,zP X G a__law_book,F__law_book.kp,F__law_time,b__law_time,zP X G a__law_time,F__law_time.kp,F__law_letter,b__law_letter,zP X G a__law_letter,F__law_letter.kp,F_is_whole,b_is_whole,zP X G a_is_whole,F_is_whole.kp,F_is_within,b_is_within,zP X G a_is_within,F_is_within.kp,F_is_below,b_is_below,zP X G a_is_below,F_is_below.kp,F_is_meeting_number,b_is_meeting_number,zP X G a_is_meeting_number,F_is_meeting_number.kp,F_is_walker,b_is_walker,zP X G a_is_walker,F_is_walker.kp,F_other_at,b_other_at,zP X G a_other_at,F_other_at.kp,F_lone_row,b_lone_row,zP X G a_lone_row,F_lone_row.kp,F_AllMet___init__,b_AllMet___init__,⟨a_AllMet___init__,j_AllMet___init__,F_AllMet___init__.kp⟩,F_AllMet___init__.kp,F_AllMet_at_first,b_AllMet_at_first,⟨a_AllMet_at_first,j_AllMet_at_first,F_AllMet_at_first.kp⟩,F_AllMet_at_first.kp,F_AllMet_share,b_AllMet_share,⟨a_AllMet_share,j_AllMet_share,F_AllMet_share.kp⟩,F_AllMet_share.kp,F_Halves___init__,b_Halves___init__,⟨a_Halves___init__,j_Halves___init__,F_Halves___init__.kp⟩,F_Halves___init__.kp,F_Halves_at_first,b_Halves_at_first,⟨a_Halves_at_first,j_Halves_at_first,F_Halves_at_first.kp⟩,F_Halves_at_first.kp,F_Halves_share,b_Halves_share,⟨a_Halves_share,j_Halves_share,F_Halves_share.kp⟩,F_Halves_share.kp,F_times_met,b_times_met,zP X G a_times_met,F_times_met.kp,F_Nearer___init__,b_Nearer___init__,⟨a_Nearer___init__,j_Nearer___init__,F_Nearer___init__.kp⟩,F_Nearer___init__.kp,F_Nearer_at_first,b_Nearer_at_first,⟨a_Nearer_at_first,j_Nearer_at_first,F_Nearer_at_first.kp⟩,F_Nearer_at_first.kp,F_Nearer_share,b_Nearer_share,⟨a_Nearer_share,j_Nearer_share,F_Nearer_share.kp⟩,F_Nearer_share.kp,F_are_wholes,b_are_wholes,zP X G a_are_wholes,F_are_wholes.kp,F_is_passing,b_is_passing,zP X G a_is_passing,F_is_passing.kp,F_is_drop,b_is_drop,zP X G a_is_drop,F_is_drop.kp,F_Trip_takes_room,b_Trip_takes_room,⟨a_Trip_takes_room,j_Trip_takes_room,F_Trip_takes_room.kp⟩,F_Trip_takes_room.kp,F_Trip_note_arrival,b_Trip_note_arrival,⟨a_Trip_note_arrival,j_Trip_note_arrival,F_Trip_note_arrival.kp⟩,F_Trip_note_arrival.kp,F_Trip___init__,b_Trip___init__,⟨a_Trip___init__,j_Trip___init__,F_Trip___init__.kp⟩,F_Trip___init__.kp,F_Trip_having,b_Trip_having,⟨a_Trip_having,j_Trip_having,F_Trip_having.kp⟩,F_Trip_having.kp,F_Trip_bag,b_Trip_bag,⟨a_Trip_bag,j_Trip_bag,F_Trip_bag.kp⟩,F_Trip_bag.kp,F_Trip_done,b_Trip_done,⟨a_Trip_done,j_Trip_done,F_Trip_done.kp⟩,F_Trip_done.kp,F_Trip_need_letter,b_Trip_need_letter,⟨a_Trip_need_letter,j_Trip_need_letter,F_Trip_need_letter.kp⟩,F_Trip_need_letter.kp,F_Trip_need_drop,b_Trip_need_drop,⟨a_Trip_need_drop,j_Trip_need_drop,F_Trip_need_drop.kp⟩,F_Trip_need_drop.kp,F_Trip_need_passing,b_Trip_need_passing,⟨a_Trip_need_passing,j_Trip_need_passing,F_Trip_need_passing.kp⟩,F_Trip_need_passing.kp,F_Trip_pass_on,b_Trip_pass_on,⟨a_Trip_pass_on,j_Trip_pass_on,F_Trip_pass_on.kp⟩,F_Trip_pass_on.kp,F_Trip_do,b_Trip_do,⟨a_Trip_do,j_Trip_do,F_Trip_do.kp⟩,F_Trip_do.kp,F_lone_holder,b_lone_holder,zP X G a_lone_holder,F_lone_holder.kp,F_is_done,b_is_done,zP X G a_is_done,F_is_done.kp,F_times_of,b_times_of,zP X G a_times_of,F_times_of.kp,F_run,b_run,zP X G a_run,F_run.kp,F__law_wide,b__law_wide,zP X G a__law_wide,F__law_wide.kp,F__law_rule,b__law_rule,zP X G a__law_rule,F__law_rule.kp,F__law_three,b__law_three,zP X G a__law_three,F__law_three.kp,F__law_straight,b__law_straight,zP X G a__law_straight,F__law_straight.kp,F__law_bare_so,b__law_bare_so,zP X G a__law_bare_so,F__law_bare_so.kp,F_law,b_law,zP X G a_law,F_law.kp,zd X G z_all,zd X G z_bool,zd X G z_dict,zd X G z_enumerate,zd X G z_int,zd X G z_isinstance,zd X G z_len,zd X G z_list,zd X G z_max,zd X G z_min,zd X G z_range,zd X G z_sorted,zd X G z_tuple,zP X G e_AllMet,zP X G e_Halves,zP X G e_HasIt,zP X G e_Nearer,zP X G e_NoDeed,zP X G e_NoLetter,zP X G e_NoMeeting,zP X G e_NoPass,zP X G e_NoRoom,zP X G e_NoRule,zP X G e_NoWalker,zP X G e_NotThere,zP X G e_Trip,XCls.of xx_NoDeed,XCls.of xx_NoMeeting,XCls.of xx_NoLetter,XCls.of xx_NoWalker,XCls.of xx_NotThere,XCls.of xx_HasIt,XCls.of xx_NoPass,XCls.of xx_NoRoom,XCls.of xx_NoRule,⟨pg_AllMet,hd_AllMet,po_AllMet,sa_AllMet⟩,⟨pg_Halves,hd_Halves,po_Halves,sa_Halves⟩,⟨pg_Nearer,hd_Nearer,po_Nearer,sa_Nearer⟩,⟨pg_Trip,hd_Trip,po_Trip,sa_Trip⟩,⟨mk_AllMet,a_AllMet___init__,j_AllMet___init__,kc_AllMet⟩,⟨mk_Halves,a_Halves___init__,j_Halves___init__,kc_Halves⟩,⟨mk_Nearer,a_Nearer___init__,j_Nearer___init__,kc_Nearer⟩,⟨mk_Trip,a_Trip___init__,j_Trip___init__,kc_Trip⟩,nf_Halves_tokens,nf_Nearer_past,nf_Trip_book,nf_Trip_letters,nf_Trip_holders,nf_Trip_arrivals,nf_Trip_passed,nf_Trip_reached,nf_Trip_deeds,OCls.of oo_AllMet,OCls.of oo_Halves,OCls.of oo_Nearer,ff_f_d4,ff_f_d6,ff_f_d7,ff_f_na,ff_f_nh,ff_f_nn,zP X G g_MOST_TOKENS⟩
 obtain ⟨_,_,_,_,_,_,_,_,_,rfl,_,_⟩:=F_law.ex
 exact ⟨_,fun s v=>.of_eq rfl,fun base _ _=>ok_law T⟩
theorem walk {l:PySem.W.OpenLaw}{q:Program}{loose:List Str}{XP:(Str->Option Value)->Heap->Prop}{YP:World->Heap->Prop}{d:DefRec}{K:Params->PySem.W.Frag} (hn:l.most=some 63) (hdf:d.params.defaults=[])
  (hY:∀ (w:World) (h:Heap),YP w h->(K w.params).In h)
  (F:∀ (w:World) (mg:Str->Option Value) (fa:Addr) (h:Heap),(K w.params).In h->h.Ns mainGlobals mg->mg d.name=some (.ref fa) ->
   ∃ fd:FuncData,(∀ (s:Shared) (u:Value),BindsTo s fd ⟨[u],[]⟩ [("_law_script", u)])/\∀ base:Heap,(K w.params).In base->base.Ns mainGlobals mg->FnOk l.prog w (K w.params) mg base CX0 9 fa fd ["_law_script"] (spLaw (K w.params))) :
  PySem.W.WalkO q loose XP YP l.row.toRowW d [] (fun f vs=>PySem.call f vs):=
 L2.walk_of (n:=63) (k:=9) (x := "_law_script") (CX:=fun _=>CX0) (sp:=fun w=>spLaw (K w.params)) hn (by decide) hdf ⟨rfl,by decide,by decide⟩ hY F (fun _ _ a ns hl _ hS=>⟨a,ns,rfl,hS,hl,fun _=>rfl⟩) fun _ _ _ _ _ z=>z
end Sm
namespace PySem.W.Fast
def tw1116752867208639470:Nat:=0
def tw3495456661265261577:Nat:=0
def tw5979198639912297974:Nat:=0
def tw14180693015784845708:Nat:=0
def tw684077363449632214:Nat:=0
def tw10787586760613220019:Nat:=0
def tw2614336339573584859:Nat:=0
def tw13630917417259611804:Nat:=0
def tw12949170887438462725:Nat:=0
def tw996787634887085598:Nat:=0
def tw8271608922270807301:Nat:=0
def tw13456409348671219905:Nat:=0
def tw16195806990572312075:Nat:=0
def tw4111906166721537670:Nat:=0
def tw9625460051863723506:Nat:=0
def tw1657840460390538540:Nat:=0
def tw14804415957840176298:Nat:=0
def tw175503021355719472:Nat:=0
def tw11463731043336505319:Nat:=0
def tw4340539946136122911:Nat:=0
def tw3860978888321869515:Nat:=0
def tw15435854736592207974:Nat:=0
def tw7586409085508579844:Nat:=0
def tw13972259687778701542:Nat:=0
def tw17310538021679019556:Nat:=0
def tw2382462699725255650:Nat:=0
def tw1842389012789823103:Nat:=0
def tw6129590425197711053:Nat:=0
def tw14197171451436714477:Nat:=0
def tw10093124561315324416:Nat:=0
def tw3601505350213973108:Nat:=0
def tw11240639644667271167:Nat:=0
def tw16110873736062530682:Nat:=0
def tw9898158447974418690:Nat:=0
def tw2675797291295141257:Nat:=0
def tw1128965272490182083:Nat:=0
def tw16087852844855079508:Nat:=0
def tw11334137324171811576:Nat:=0
def tw7940325618356362665:Nat:=0
def tw5508634442057700540:Nat:=0
def tw4807224366757023573:Nat:=0
def tw12309195535275131878:Nat:=0
def tw6984251046707496950:Nat:=0
def tw6463155304214241338:Nat:=0
def tw132647373744474265:Nat:=0
def tw10564476650653211320:Nat:=0
def tw16964631947759450570:Nat:=0
def tw6023595902133529983:Nat:=0
def tw6958664196528741960:Nat:=0
def tw16424976269795842726:Nat:=0
def tw17212748185577236497:Nat:=0
def tw9240719303602157189:Nat:=0
def tw7581157021028153642:Nat:=0
def tw8574560980840522103:Nat:=0
def tw16186531614454625291:Nat:=0
def tw13730244103396863398:Nat:=0
def tw15145086873943141448:Nat:=0
def tw1579935863090928830:Nat:=0
def tw15615287100532190080:Nat:=0
def tw3593545947947130177:Nat:=0
def tw9413547509065641597:Nat:=0
def tw10133945240563887143:Nat:=0
def tw16261449037120852386:Nat:=0
def tw611673240590613142:Nat:=0
def tw8511865342901473586:Nat:=0
def tw321631907631613626:Nat:=0
def tw15226671325554601030:Nat:=0
def tw9120302365217253120:Nat:=0
def tw2635393317485181963:Nat:=0
def tw4737010637936668654:Nat:=0
def tw13566046964622581892:Nat:=0
def tw221303161982151739:Nat:=0
def tw1521027377507758897:Nat:=0
def tw15584740947115234758:Nat:=0
def tw13730849643951336277:Nat:=0
def tw10468492207254146713:Nat:=0
def tw10718189053479983938:Nat:=0
def tw1100376536899828892:Nat:=0
def tw1496914287083440515:Nat:=0
def tw15041115243395448442:Nat:=0
def tw2257885641258779268:Nat:=0
def tw4886980530588954327:Nat:=0
def tw1531448730554556498:Nat:=0
def tw13622683453845243593:Nat:=0
def tw6561770570703236828:Nat:=0
def tw13374142083464779932:Nat:=0
def tw17059263949799607048:Nat:=0
def tw15172798078368516051:Nat:=0
def tw10170823754707996303:Nat:=0
def tw4104043198301699856:Nat:=0
def tw8026090651291307373:Nat:=0
def tw13945142116671135648:Nat:=0
def tw14715854617324150677:Nat:=0
def tw18195529149462144494:Nat:=0
def tw10769842387441811875:Nat:=0
def tw6471024011152323529:Nat:=0
def tw14791778454029830242:Nat:=0
def tw11811879859768532677:Nat:=0
def tw16923608199855713902:Nat:=0
def tw4923295306820947584:Nat:=0
def tw2979423445984139591:Nat:=0
def tw10025246681059120072:Nat:=0
def tw7079359913976292214:Nat:=0
def tw1834262458653207140:Nat:=0
def tw3193872420278876943:Nat:=0
def tw3867206270416851083:Nat:=0
def tw6315691963068267833:Nat:=0
def tw12295345692117538524:Nat:=0
def tw14076534694065855477:Nat:=0
def tw6011130306123339142:Nat:=0
def tw12455773757590690207:Nat:=0
def tw10074279300034290228:Nat:=0
def tw17212093200652130465:Nat:=0
def tw3757368618280735501:Nat:=0
def tw3724695277063564498:Nat:=0
def tw17190940760239555123:Nat:=0
def tw18304571163299088110:Nat:=0
def tw17671629998000680500:Nat:=0
def tw16003645200205407766:Nat:=0
def tw18438453045672279944:Nat:=0
def tw3139264660494653692:Nat:=0
def tw15301152337603094225:Nat:=0
def tw16331388214965830518:Nat:=0
def tw4625958761929811145:Nat:=0
def tw2864185662954730260:Nat:=0
def tw824181009412777320:Nat:=0
def tw10645288641761918523:Nat:=0
def tw13630323300926964365:Nat:=0
def tw10964415743199620080:Nat:=0
def tw17362641571375392126:Nat:=0
def tw5921889076377776443:Nat:=0
def tw15178306680389483711:Nat:=0
def tw6896423230923889780:Nat:=0
def tw9111035705811880125:Nat:=0
def tw726795225298286859:Nat:=0
def tw15097560475195850435:Nat:=0
def tw8076583026825751061:Nat:=0
def tw11336762809434422117:Nat:=0
def tw13841224992763134134:Nat:=0
def tw15875071378864161585:Nat:=0
def tw4381700676603464896:Nat:=0
def tw6568700200880480231:Nat:=0
def tw18191486269742404799:Nat:=0
def tw505081400138051959:Nat:=0
def tw1922710616136486438:Nat:=0
def tw1853405350417703976:Nat:=0
def tw6632369424650781239:Nat:=0
def tw13263426769675520450:Nat:=0
def tw10436344732814749514:Nat:=0
def tw13025806786810743414:Nat:=0
def tw4013226474697659010:Nat:=0
def tw11857439034192576607:Nat:=0
def tw3096293396112746941:Nat:=0
def tw10086149159958015779:Nat:=0
def tw14760097656489366446:Nat:=0
def tw14020675030234495320:Nat:=0
def tw8570748415972591163:Nat:=0
def tw1068833341831929980:Nat:=0
def tw6088347607950343940:Nat:=0
def tw5069995940130141205:Nat:=0
def tw14448036141176754031:Nat:=0
def tw9611207154859357146:Nat:=0
def tw16873012793711135643:Nat:=0
def tw6881082774552548215:Nat:=0
def tw1498730803908502638:Nat:=0
def tw7401939753688189655:Nat:=0
def tw250180479617296497:Nat:=0
def tw16458414145336389026:Nat:=0
def tw16513104767674735988:Nat:=0
def tw4901637657228237277:Nat:=0
def tw9899532646275329281:Nat:=0
def tw17143725758431133935:Nat:=0
def tw3481847059196618218:Nat:=0
def tw4882426254674798253:Nat:=0
def tw12945058808462029328:Nat:=0
end PySem.W.Fast
open PySem PySem.W PyProof.Rows
set_option maxRecDepth 100000 in
set_option maxHeartbeats 0 in
theorem PySem.Challenge.cw_satchelmeet_k58_whole_letters_one_by_one_holds : PySem.Challenge.rw_satchelmeet_k58_whole_letters_one_by_one.Holds := by
 w_on;o_law;k_head;(case hw=>w_witness2)
 k_fill
 refine Sm.walk (l:=PySem.Challenge.rw_satchelmeet_k58_whole_letters_one_by_one) rfl rfl (fun w h Y=>PySem.W.kIn_of Y) ?F
 case F=>
  intro w mg fa h KX G hmg
  refine' Sm.all_mk KX G hmg ?a__wall ?F__wall ?a__law_purse ?F__law_purse ?a__law_take ?F__law_take ?a__law_far ?F__law_far ?a__law_rooms ?F__law_rooms ?a__law_step ?F__law_step ?a__law_meetings ?F__law_meetings ?a__law_book ?F__law_book ?a__law_time ?F__law_time ?a__law_letter ?F__law_letter ?a_is_whole ?F_is_whole ?a_is_within ?F_is_within ?a_is_below ?F_is_below ?a_is_meeting_number ?F_is_meeting_number ?a_is_walker ?F_is_walker ?a_other_at ?F_other_at ?a_lone_row ?F_lone_row ?a_AllMet___init__ ?j_AllMet___init__ ?F_AllMet___init__ ?a_AllMet_at_first ?j_AllMet_at_first ?F_AllMet_at_first ?a_AllMet_share ?j_AllMet_share ?F_AllMet_share ?a_Halves___init__ ?j_Halves___init__ ?F_Halves___init__ ?a_Halves_at_first ?j_Halves_at_first ?F_Halves_at_first ?a_Halves_share ?j_Halves_share ?F_Halves_share ?a_times_met ?F_times_met ?a_Nearer___init__ ?j_Nearer___init__ ?F_Nearer___init__ ?a_Nearer_at_first ?j_Nearer_at_first ?F_Nearer_at_first ?a_Nearer_share ?j_Nearer_share ?F_Nearer_share ?a_are_wholes ?F_are_wholes ?a_is_passing ?F_is_passing ?a_is_drop ?F_is_drop ?a_Trip_takes_room ?j_Trip_takes_room ?F_Trip_takes_room ?a_Trip_note_arrival ?j_Trip_note_arrival ?F_Trip_note_arrival ?a_Trip___init__ ?j_Trip___init__ ?F_Trip___init__ ?a_Trip_having ?j_Trip_having ?F_Trip_having ?a_Trip_bag ?j_Trip_bag ?F_Trip_bag ?a_Trip_done ?j_Trip_done ?F_Trip_done ?a_Trip_need_letter ?j_Trip_need_letter ?F_Trip_need_letter ?a_Trip_need_drop ?j_Trip_need_drop ?F_Trip_need_drop ?a_Trip_need_passing ?j_Trip_need_passing ?F_Trip_need_passing ?a_Trip_pass_on ?j_Trip_pass_on ?F_Trip_pass_on ?a_Trip_do ?j_Trip_do ?F_Trip_do ?a_lone_holder ?F_lone_holder ?a_is_done ?F_is_done ?a_times_of ?F_times_of ?a_run ?F_run ?a__law_wide ?F__law_wide ?a__law_rule ?F__law_rule ?a__law_three ?F__law_three ?a__law_straight ?F__law_straight ?a__law_bare_so ?F__law_bare_so ?a_law ?F_law ?z_all ?z_bool ?z_dict ?z_enumerate ?z_int ?z_isinstance ?z_len ?z_list ?z_max ?z_min ?z_range ?z_sorted ?z_tuple ?g_MOST_TOKENS ?e_AllMet ?e_Halves ?e_HasIt ?e_Nearer ?e_NoDeed ?e_NoLetter ?e_NoMeeting ?e_NoPass ?e_NoRoom ?e_NoRule ?e_NoWalker ?e_NotThere ?e_Trip ?pg_AllMet ?hd_AllMet ?po_AllMet ?sa_AllMet ?pg_Halves ?hd_Halves ?po_Halves ?sa_Halves ?pg_Nearer ?hd_Nearer ?po_Nearer ?sa_Nearer ?pg_Trip ?hd_Trip ?po_Trip ?sa_Trip ?mk_AllMet ?kc_AllMet ?mk_Halves ?kc_Halves ?mk_Nearer ?kc_Nearer ?mk_Trip ?kc_Trip ?nf_Halves_tokens ?nf_Nearer_past ?nf_Trip_book ?nf_Trip_letters ?nf_Trip_holders ?nf_Trip_arrivals ?nf_Trip_passed ?nf_Trip_reached ?nf_Trip_deeds ?xx_NoDeed ?xx_NoMeeting ?xx_NoLetter ?xx_NoWalker ?xx_NotThere ?xx_HasIt ?xx_NoPass ?xx_NoRoom ?xx_NoRule ?oo_AllMet ?oo_Halves ?oo_Nearer ?ff_f_d4 ?ff_f_d6 ?ff_f_d7 ?ff_f_na ?ff_f_nh ?ff_f_nn
  (case e_AllMet=>k_is)
  (case e_Halves=>k_is)
  (case e_HasIt=>k_is)
  (case e_Nearer=>k_is)
  (case e_NoDeed=>k_is)
  (case e_NoLetter=>k_is)
  (case e_NoMeeting=>k_is)
  (case e_NoPass=>k_is)
  (case e_NoRoom=>k_is)
  (case e_NoRule=>k_is)
  (case e_NoWalker=>k_is)
  (case e_NotThere=>k_is)
  (case e_Trip=>k_is)
  (case a__wall=>k_is)
  (case F__wall=>refine' L2.fun_mk ?x1 ?y1 ?z1;(case x1=>k_is);(case y1=>k_is);(case z1=>k_is))
  (case a__law_purse=>k_is)
  (case F__law_purse=>refine' L2.fun_mk ?x3 ?y3 ?z3;(case x3=>k_is);(case y3=>k_is);(case z3=>k_is))
  (case a__law_take=>k_is)
  (case F__law_take=>refine' L2.fun_mk ?x5 ?y5 ?z5;(case x5=>k_is);(case y5=>k_is);(case z5=>k_is))
  (case a__law_far=>k_is)
  (case F__law_far=>refine' L2.fun_mk ?x7 ?y7 ?z7;(case x7=>k_is);(case y7=>k_is);(case z7=>k_is))
  (case a__law_rooms=>k_is)
  (case F__law_rooms=>refine' L2.fun_mk ?x9 ?y9 ?z9;(case x9=>k_is);(case y9=>k_is);(case z9=>k_is))
  (case a__law_step=>k_is)
  (case F__law_step=>refine' L2.fun_mk ?x11 ?y11 ?z11;(case x11=>k_is);(case y11=>k_is);(case z11=>k_is))
  (case a__law_meetings=>k_is)
  (case F__law_meetings=>refine' L2.fun_mk ?x13 ?y13 ?z13;(case x13=>k_is);(case y13=>k_is);(case z13=>k_is))
  (case a__law_book=>k_is)
  (case F__law_book=>refine' L2.fun_mk ?x15 ?y15 ?z15;(case x15=>k_is);(case y15=>k_is);(case z15=>k_is))
  (case a__law_time=>k_is)
  (case F__law_time=>refine' L2.fun_mk ?x17 ?y17 ?z17;(case x17=>k_is);(case y17=>k_is);(case z17=>k_is))
  (case a__law_letter=>k_is)
  (case F__law_letter=>refine' L2.fun_mk ?x19 ?y19 ?z19;(case x19=>k_is);(case y19=>k_is);(case z19=>k_is))
  (case a_is_whole=>k_is)
  (case F_is_whole=>refine' L2.fun_mk ?x21 ?y21 ?z21;(case x21=>k_is);(case y21=>k_is);(case z21=>k_is))
  (case a_is_within=>k_is)
  (case F_is_within=>refine' L2.fun_mk ?x23 ?y23 ?z23;(case x23=>k_is);(case y23=>k_is);(case z23=>k_is))
  (case a_is_below=>k_is)
  (case F_is_below=>refine' L2.fun_mk ?x25 ?y25 ?z25;(case x25=>k_is);(case y25=>k_is);(case z25=>k_is))
  (case a_is_meeting_number=>k_is)
  (case F_is_meeting_number=>refine' L2.fun_mk ?x27 ?y27 ?z27;(case x27=>k_is);(case y27=>k_is);(case z27=>k_is))
  (case a_is_walker=>k_is)
  (case F_is_walker=>refine' L2.fun_mk ?x29 ?y29 ?z29;(case x29=>k_is);(case y29=>k_is);(case z29=>k_is))
  (case a_other_at=>k_is)
  (case F_other_at=>refine' L2.fun_mk ?x31 ?y31 ?z31;(case x31=>k_is);(case y31=>k_is);(case z31=>k_is))
  (case a_lone_row=>k_is)
  (case F_lone_row=>refine' L2.fun_mk ?x33 ?y33 ?z33;(case x33=>k_is);(case y33=>k_is);(case z33=>k_is))
  (case a_AllMet___init__=>k_is)
  (case j_AllMet___init__=>k_is)
  (case F_AllMet___init__=>refine' L2.fun_mk ?x36 ?y36 ?z36;(case x36=>k_is);(case y36=>k_is);(case z36=>k_is))
  (case a_AllMet_at_first=>k_is)
  (case j_AllMet_at_first=>k_is)
  (case F_AllMet_at_first=>refine' L2.fun_mk ?x39 ?y39 ?z39;(case x39=>k_is);(case y39=>k_is);(case z39=>k_is))
  (case a_AllMet_share=>k_is)
  (case j_AllMet_share=>k_is)
  (case F_AllMet_share=>refine' L2.fun_mk ?x42 ?y42 ?z42;(case x42=>k_is);(case y42=>k_is);(case z42=>k_is))
  (case a_Halves___init__=>k_is)
  (case j_Halves___init__=>k_is)
  (case F_Halves___init__=>refine' L2.fun_mk ?x45 ?y45 ?z45;(case x45=>k_is);(case y45=>k_is);(case z45=>k_is))
  (case a_Halves_at_first=>k_is)
  (case j_Halves_at_first=>k_is)
  (case F_Halves_at_first=>refine' L2.fun_mk ?x48 ?y48 ?z48;(case x48=>k_is);(case y48=>k_is);(case z48=>k_is))
  (case a_Halves_share=>k_is)
  (case j_Halves_share=>k_is)
  (case F_Halves_share=>refine' L2.fun_mk ?x51 ?y51 ?z51;(case x51=>k_is);(case y51=>k_is);(case z51=>k_is))
  (case a_times_met=>k_is)
  (case F_times_met=>refine' L2.fun_mk ?x53 ?y53 ?z53;(case x53=>k_is);(case y53=>k_is);(case z53=>k_is))
  (case a_Nearer___init__=>k_is)
  (case j_Nearer___init__=>k_is)
  (case F_Nearer___init__=>refine' L2.fun_mk ?x56 ?y56 ?z56;(case x56=>k_is);(case y56=>k_is);(case z56=>k_is))
  (case a_Nearer_at_first=>k_is)
  (case j_Nearer_at_first=>k_is)
  (case F_Nearer_at_first=>refine' L2.fun_mk ?x59 ?y59 ?z59;(case x59=>k_is);(case y59=>k_is);(case z59=>k_is))
  (case a_Nearer_share=>k_is)
  (case j_Nearer_share=>k_is)
  (case F_Nearer_share=>refine' L2.fun_mk ?x62 ?y62 ?z62;(case x62=>k_is);(case y62=>k_is);(case z62=>k_is))
  (case a_are_wholes=>k_is)
  (case F_are_wholes=>refine' L2.fun_mk ?x64 ?y64 ?z64;(case x64=>k_is);(case y64=>k_is);(case z64=>k_is))
  (case a_is_passing=>k_is)
  (case F_is_passing=>refine' L2.fun_mk ?x66 ?y66 ?z66;(case x66=>k_is);(case y66=>k_is);(case z66=>k_is))
  (case a_is_drop=>k_is)
  (case F_is_drop=>refine' L2.fun_mk ?x68 ?y68 ?z68;(case x68=>k_is);(case y68=>k_is);(case z68=>k_is))
  (case a_Trip_takes_room=>k_is)
  (case j_Trip_takes_room=>k_is)
  (case F_Trip_takes_room=>refine' L2.fun_mk ?x71 ?y71 ?z71;(case x71=>k_is);(case y71=>k_is);(case z71=>k_is))
  (case a_Trip_note_arrival=>k_is)
  (case j_Trip_note_arrival=>k_is)
  (case F_Trip_note_arrival=>refine' L2.fun_mk ?x74 ?y74 ?z74;(case x74=>k_is);(case y74=>k_is);(case z74=>k_is))
  (case a_Trip___init__=>k_is)
  (case j_Trip___init__=>k_is)
  (case F_Trip___init__=>refine' L2.fun_mk ?x77 ?y77 ?z77;(case x77=>k_is);(case y77=>k_is);(case z77=>k_is))
  (case a_Trip_having=>k_is)
  (case j_Trip_having=>k_is)
  (case F_Trip_having=>refine' L2.fun_mk ?x80 ?y80 ?z80;(case x80=>k_is);(case y80=>k_is);(case z80=>k_is))
  (case a_Trip_bag=>k_is)
  (case j_Trip_bag=>k_is)
  (case F_Trip_bag=>refine' L2.fun_mk ?x83 ?y83 ?z83;(case x83=>k_is);(case y83=>k_is);(case z83=>k_is))
  (case a_Trip_done=>k_is)
  (case j_Trip_done=>k_is)
  (case F_Trip_done=>refine' L2.fun_mk ?x86 ?y86 ?z86;(case x86=>k_is);(case y86=>k_is);(case z86=>k_is))
  (case a_Trip_need_letter=>k_is)
  (case j_Trip_need_letter=>k_is)
  (case F_Trip_need_letter=>refine' L2.fun_mk ?x89 ?y89 ?z89;(case x89=>k_is);(case y89=>k_is);(case z89=>k_is))
  (case a_Trip_need_drop=>k_is)
  (case j_Trip_need_drop=>k_is)
  (case F_Trip_need_drop=>refine' L2.fun_mk ?x92 ?y92 ?z92;(case x92=>k_is);(case y92=>k_is);(case z92=>k_is))
  (case a_Trip_need_passing=>k_is)
  (case j_Trip_need_passing=>k_is)
  (case F_Trip_need_passing=>refine' L2.fun_mk ?x95 ?y95 ?z95;(case x95=>k_is);(case y95=>k_is);(case z95=>k_is))
  (case a_Trip_pass_on=>k_is)
  (case j_Trip_pass_on=>k_is)
  (case F_Trip_pass_on=>refine' L2.fun_mk ?x98 ?y98 ?z98;(case x98=>k_is);(case y98=>k_is);(case z98=>k_is))
  (case a_Trip_do=>k_is)
  (case j_Trip_do=>k_is)
  (case F_Trip_do=>refine' L2.fun_mk ?x101 ?y101 ?z101;(case x101=>k_is);(case y101=>k_is);(case z101=>k_is))
  (case a_lone_holder=>k_is)
  (case F_lone_holder=>refine' L2.fun_mk ?x103 ?y103 ?z103;(case x103=>k_is);(case y103=>k_is);(case z103=>k_is))
  (case a_is_done=>k_is)
  (case F_is_done=>refine' L2.fun_mk ?x105 ?y105 ?z105;(case x105=>k_is);(case y105=>k_is);(case z105=>k_is))
  (case a_times_of=>k_is)
  (case F_times_of=>refine' L2.fun_mk ?x107 ?y107 ?z107;(case x107=>k_is);(case y107=>k_is);(case z107=>k_is))
  (case a_run=>k_is)
  (case F_run=>refine' L2.fun_mk ?x109 ?y109 ?z109;(case x109=>k_is);(case y109=>k_is);(case z109=>k_is))
  (case a__law_wide=>k_is)
  (case F__law_wide=>refine' L2.fun_mk ?x111 ?y111 ?z111;(case x111=>k_is);(case y111=>k_is);(case z111=>k_is))
  (case a__law_rule=>k_is)
  (case F__law_rule=>refine' L2.fun_mk ?x113 ?y113 ?z113;(case x113=>k_is);(case y113=>k_is);(case z113=>k_is))
  (case a__law_three=>k_is)
  (case F__law_three=>refine' L2.fun_mk ?x115 ?y115 ?z115;(case x115=>k_is);(case y115=>k_is);(case z115=>k_is))
  (case a__law_straight=>k_is)
  (case F__law_straight=>refine' L2.fun_mk ?x117 ?y117 ?z117;(case x117=>k_is);(case y117=>k_is);(case z117=>k_is))
  (case a__law_bare_so=>k_is)
  (case F__law_bare_so=>refine' L2.fun_mk ?x119 ?y119 ?z119;(case x119=>k_is);(case y119=>k_is);(case z119=>k_is))
  (case a_law=>k_is)
  (case F_law=>refine' L2.fun_mk ?x121 ?y121 ?z121;(case x121=>k_is);(case y121=>k_is);(case z121=>k_is))
  (case z_all=>k_is)
  (case z_bool=>k_is)
  (case z_dict=>k_is)
  (case z_enumerate=>k_is)
  (case z_int=>k_is)
  (case z_isinstance=>k_is)
  (case z_len=>k_is)
  (case z_list=>k_is)
  (case z_max=>k_is)
  (case z_min=>k_is)
  (case z_range=>k_is)
  (case z_sorted=>k_is)
  (case z_tuple=>k_is)
  (case g_MOST_TOKENS=>k_is)
  (case pg_AllMet=>k_is)
  (case hd_AllMet=>k_is)
  (case po_AllMet=>k_is)
  (case sa_AllMet=>k_is)
  (case pg_Halves=>k_is)
  (case hd_Halves=>k_is)
  (case po_Halves=>k_is)
  (case sa_Halves=>k_is)
  (case pg_Nearer=>k_is)
  (case hd_Nearer=>k_is)
  (case po_Nearer=>k_is)
  (case sa_Nearer=>k_is)
  (case pg_Trip=>k_is)
  (case hd_Trip=>k_is)
  (case po_Trip=>k_is)
  (case sa_Trip=>k_is)
  (case mk_AllMet=>k_is)
  (case kc_AllMet=>k_is)
  (case mk_Halves=>k_is)
  (case kc_Halves=>k_is)
  (case mk_Nearer=>k_is)
  (case kc_Nearer=>k_is)
  (case mk_Trip=>k_is)
  (case kc_Trip=>k_is)
  (case nf_Halves_tokens=>k_is)
  (case nf_Nearer_past=>k_is)
  (case nf_Trip_book=>k_is)
  (case nf_Trip_letters=>k_is)
  (case nf_Trip_holders=>k_is)
  (case nf_Trip_arrivals=>k_is)
  (case nf_Trip_passed=>k_is)
  (case nf_Trip_reached=>k_is)
  (case nf_Trip_deeds=>k_is)
  (case xx_NoDeed=>kernel_rfl)
  (case xx_NoMeeting=>kernel_rfl)
  (case xx_NoLetter=>kernel_rfl)
  (case xx_NoWalker=>kernel_rfl)
  (case xx_NotThere=>kernel_rfl)
  (case xx_HasIt=>kernel_rfl)
  (case xx_NoPass=>kernel_rfl)
  (case xx_NoRoom=>kernel_rfl)
  (case xx_NoRule=>kernel_rfl)
  (case oo_AllMet=>kernel_rfl)
  (case oo_Halves=>kernel_rfl)
  (case oo_Nearer=>kernel_rfl)
  (case ff_f_d4=>kernel_rfl)
  (case ff_f_d6=>kernel_rfl)
  (case ff_f_d7=>kernel_rfl)
  (case ff_f_na=>kernel_rfl)
  (case ff_f_nh=>kernel_rfl)
  (case ff_f_nn=>kernel_rfl)

