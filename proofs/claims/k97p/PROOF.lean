import PyProof.Rows.All
import Wide.All
import OpenK.AllK
import Wide.FinOn
import Lean
import PyProof.EqAt
import PyProof.EqKinds
import PyProof.TupleCall
import KE.KRevIter
import KE.KDictOf
import PyProof.AttrMissHeap
import PyProof.StrWalks
import PyProof.StrBlockI
import PyProof.FString5
import PyProof.SetRoads
import PyProof.SetNew
import PyProof.TupleKey
import PyProof.InstEq
import PySem.SetOps
import PyProof.Rows.SetFrom
import KE.KTryMore
import PyProof.NsDelKeeps
import KE.KIsAll
import KE.KItemsList
import KE.KSortTup
import KE.KDictSum
import KE.KLam
import KE.KNestM
import KE.KSortTup
import PySem.Challenge.RW_satchelmeet_k97_whole_wish_by_wish
open List renaming length_map → zA,getElem?_eq_some_iff → zB,mem_of_getElem? → zC,map_append → zD,getElem?_map → zF,getElem?_eq_getElem → zG,mem_append_right → zI,mem_singleton → zJ,length_append → zL,size_toArray → zM,mem_cons → zN,mem_map → zO,length_cons → zR,getD_eq_getElem?_getD → zS,mem_append → zT,mem_append_left → zY,map_cons → zZ,getElem?_append_right → zb,map_map → zg,getElem_mem → zh,getElem?_append_left → zl,mem_range → zo,mem_cons_of_mem → zp,mem_iff_getElem? → zv,pairwise_iff_getElem → z4,length_take → z8,take_length → yA,replicate_succ → yD,mem_map_of_mem → yE,map_nil → yG,sum_append → yJ,take_of_length_le → yL,map_congr_left → yN,length_reverse → yO,length_singleton → yQ,getElem?_eq_none → yR,length_nil → yT,mem_reverse → yU,nodup_cons → yW,length_filter_le → yX,not_mem_nil → yZ,foldl_append → ya,getElem?_cons_zero → yb,getElem?_cons_succ → yc,filterMap_cons → ye,lookup_cons → yf,length_replicate → yg,mem_filter → yh,append_nil → yj,reverse_cons → yo,flatten_cons → yp,map_set → yq,getElem_map → yx,all_eq_true → yy,mem_flatMap → yz,lookup → xA,mem_cons_self → xB,set_cons_zero → xF,set_cons_succ → xG,find?_cons → xH,range_succ → xI,any_cons → xJ,sum_cons → xK,cons_append → xO,sum_nil → xQ,of_mem_zip → xU,nil_append → xV
open Nat renaming le_refl → zE,lt_of_lt_of_le → zW,zero_le → zX,ne_of_lt → za,le_trans → zi,testBit_or → zm,lt_of_le_of_lt → zq,testBit_two_pow → zw,le_succ → zx,eq_of_testBit_eq → zz,lt_irrefl → z6,zero_testBit → yB,not_lt_zero → yI,testBit_and → yK,two_pow_pos → yk,le_of_lt → yl,ne_of_gt → ym,lt_succ_self → yu,succ_le_succ → yw,sub_self → xE,lt_succ_of_lt → xL,le_of_not_lt → xP,lt_or_ge → xR,mod_eq_of_lt → xS
open PySem.W renaming nsIn → zH,findIn → zP,keepIn → zj,mg_none_of → zk,mg_of → yC,isFn → yF,kia_one → yH,emptyDict → yP,instObj → yd,plainGet → xM,fnOf → xN,mroIn → xZ
open Bool renaming false_ne_true → zK,and_eq_true → zc,false_and → yS,true_and → yr,eq_iff_iff → xT,or_eq_true → xX,and_false → xY
open PySem.F renaming plainAttrs_list → zQ,slot_list_append → zU,type_list_append → zV,plain_min_loop → yM
open Int renaming eq_ofNat_of_zero_le → zd,le_refl → ze,toNat_natCast → zf,toNat_of_nonneg → yt,emod_lt_of_pos → xC,le_trans → xD,emod_nonneg → xW
open PySem renaming mem_of_lookup → zn
open PyProof.Rows renaming callWith_type1 → zu,boot_tuple → yV,boot_min → yY
open Option renaming map_some → yi,isSome_map → yn
set_option Elab.async false
set_option linter.all false
set_option maxRecDepth 100000
set_option maxHeartbeats 4000000
namespace L2
open PySem PySem.Spec PyProof.Rows
abbrev Key:=Sum Int Str
def p5:Key->Value->Bool
 | .inl k,v=>Value.isInt k v
 | .inr x,v=>Value.isStrOf x v
def abA (w:World):Key->Int
 | .inl k=>hashInt k
 | .inr x=>hashStr w x
theorem wV:∀ {k:Key}{v:Value},p5 k v=true->(∃ i t,k=Sum.inl i/\v=Value.int i t)\/(∃ x t,k=Sum.inr x/\v=Value.str x t)
 | .inl i,v,h=>by
  obtain ⟨t,e⟩:=Value.isInt_shape (k:=i) (v:=v) h;exact .inl ⟨i,t,rfl,e⟩
 | .inr x,v,h=>by
  obtain ⟨t,e⟩:=Value.isStrOf_shape (x:=x) (v:=v) h;exact .inr ⟨x,t,rfl,e⟩
theorem Nr (i:Int)(t:Tok):p5 (.inl i) (.int i t)=true:=by simp [p5,Value.isInt]
theorem Nq (x:Str)(t:Tok):p5 (.inr x) (.str x t)=true:=by simp [p5,Value.isStrOf]
theorem UI (a b:Int):decide ((Sum.inl a:Key)=Sum.inl b)=(a == b):=by
 by_cases e:a=b
 ·subst e;simp
 ·have h:¬ (Sum.inl a:Key)=Sum.inl b:=λq=>e (Sum.inl.inj q);rw [decide_eq_false h];exact (beq_eq_false_iff_ne.mpr e).symm
theorem UE (a b:Str):decide ((Sum.inr a:Key)=Sum.inr b)=decide (a=b):=by
 by_cases e:a=b
 ·subst e;simp
 ·have h:¬ (Sum.inr a:Key)=Sum.inr b:=λq=>e (Sum.inr.inj q);rw [decide_eq_false h,decide_eq_false e]
theorem UH (a:Int)(b:Str):decide ((Sum.inl a:Key)=Sum.inr b)=false:=decide_eq_false (λq=>nomatch q)
theorem UG (a:Str)(b:Int):decide ((Sum.inr a:Key)=Sum.inl b)=false:=decide_eq_false (λq=>nomatch q)
def aW (prog:Program)(w:World):PySem.KeyKind prog w Key where
 is:=p5
 hash:=abA w
 inj:=λv a b ha hb=>by
  rcases wV ha with ⟨i,t,rfl,rfl⟩ | ⟨x,t,rfl,rfl⟩
  ·rcases wV hb with ⟨j,u,rfl,e⟩ | ⟨y,u,rfl,e⟩
   ·injection e with e1 _;rw [e1]
   ·exact nomatch e
  ·rcases wV hb with ⟨j,u,rfl,e⟩ | ⟨y,u,rfl,e⟩
   ·exact nomatch e
   ·injection e with e1 _;rw [e1]
 byValue:=λk v h=>by
  rcases wV h with ⟨i,t,rfl,rfl⟩ | ⟨x,t,rfl,rfl⟩ <;> rfl
 pyHash:=λhv h=>by
  rcases wV hv with ⟨i,t,rfl,rfl⟩ | ⟨x,t,rfl,rfl⟩
  ·exact wpAny_pyHash_int h
  ·exact wpAny_pyHash_str h
 eqBool:=λhu hv h=>by
  rcases wV hu with ⟨i,t,rfl,rfl⟩ | ⟨x,t,rfl,rfl⟩
  ·rcases wV hv with ⟨j,u,rfl,rfl⟩ | ⟨y,u,rfl,rfl⟩
   ·rw [UI] at h;exact wpAny_eqBool_int h
   ·rw [UH] at h;exact SeqAt.EqAt.int_str i t y u _ _ _ _ h
  ·rcases wV hv with ⟨j,u,rfl,rfl⟩ | ⟨y,u,rfl,rfl⟩
   ·rw [UG] at h;exact SeqAt.EqAt.str_int x t j u _ _ _ _ h
   ·rw [UE] at h;exact wpAny_eqBool_str h
 «strs»:=λk x t v h=>by
  rcases wV h with ⟨i,u,rfl,e⟩ | ⟨y,u,rfl,e⟩
  ·exact nomatch e
  ·injection e with e1 _
   subst e1;cases v <;> rfl
theorem tM (prog:Program)(w:World)(i:Int)(t:Tok):(aW prog w).is (.inl i) (.int i t)=true:=Nr i t
theorem tL (prog:Program)(w:World)(x:Str)(t:Tok):(aW prog w).is (.inr x) (.str x t)=true:=Nq x t
inductive V where
 | bV | bl (b:Bool) | int (i:Int) | str (x:Str) | vS (b:Array UInt8) | N6 (b:UInt64) | ref (a:Addr) | ty (n:String)
 deriving DecidableEq
def RelV:V->Value->Prop
 | .bV,u=>u=Value.none
 | .bl b,u=>u=Value.bool b
 | .int i,u=>∃ t,u=Value.int i t
 | .str x,u=>∃ t,u=Value.str x t
 | .vS b,u=>∃ t,u=Value.bytes b t
 | .N6 b,u=>∃ t,u=Value.float b t
 | .ref a,u=>u=Value.ref a
 | .ty n,u=>u=Value.type n
abbrev Vals:List V->List Value->Prop:=Paired RelV
theorem Vals.length {xs:List V}{us:List Value}(r:Vals xs us):xs.length=us.length:=Paired.length r
theorem Vals.get:∀ {xs:List V}{us:List Value}{i:Nat}{x:V},Vals xs us->xs[i]?=some x->∃ u,us[i]?=some u/\RelV x u
 | _,_,_,_,.nil,e=>by simp at e
 | _,_,0,_,.cons r _,e=>by simp at e;subst e;exact ⟨_,rfl,r⟩
 | _,_,i + 1,x,.cons _ t,e=>by
  obtain ⟨u,h1,h2⟩:=Vals.get (i:=i) (x:=x) t (by simpa using e);exact ⟨u,by simpa using h1,h2⟩
theorem Vals.set {x:V}{u:Value}(r:RelV x u):∀ {xs:List V}{us:List Value} (i:Nat),Vals xs us->Vals (xs.set i x) (us.set i u)
 | _,_,_,.nil=>.nil
 | _,_,0,.cons _ t=>.cons r t
 | _,_,i + 1,.cons q t=>.cons q (Vals.set r i t)
theorem Vals.append:∀ {xs ys:List V}{us ws:List Value},Vals xs us->Vals ys ws->Vals (xs++ys) (us++ws)
 | _,_,_,_,.nil,s=>s
 | _,_,_,_,.cons r t,s=>.cons r (Vals.append t s)
theorem Vals.take:∀ {xs:List V}{us:List Value} (n:Nat),Vals xs us->Vals (xs.take n) (us.take n)
 | _,_,0,_=>.nil
 | _,_,_ + 1,.nil=>.nil
 | _,_,n + 1,.cons r t=>.cons r (Vals.take n t)
theorem Vals.drop:∀ {xs:List V}{us:List Value} (n:Nat),Vals xs us->Vals (xs.drop n) (us.drop n)
 | _,_,0,r=>r
 | _,_,_ + 1,.nil=>.nil
 | _,_,n + 1,.cons _ t=>Vals.drop n t
def gm:Option V->Option Value->Prop
 | some v,some u=>RelV v u
 | none,none=>True
 | _,_=>False
def KV {κ:Type}:List (κ×V)->List (κ×Value)->Prop:=Paired λ(p:κ×V) (q:κ×Value)=>p.1=q.1/\RelV p.2 q.2
def kV:Key->V
 | .inl i=>.int i
 | .inr x=>.str x
inductive HO where
  | lst (xs:List V)
  | tup (xs:List V)
  | dK (kvs:List (Key×V)) | dT (kvs:List (List Key×V))
  | set (S:Int->Bool) (n:Nat)
  | ins (C dx:Addr) (fs:List (Str×V))
  | own (x:Addr)
  | xd (fs:List (Str×V))
  | met (f x:Addr)
  | YX (lo hi:Int)
  | o4 (o:Obj) (u:HO)
  | jQ (ps:Array Value)
  | ext (φ:Heap->Prop)
abbrev Hp:=Addr->Option HO
def upd (H:Hp)(a:Addr)(o:HO):Hp:=λb=>if b=a then some o else H b
theorem xa {H:Hp}{a:Addr}{o:HO}:upd H a o a=some o:=by unfold upd;rw [if_pos rfl]
theorem xl {H:Hp}{a b:Addr}{o:HO}(h:b≠a):upd H a o b=H b:=by unfold upd;rw [if_neg h]
theorem Q7 {H:Hp}{a:Addr}{o u:HO}:upd (upd H a o) a u=upd H a u:=by funext b;unfold upd;split <;> rfl
theorem wU {H:Hp}{a b:Addr}{o u:HO}(h:H a=some o)(h':H b=some u)(d:o≠u):a≠b:=by intro e;subst e;rw [h] at h';exact d (Option.some.inj h')
theorem xg {H:Hp}{a b:Addr}{o:HO}(h:H a=some o)(h':H b=none):a≠b:=by intro e;subst e;rw [h] at h';cases h'
theorem nj {h:Heap}{o:Obj}(hf:o.isFreed=false:=by rfl)(hd:o.dict=none:=by rfl):∀ ob,(h.push o).get? h.objs.size=some ob->ob.dict=none:=λob e=>by
 rw [Heap.get?_push_size h hf] at e;cases e;exact hd
section
variable (P:Program) (w:World)
def bu (H:Hp)(h:Heap)(a:Addr):HO->Prop
 | .lst xs=>xs.length<=sizeLine/\∃ (az:List Value) (n:Nat),Vals xs az/\h.get? a=some { cls:=.type "list", data:=.seq az.toArray n }
 | .tup xs=>(xs.length<=sizeLine/\∀ ob,h.get? a=some ob->ob.dict=none)/\∃ az:List Value,Vals xs az/\IsTup h a az.toArray
 | .dK kvs=>kvs.length<=sizeLine/\(a == sysModules)=false/\∃ vs,KV kvs vs/\h.DictOf (aW P w) a vs
 | .dT kvs=>kvs.length<=sizeLine/\(a == sysModules)=false/\∃ xs:List (List Key×Addr×Value),
   Paired (λ(p:List Key×V) (q:List Key×Addr×Value)=>p.1=q.1/\H q.2.1=some (.tup (p.1.map kV))/\RelV p.2 q.2.2) kvs xs /\
   ∃ o es ep,h.get? a=some o/\o.ExactDict/\o.data=.dict es ep/\es.toList=xs.map (entryOfKey (tupleKind (aW P w)))/\(xs.map (·.1)).Nodup
 | .set S n=>h.SetOf (intKind P w) a S n
 | .ins C dx fs=>H dx=some (.own a)/\fs.length<=1000/\dx≠a/\h.get? a=some (yd C dx) /\
   ∃ mA,h.Ns1 dx mA/\(∀ f,gm (fs.lookup f) (mA f))/\PySem.Within mA (fs.map (·.1))
 | .own _=>∃ o,h.get? a=some o
 | .xd fs=>∃ mA,h.Ns1 a mA/\∀ f,gm (fs.lookup f) (mA f)
 | .YX lo hi=>∃ t u v,h.get? a=some { cls:=.type "range", data:=.fields #[.int lo t,.int hi u,.int 1 v] }
 | .o4 o u=>h.get? a=some o/\bu H h a u
 | .jQ ps=>h.get? a=some { cls:=.none,data:=.fields ps }
 | .met f x=>h.get? a=some (PySem.W.methodObj (.ref f) (.ref x))
 | .ext φ=>φ h/\(∃ o,h.get? a=some o)/\∀ h1 h2:Heap,φ h1->(∀ o,h1.get? a=some o->h2.get? a=some o)->φ h2
def gZ (H:Hp)(h:Heap):Prop:=∀ a o,H a=some o->bu P w H h a o
end
section
variable {P:Program}{w:World}{H H':Hp}{h h':Heap}{a:Addr}{o:HO}
theorem bu.lt (x:bu P w H h a o):a < h.objs.size:=by
 cases o with
 | lst xs=>obtain ⟨_,_,_,_,e⟩:=x;exact Heap.lt_size e
 | tup xs=>obtain ⟨_,_,_,p⟩:=x;exact p.lt
 | dK kvs=>obtain ⟨_,_,_,_,o,_,_,e,_⟩:=x;exact Heap.lt_size e
 | dT kvs=>obtain ⟨_,_,_,_,o,_,_,e,_⟩:=x;exact Heap.lt_size e
 | set S n=>obtain ⟨o,_,_,_,e,_⟩:=x;exact Heap.lt_size e
 | ins C dx fs=>obtain ⟨_,_,_,e,_⟩:=x;exact Heap.lt_size e
 | own y=>obtain ⟨_,e⟩:=x;exact Heap.lt_size e
 | xd fs=>obtain ⟨_,⟨_,_,_,e,_⟩,_⟩:=x;exact Heap.lt_size e
 | YX lo hi=>obtain ⟨_,_,_,e⟩:=x;exact Heap.lt_size e
 | o4 ob u=>obtain ⟨e,_⟩:=x;exact Heap.lt_size e
 | jQ ps=>exact Heap.lt_size (show h.get? a=some _ from x)
 | met f y=>exact Heap.lt_size (show h.get? a=some _ from x)
 | ext φ=>obtain ⟨_,⟨_,e⟩,_⟩:=x;exact Heap.lt_size e
theorem Paired.Uu {α β:Type}{F G:α->β->Prop}:∀ {WZ:List α}{WY:List β},Paired F WZ WY->(∀ a b,F a b->G a b)->Paired G WZ WY
 | _,_,.nil,_=>.nil
 | _,_,.cons r t,f=>.cons (f _ _ r) (Paired.Uu t f)
theorem bu.dN (x:bu P w H h a o)(k:∀ b u,(b=a\/H b=some (.own a))->h.get? b=some u->h'.get? b=some u)
  (ho:∀ b,H b=some (.own a)->H' b=some (.own a)) (ht:∀ b xs,H b=some (.tup xs)->H' b=some (.tup xs)):bu P w H' h' a o:=by
 induction o with
 | lst xs=>obtain ⟨z,az,n,r,e⟩:=x;exact ⟨z,az,n,r,k _ _ (.inl rfl) e⟩
 | tup xs=>obtain ⟨z,az,r,ob,e,c⟩:=x;exact ⟨⟨z.1,λob' e'=>by rw [k _ _ (.inl rfl) e] at e';cases e';exact z.2 _ e⟩,az,r,ob,k _ _ (.inl rfl) e,c⟩
 | dK kvs=>obtain ⟨z,y,vs,r,ob,es,ep,e,c⟩:=x;exact ⟨z,y,vs,r,ob,es,ep,k _ _ (.inl rfl) e,c⟩
 | dT kvs=>
  obtain ⟨z,y,xs,r,ob,es,ep,e,c⟩:=x;exact ⟨z,y,xs,Paired.Uu r λp q z=>⟨z.1,ht _ _ z.2.1,z.2.2⟩,ob,es,ep,k _ _ (.inl rfl) e,c⟩
 | set S n=>obtain ⟨ob,es,ep,t,e,c⟩:=x;exact ⟨ob,es,ep,t,k _ _ (.inl rfl) e,c⟩
 | ins C dx fs=>
  obtain ⟨d,z,ne,e,mA,⟨od,es,ep,e2,c⟩,r⟩:=x;exact ⟨ho _ d,z,ne,k _ _ (.inl rfl) e,mA,⟨od,es,ep,k _ _ (.inr d) e2,c⟩,r⟩
 | own y=>obtain ⟨ob,e⟩:=x;exact ⟨ob,k _ _ (.inl rfl) e⟩
 | xd fs=>obtain ⟨mA,⟨od,es,ep,e,c⟩,r⟩:=x;exact ⟨mA,⟨od,es,ep,k _ _ (.inl rfl) e,c⟩,r⟩
 | YX lo hi=>obtain ⟨t,u,v,e⟩:=x;exact ⟨t,u,v,k _ _ (.inl rfl) e⟩
 | o4 ob u ih=>obtain ⟨e,q⟩:=x;exact ⟨k _ _ (.inl rfl) e,ih q⟩
 | jQ ps=>
  have e:h.get? a=some { cls:=.none,data:=.fields ps }:=x;show h'.get? a=some { cls:=.none,data:=.fields ps };exact k a _ (.inl rfl) e
 | met f y=>
  have e:h.get? a=some (PySem.W.methodObj (.ref f) (.ref y)):=x;show h'.get? a=some (PySem.W.methodObj (.ref f) (.ref y));exact k a _ (.inl rfl) e
 | ext φ=>obtain ⟨p,⟨o,e⟩,st⟩:=x;exact ⟨st _ _ p λo q=>k _ _ (.inl rfl) q,⟨o,k _ _ (.inl rfl) e⟩,st⟩
theorem gZ.lt (x:gZ P w H h)(e:H a=some o):a < h.objs.size:=(x a o e).lt
theorem gZ.fresh (x:gZ P w H h)(e:h.objs.size<=a):H a=none:=by
 cases q:H a with
 | none=>rfl
 | some u=>exact absurd (zW (x.lt q) e) (z6 _)
theorem gZ.kept (x:gZ P w H h)(k:∀ b u,h.get? b=some u->h'.get? b=some u):gZ P w H h':=λa o e=>
 (x a o e).dN (λb u _ q=>k b u q) (λ_ q=>q) λ_ _ q=>q
theorem gZ.laid (x:gZ P w H h)(k:∀ b u,h.get? b=some u->h'.get? b=some u)(hp:h.objs.size<=a)(new:bu P w (upd H a o) h' a o):gZ P w (upd H a o) h':=λb u e=>by
 have hn:=x.fresh hp;by_cases hb:b=a
 ·subst hb;rw [xa] at e;cases e;exact new
 ·rw [xl hb] at e;exact (x b u e).dN (λc v _ q=>k c v q) (λc q=>by rw [xl (xg q hn)];exact q) λc xs q=>by rw [xl (xg q hn)];exact q
end
def Rd (H:Hp)(a:Addr)(u:HO):Prop:=H a=some u\/∃ o,H a=some (.o4 o u)
theorem Rd.ok {P:Program}{w:World}{H:Hp}{h:Heap}{a:Addr}{u:HO}(r:Rd H a u)(x:gZ P w H h):bu P w H h a u:=by
 rcases r with r | ⟨o,r⟩
 ·exact x a u r
 ·obtain ⟨_,q⟩:=x a _ r;exact q
def YE:Option HO->Prop
 | some (.lst _)=>True
 | some (.dK _)=>True
 | some (.dT _)=>True
 | some (.set _ _)=>True
 | some (.ins _ _ _)=>True
 | some (.ext _)=>True
 | _=>False
section
variable {P:Program}{w:World}{H:Hp}{h h':Heap}{x e:Addr}{o':HO}
theorem gZ.write (ok:gZ P w H h)(mu:YE (H x))(he:e=x\/H e=some (.own x))(k:∀ b u,b≠e->h.get? b=some u->h'.get? b=some u)(VP:∃ u,h'.get? e=some u)
  (new:bu P w (upd H x o') h' x o'):gZ P w (upd H x o') h':=λb u q=>by
 have WO:∀ c y,H c=some (.own y)->c≠x:=λc y r z=>by subst z;rw [r] at mu;exact mu
 have abi:∀ c xs,H c=some (.tup xs)->c≠x:=λc xs r z=>by subst z;rw [r] at mu;exact mu
 by_cases hb:b=x
 ·subst hb;rw [xa] at q;cases q;exact new
 ·rw [xl hb] at q;by_cases U0:b=e
  ·have q':H b=some (.own x):=by
    rcases he with z | z
    ·exact absurd (U0.trans z) hb
    ·rw [U0];exact z
   rw [q] at q';cases q';obtain ⟨v,hv⟩:=VP;exact ⟨v,by rw [U0];exact hv⟩
  ·refine (ok b u q).dN (λc v hc r=>k c v ?_ r) (λc r=>by rw [xl (WO c b r)];exact r) λc xs r=>by rw [xl (abi c xs r)];exact r
   rcases hc with rfl | hc
   ·exact U0
   ·rintro rfl;rcases he with z | z
    ·exact WO c b hc z
    ·rw [hc] at z;cases z;exact hb rfl
end
structure Un (fs ex:List Addr) (H H':Hp) (h h':Heap):Prop where
 keep:∀ b o,h.get? b=some o->H b=none->b ∉ fs->b ∉ ex->h'.get? b=some o
 slot:∀ b o,h.get? b=some o->H b=none->b∈fs->b ∉ ex->∃ sl,h'.get? b=some { o with slots:=sl }
 free:∀ b o,h.get? b=some o->H b=none->b ∉ ex->H' b=none
 there:∀ b o,h.get? b=some o->b ∉ ex->∃ o',h'.get? b=some o'
 aT:∀ b xs,H b=some (.tup xs)->H' b=some (.tup xs)
 jq:∀ b o u,H b=some (.o4 o u)->H' b=some (.o4 o u)
 i8:∀ b ps,H b=some (.jQ ps)->∃ more,H' b=some (.jQ (ps++more))
section
variable {fs fs' ex ex':List Addr} {H H1 H2:Hp} {h h1 h2 h':Heap}{a x e:Addr}{o:HO}
theorem Un.any (u:Un fs ex H H1 h h1){b:Addr}{ob:Obj}(q:h.get? b=some ob)(n:H b=none)(hx:b ∉ ex):∃ sl,h1.get? b=some { ob with slots:=sl }:=by
 by_cases hb:b∈fs
 ·exact u.slot b ob q n hb hx
 ·exact ⟨ob.slots,u.keep b ob q n hb hx⟩
theorem Un.kept (k:∀ b u,h.get? b=some u->h'.get? b=some u):Un fs ex H H h h':=
 ⟨λb ob q _ _ _=>k b ob q,λb ob q _ _ _=>⟨ob.slots,k b ob q⟩,λ_ _ _ n _=>n,λb ob q _=>⟨ob,k b ob q⟩,λ_ _ q=>q,λ_ _ _ q=>q,λ_ ps q=>⟨#[],by rw [q];simp⟩⟩
theorem Un.refl:Un fs ex H H h h:=Un.kept λ_ _ q=>q
theorem Un.laid (k:∀ b u,h.get? b=some u->h'.get? b=some u)(hp:h.objs.size<=a)(hn:H a=none):Un fs ex H (upd H a o) h h' where
 keep:=λb u q _ _ _=>k b u q
 slot:=λb u q _ _ _=>⟨u.slots,k b u q⟩
 free:=λb u q n _=>by rw [xl (za (zW (Heap.lt_size q) hp))];exact n
 there:=λb u q _=>⟨u,k b u q⟩
 aT:=λb xs q=>by rw [xl (xg q hn)];exact q
 jq:=λb u xs q=>by rw [xl (xg q hn)];exact q
 i8:=λb ps q=>⟨#[],by rw [xl (xg q hn),q];simp⟩
theorem Un.write (mu:YE (H x))(he:e=x\/H e=some (.own x))(k:∀ b u,b≠e->h.get? b=some u->h'.get? b=some u)(VP:∃ u,h'.get? e=some u):Un fs ex H (upd H x o) h h':=by
 have hx:∀ b,H b=none->b≠x:=λb n z=>by subst z;rw [n] at mu;exact mu
 have hb:∀ b,H b=none->b≠e:=λb n z=>by
  subst z;rcases he with r | r
  ·exact hx b n r
  ·rw [n] at r;cases r
 have hm:∀ b u,H b=some u->¬ YE (some u)->b≠x:=λb u q nm z=>by subst z;rw [q] at mu;exact nm mu
 refine ⟨λb u q n _ _=>k b u (hb b n) q,λb u q n _ _=>⟨u.slots,k b u (hb b n) q⟩,λb u q n _=>by rw [xl (hx b n)];exact n,λb u q _=>?_,
  λb xs q=>by rw [xl (hm b _ q λz=>z)];exact q,λb u xs q=>by rw [xl (hm b _ q λz=>z)];exact q,λb ps q=>⟨#[],by rw [xl (hm b _ q λz=>z),q];simp⟩⟩
 by_cases U0:b=e
 ·subst U0;exact VP
 ·exact ⟨u,k b u U0 q⟩
end
def YN (h:Heap)(H:Hp):List Addr:=(List.range h.objs.size).filter λa=>(H a).isSome
def oZ (h:Heap)(H:Hp):Heap:=PySem.W.hideAll h (YN h H)
theorem NB (h:Heap)(H:Hp):(oZ h H).objs.size=h.objs.size:=PySem.W.hideAll_size _ _
theorem P5 {h:Heap}{H:Hp}{b:Addr}{o:Obj}(e:h.get? b=some o)(n:H b=none):(oZ h H).get? b=some o:=
 PySem.W.hideAll_get _ e λhm=>by
  have q:(H b).isSome=true:=(yh.mp hm).2;rw [n] at q;simp at q
theorem RV {h:Heap}{H:Hp}{b:Addr}{o:Obj}(e:(oZ h H).get? b=some o):h.get? b=some o/\H b=none:=by
 have e':h.get? b=some o:=PySem.W.of_hideAll (YN h H) e;refine ⟨e',?_⟩;cases q:H b with
 | none=>rfl
 | some x=>
  have hm:b∈YN h H:=yh.mpr ⟨zo.mpr (Heap.lt_size e'),by simp [q]⟩;have z:(oZ h H).get? b=none:=PySem.W.hideAll_none (YN h H) hm;rw [z] at e;cases e
def fZ (g h:Heap)(L:Addr):List (Addr×Obj):=(List.range h.objs.size).filterMap λa=>if a=L\/(g.get? a).isSome=true then none else (h.get? a).map λo=>(a,o)
theorem cW {g h:Heap}{L a:Addr}{o:Obj}(h1:a≠L)(h2:g.get? a=none)(h3:h.get? a=some o):(a,o)∈fZ g h L:=
 List.mem_filterMap.mpr ⟨a,zo.mpr (Heap.lt_size h3),by simp [h1,h2,h3]⟩
theorem m8 {g h:Heap}{L:Addr}{p:Addr×Obj}(hp:p∈fZ g h L):p.1≠L/\g.get? p.1=none/\h.get? p.1=some p.2:=by
 obtain ⟨b,_,e⟩:=List.mem_filterMap.mp hp;split at e
 ·cases e
 ·rename_i hn;cases q:h.get? b with
  | none=>rw [q] at e;simp at e
  | some u=>
   rw [q] at e;simp only [yi,Option.some.injEq] at e;subst e;refine ⟨λz=>hn (.inl z),?_,q⟩;show g.get? b=none;cases r:g.get? b with
   | none=>rfl
   | some v=>exact (hn (.inr (by simp [r]))).elim
def rest (g h:Heap)(L d:Addr):List (Addr×Obj):=(fZ g h L).filter λp=>decide (p.1≠d)
theorem LS {g h:Heap}{L d:Addr}:∀ p∈rest g h L d,p.1≠d:=λp hp=>of_decide_eq_true (yh.mp hp).2
theorem Px {g h:Heap}{L d a:Addr}{o:Obj}(h1:a≠L)(h2:g.get? a=none)(h3:h.get? a=some o)(h4:a≠d):(a,o)∈rest g h L d:=
 yh.mpr ⟨cW h1 h2 h3,decide_eq_true h4⟩
theorem ni {g h:Heap}{L:Addr}:News g L h (fZ g h L):=λp hp=>let ⟨a,b,c⟩:=m8 hp;⟨c,a,b⟩
theorem RX {g h:Heap}{L d:Addr}{o:Obj}(h1:d≠L)(h2:g.get? d=none)(h3:h.get? d=some o):News g L h ((d,o)::rest g h L d):=λp hp=>by
 rcases zN.mp hp with rfl | hp
 ·exact ⟨h3,h1,h2⟩
 ·exact ni p (yh.mp hp).1
theorem jl {g h h':Heap}{L d:Addr}{m:Str->Option Value}(k:∀ b o,g.get? b=some o->h.get? b=some o)(F:Fr g L h' m)(N:News g L h' (rest g h L d)) :
  ∀ b o,b≠L->b≠d->h.get? b=some o->h'.get? b=some o:=λb o h1 h2 e=>by
 cases q:g.get? b with
 | some u=>
  have:=k b u q;rw [e] at this;cases this;exact F.keep b _ q
 | none=>exact (N (b,o) (Px h1 q e h2)).1
structure Mod (K:PySem.W.Frag) (mg:Str->Option Value) (base:Heap):Prop where
 Xb:K.In base
 glob:base.Ns mainGlobals mg
 blt:∃ mb,base.Ns builtinsNs mb/\∀ x:Str,x ≠ "__name__" -> mb x=bootBuiltins x
 nolimit:base.NoLimit
structure Cx where
 prog:Program
 w:World
 K:PySem.W.Frag
 mg:Str->Option Value
 base:Heap
 A:Around
 N:List Str
 cI:Shared
 LJ:Hp
 env:Env
 outer:List Env
 stack:List Env
 ex:List Addr
 fn:Str->Bool
 calm:Bool
 pn:List (Addr×Obj)
 xe:Value->Shared->Prop
def sf (l:List Env):List Addr:=l.filterMap (·.frame)
abbrev Cx.fs (X:Cx):List Addr:=sf X.outer
def Zv (sc:Scope)(x:Str):Prop:=sc.names.lookup x=some .local\/sc.names.lookup x=some .cell\/sc.names.lookup x=some .free
def Loc (sc:Scope)(x:Str):Prop:=sc.names.lookup x=some .local\/sc.names.lookup x=some .cell
def Look (env:Env)(h:Heap)(m:Str->Option Value)(x:Str)(u:Value):Prop:=
 (env.kindOf x=some .local/\m x=some u)\/((env.kindOf x=some .cell\/env.kindOf x=some .free)/\∃ c,env.cells.lookup x=some c/\h.IsCell c (some u))
structure Cx.Ok (X:Cx):Prop where
 mod:Mod X.K X.mg X.base
 kind:X.env.scope.kind=.function
 glob:X.env.globals=mainGlobals
 blt:X.env.builtins=builtinsNs
 above:X.cI.heap.objs.size<=X.env.locals
 inj:∀ x y c,X.env.cells.lookup x=some c->X.env.cells.lookup y=some c->x=y
 has:∀ x,(X.env.kindOf x=some .cell\/X.env.kindOf x=some .free)->∃ c,X.env.cells.lookup x=some c
 Yo:∀ x c,X.fn x=true->X.env.cells.lookup x=some c->X.cI.heap.objs.size<=c
 hd:X.calm=true->X.A.handled=none
 frames:X.A.frames=some X.stack
 Rj:X.stack=X.outer\/(X.stack=X.env::X.outer/\X.env.frame=some X.env.locals)
 exf:∀ b∈X.ex,b≠X.env.locals/\∀ x c,X.env.cells.lookup x=some c->c≠b
 bs:∀ b o,X.base.get? b=some o->X.cI.heap.get? b=some o/\X.LJ b=none
 N7:X.base.objs.size<=X.cI.heap.objs.size
 Pn:∀ b o,X.base.get? b=some o->b ∉ X.ex
 Sv:∀ b∈X.ex,b ∉ X.fs
 iX:X.cI.heap.FunFrames X.base X.outer
 Sq:∀ b∈X.fs,X.LJ b=none
structure Inv (X:Cx) (ai:List (Addr×Obj)) (σ:List (Option V)) (H:Hp) (s:Shared):Prop where
 ok:X.Ok
 os:s.os=X.cI.os
 bare:AllBare s.gens
 base:Un X.fs X.ex X.LJ H X.cI.heap s.heap
 loc:∃ m,s.heap.Ns X.env.locals m/\∀ (i:Nat) (x:Str) (v:V),X.N[i]?=some x->σ[i]?=some (some v)->Zv X.env.scope x->∃ u,RelV v u/\Look X.env s.heap m x u
 cell:∀ x c,X.env.cells.lookup x=some c->∃ v,s.heap.IsCell c v
 free:H X.env.locals=none
 gX:∀ x c,X.env.cells.lookup x=some c->H c=none
 pin:∀ p∈X.pn++ai,s.heap.get? p.1=some p.2/\H p.1=none/\p.1≠X.env.locals/\p.1 ∉ X.fs/\∀ v,p.2.data≠.cell v
 aR:gZ X.prog X.w H s.heap
 len:σ.length=X.N.length
section
variable {X:Cx}{ai:List (Addr×Obj)}{σ:List (Option V)}{H H':Hp}{s:Shared}{h':Heap}
theorem Cx.Ok.abj (ok:X.Ok){b:Addr}{o:Obj}(e:X.base.get? b=some o):b ∉ X.fs:=λhb=>by
 have:=(ok.iX.mem hb).1;rw [e] at this;cases this
theorem Inv.bs (I:Inv X ai σ H s):∀ b o,X.base.get? b=some o->s.heap.get? b=some o/\H b=none:=λb o e=>
 ⟨I.base.keep b o (I.ok.bs b o e).1 (I.ok.bs b o e).2 (I.ok.abj e) (I.ok.Pn b o e),I.base.free b o (I.ok.bs b o e).1 (I.ok.bs b o e).2 (I.ok.Pn b o e)⟩
theorem Inv.bk (I:Inv X ai σ H s):∀ b o,X.base.get? b=some o->s.heap.get? b=some o:=λb o e=>(I.bs b o e).1
theorem Inv.mod (I:Inv X ai σ H s):Mod X.K X.mg X.base:=I.ok.mod
theorem Inv.kZ (I:Inv X ai σ H s):X.K.In s.heap:=I.ok.mod.Xb.keeps I.bk
theorem Inv.nolimit (I:Inv X ai σ H s):s.heap.NoLimit:=I.ok.mod.nolimit.keeps I.bk
theorem Inv.fr (I:Inv X ai σ H s):∃ m,Fr X.base X.env.locals s.heap m:=
 let ⟨m,hn,_⟩:=I.loc
 ⟨m,hn,I.bk,zi I.ok.N7 I.ok.above⟩
theorem Inv.lt (I:Inv X ai σ H s):X.env.locals < s.heap.objs.size:=let ⟨_,hn,_⟩:=I.loc;hn.lt
theorem Inv.sz (I:Inv X ai σ H s):X.cI.heap.objs.size<=s.heap.objs.size:=zi I.ok.above (yl I.lt)
theorem Inv.WQ (I:Inv X ai σ H s){a:Addr}(h:s.heap.objs.size<=a):a ∉ X.fs:=λhb=>by
 obtain ⟨_,o,ho,_⟩:=I.ok.iX.mem hb;exact absurd (zW (Heap.lt_size ho) (zi I.sz h)) (z6 _)
theorem Inv.Vo (I:Inv X ai σ H s):∀ x c,X.env.cells.lookup x=some c->c≠X.env.locals:=λx c e z=>by
 obtain ⟨v,o,ho,hd⟩:=I.cell x c e;obtain ⟨m,⟨o',es,ep,rG,NC,_⟩,_⟩:=I.loc;rw [z,rG] at ho;cases ho;rw [NC] at hd;cases hd
theorem Inv.iX (I:Inv X ai σ H s):s.heap.FunFrames X.base X.outer:=by
 have all:∀ (l:List Env),(∀ b∈sf l,b∈X.fs)->X.cI.heap.FunFrames X.base l->s.heap.FunFrames X.base l:=by
  intro l;induction l with
  | nil=>intro _ _;trivial
  | cons env r ih=>
   intro hs hl;obtain ⟨hk,⟨L,o,hf,hn,ho,hd⟩,hr⟩:=hl;have hL:L∈X.fs:=hs L (by unfold sf;rw [ye,hf];exact xB);obtain ⟨sl,e⟩:=I.base.slot L o ho (I.ok.Sq L hL) hL λz=>I.ok.Sv L z hL;exact ⟨hk,⟨L,_,hf,hn,e,hd⟩,ih (λb hb=>hs b (by unfold sf;rw [ye,hf];exact zp _ hb)) hr⟩
 exact all X.outer (λ_ hb=>hb) I.ok.iX
theorem Inv.stack (I:Inv X ai σ H s):s.heap.FunFrames X.base X.stack:=by
 rcases I.ok.Rj with e | ⟨e,hf⟩
 ·rw [e];exact I.iX
 ·rw [e];obtain ⟨m,hn,_⟩:=I.loc;refine .cons (by rw [I.ok.kind];decide) hf hn ?_ I.iX;exact Heap.get?_none_of_le (zi I.ok.N7 I.ok.above)
theorem Inv.jS (I:Inv X ai σ H s):∀ b∈sf X.stack,b∈X.env.locals::X.fs:=λb hb=>by
 rcases I.ok.Rj with e | ⟨e,hf⟩
 ·rw [e] at hb;exact zp _ hb
 ·rw [e] at hb;unfold sf at hb;rw [ye,hf] at hb;exact hb
theorem Inv.qt (I:Inv X ai σ H s):∀ b∈sf X.stack,H b=none:=λb hb=>by
 rcases zN.mp (I.jS b hb) with e | hb
 ·rw [e];exact I.free
 ·obtain ⟨_,o,ho,_⟩:=I.ok.iX.mem hb;exact I.base.free b o ho (I.ok.Sq b hb) λz=>I.ok.Sv b z hb
theorem Inv.step {g':Array GenState}{t':Nat}{d':Drawn}{ch:List Addr}(I:Inv X ai σ H s)
  (QO:∀ b∈ch,(b∈X.ex\/X.cI.heap.objs.size<=b)/\b≠X.env.locals/\(∀ x c,X.env.cells.lookup x=some c->c≠b)/\∀ p∈X.pn++ai,p.1≠b)
  (keep:∀ b o,b≠X.env.locals->b ∉ X.fs->b ∉ ch->s.heap.get? b=some o->H b=none->h'.get? b=some o)
  (slot:∀ b o,b≠X.env.locals->b∈X.fs->b ∉ ch->s.heap.get? b=some o->H b=none->∃ sl,h'.get? b=some { o with slots:=sl }) (free:∀ b o,b ∉ ch->s.heap.get? b=some o->H b=none->H' b=none)
  (there:∀ b o,b ∉ ch->s.heap.get? b=some o->∃ o',h'.get? b=some o')
  (aT:∀ b xs,H b=some (.tup xs)->H' b=some (.tup xs)) (jq:∀ b o u,H b=some (.o4 o u)->H' b=some (.o4 o u)) (i8:∀ b ps,H b=some (.jQ ps)->∃ more,H' b=some (.jQ (ps++more)))
  (ns:∀ m,s.heap.Ns X.env.locals m->h'.Ns X.env.locals m) (aR:gZ X.prog X.w H' h') (hg:AllBare g') :
  Inv X ai σ H' { s with heap:=h',gens:=g',drawn:=d',toks:=t' }:=by
 have WR:∀ b o,X.cI.heap.get? b=some o->b≠X.env.locals:=λb o e=>za (zW (Heap.lt_size e) I.ok.above);have Pr:∀ b o,X.cI.heap.get? b=some o->b ∉ X.ex->b ∉ ch:=λb o e hx hb=>by
  rcases (QO b hb).1 with z | z
  ·exact hx z
  ·exact absurd (zW (Heap.lt_size e) z) (z6 _)
 have cellK:∀ x c,X.env.cells.lookup x=some c->∀ v,s.heap.IsCell c v->h'.IsCell c v:=λx c e v ⟨o,ho,hd⟩=>by
  have qY:c ∉ ch:=λz=>(QO c z).2.2.1 x c e rfl;by_cases hc:c∈X.fs
  ·obtain ⟨sl,q⟩:=slot c o (I.Vo x c e) hc qY ho (I.gX x c e);exact ⟨_,q,hd⟩
  ·exact ⟨o,keep c o (I.Vo x c e) hc qY ho (I.gX x c e),hd⟩
 refine ⟨I.ok,I.os,hg,⟨λb o e n hb hx=>?_,λb o e n hb hx=>?_,λb o e n hx=>?_,λb o e hx=>?_,λb xs e=>aT b xs (I.base.aT b xs e),λb o xs e=>jq b o xs (I.base.jq b o xs e),λb ps e=>?_⟩,?_,λx c e=>?_,?_,λx c e=>?_,λp hp=>?_,aR,I.len⟩
 ·exact keep b o (WR b o e) hb (Pr b o e hx) (I.base.keep b o e n hb hx) (I.base.free b o e n hx)
 ·obtain ⟨sl,e1⟩:=I.base.slot b o e n hb hx;obtain ⟨sl',e2⟩:=slot b _ (WR b o e) hb (Pr b o e hx) e1 (I.base.free b o e n hx);exact ⟨sl',e2⟩
 ·obtain ⟨o',e1⟩:=I.base.there b o e hx;exact free b o' (Pr b o e hx) e1 (I.base.free b o e n hx)
 ·obtain ⟨o',e1⟩:=I.base.there b o e hx;exact there b o' (Pr b o e hx) e1
 ·obtain ⟨m1,e1⟩:=I.base.i8 b ps e;obtain ⟨m2,e2⟩:=i8 b _ e1;exact ⟨m1++m2,by rw [e2,Array.append_assoc]⟩
 ·obtain ⟨m,hn,hl⟩:=I.loc;refine ⟨m,ns m hn,λi x v e1 e2 e3=>?_⟩;obtain ⟨u,r,l⟩:=hl i x v e1 e2 e3;refine ⟨u,r,?_⟩;rcases l with l | ⟨k,c,e,z⟩
  ·exact .inl l
  ·exact .inr ⟨k,c,e,cellK x c e _ z⟩
 ·obtain ⟨v,z⟩:=I.cell x c e;exact ⟨v,cellK x c e v z⟩
 ·obtain ⟨m,⟨o,_,_,ho,_⟩,_⟩:=I.loc;exact free _ o (λz=>(QO _ z).2.1 rfl) ho I.free
 ·obtain ⟨v,o,ho,hd⟩:=I.cell x c e;exact free c o (λz=>(QO c z).2.2.1 x c e rfl) ho (I.gX x c e)
 ·obtain ⟨e,n,ne,nf,d⟩:=I.pin p hp;have qY:p.1 ∉ ch:=λz=>(QO p.1 z).2.2.2 p hp rfl;exact ⟨keep p.1 p.2 ne nf qY e n,free p.1 p.2 qY e n,ne,nf,d⟩
theorem Inv.un {t':Nat}(I:Inv X ai σ H s)(u:Un X.fs [] H H' s.heap h')(aR:gZ X.prog X.w H' h'):Inv X ai σ H' { s with heap:=h',toks:=t' }:=by
 obtain ⟨m,⟨o,es,ep,ho,r⟩,_⟩:=id I.loc;obtain ⟨sl,hL⟩:=u.any ho I.free (by simp);exact I.step (g':=s.gens) (d':=s.drawn) (ch:=[]) (λ_ z=>nomatch z) (λb o _ hb _ e n=>u.keep b o e n hb (by simp)) (λb o _ hb _ e n=>u.slot b o e n hb (by simp)) (λb o _ e n=>u.free b o e n (by simp)) (λb o _ e=>u.there b o e (by simp)) u.aT u.jq u.i8 (λm' hm=>by
  obtain ⟨o',Vg,ep',rG,r'⟩:=hm;rw [ho] at rG;cases rG;exact ⟨_,Vg,ep',hL,r'⟩) aR I.bare
theorem Inv.call {g':Array GenState}{t':Nat}{d':Drawn}{ch:List Addr}(I:Inv X ai σ H s)(u:Un (sf X.stack) ch H H' s.heap h')(aR:gZ X.prog X.w H' h')(hg:AllBare g')
  (QO:∀ b∈ch,(b∈X.ex\/X.cI.heap.objs.size<=b)/\b≠X.env.locals/\(∀ x c,X.env.cells.lookup x=some c->c≠b)/\∀ p∈X.pn++ai,p.1≠b) :
  Inv X ai σ H' { s with heap:=h',gens:=g',drawn:=d',toks:=t' }:=by
 obtain ⟨m,⟨o,es,ep,ho,r⟩,_⟩:=id I.loc;obtain ⟨sl,hL⟩:=u.any ho I.free λz=>(QO _ z).2.1 rfl;exact I.step (ch:=ch) QO (λb o hL hb hc e n=>u.keep b o e n (λz=>(zN.mp (I.jS b z)).elim hL hb) hc) (λb o _ _ hc e n=>u.any e n hc) (λb o hc e n=>u.free b o e n hc) (λb o hc e=>u.there b o e hc) u.aT u.jq u.i8 (λm' hm=>by
  obtain ⟨o',Vg,ep',rG,r'⟩:=hm;rw [ho] at rG;cases rG;exact ⟨_,Vg,ep',hL,r'⟩) aR hg
theorem Inv.turned {t':Nat}{it:Addr}(I:Inv X ai σ H s)(k:∀ b o,b≠it->s.heap.get? b=some o->h'.get? b=some o)(hn:H it=none)(hL:it≠X.env.locals)
  (h1:it∈X.ex\/X.cI.heap.objs.size<=it) (h2:∀ x c,X.env.cells.lookup x=some c->c≠it) (h3:∀ p∈X.pn++ai,p.1≠it):Inv X ai σ H { s with heap:=h',toks:=t' }:=by
 have nit:∀ b u,H b=some u->b≠it:=λb u e z=>by rw [z,hn] at e;cases e
 refine I.step (g':=s.gens) (d':=s.drawn) (ch:=[it]) (λb hb=>?_) (λb o _ _ hc e _=>k b o (λz=>hc (by simp [z])) e) (λb o _ _ hc e _=>⟨o.slots,k b o (λz=>hc (by simp [z])) e⟩) (λ_ _ _ _ n=>n)
  (λb o hc e=>⟨o,k b o (λz=>hc (by simp [z])) e⟩) (λ_ _ e=>e) (λ_ _ _ e=>e) (λb ps e=>⟨#[],by rw [e];simp⟩) (λm hm=>?_) (λb u e=>?_) I.bare
 ·have e:b=it:=by simpa using hb
  subst e;exact ⟨h1,hL,h2,h3⟩
 ·obtain ⟨o,es,ep,ho,r⟩:=hm;exact ⟨o,es,ep,k _ o (Ne.symm hL) ho,r⟩
 ·refine (I.aR b u e).dN (λc v hc q=>k c v ?_ q) (λ_ q=>q) λ_ _ q=>q;rcases hc with z | z
  ·rw [z];exact nit b u e
  ·exact nit c _ z
theorem Inv.tok (I:Inv X ai σ H s)(t:Nat):Inv X ai σ H { s with toks:=t }:=I.un (h':=s.heap) (t':=t) Un.refl I.aR
theorem Inv.kept {t':Nat}(I:Inv X ai σ H s)(k:∀ b u,s.heap.get? b=some u->h'.get? b=some u):Inv X ai σ H { s with heap:=h',toks:=t' }:=I.un (Un.kept k) (I.aR.kept k)
theorem Inv.laid {a:Addr}{o:HO}{t':Nat}(I:Inv X ai σ H s)(k:∀ b u,s.heap.get? b=some u->h'.get? b=some u)(hp:s.heap.objs.size<=a)(new:bu X.prog X.w (upd H a o) h' a o) :
  Inv X ai σ (upd H a o) { s with heap:=h',toks:=t' }:=I.un (Un.laid k hp (I.aR.fresh hp)) (I.aR.laid k hp new)
theorem Inv.write {x e:Addr}{o:HO}{t':Nat}(I:Inv X ai σ H s)(mu:YE (H x))(he:e=x\/H e=some (.own x))(k:∀ b u,b≠e->s.heap.get? b=some u->h'.get? b=some u)(VP:∃ u,h'.get? e=some u)
  (new:bu X.prog X.w (upd H x o) h' x o):Inv X ai σ (upd H x o) { s with heap:=h',toks:=t' }:=I.un (Un.write mu he k VP) (I.aR.write mu he k VP new)
theorem Inv.cS {gf:List (Addr×Obj)}(I:Inv X ai σ H s)(h:∀ p∈gf,s.heap.get? p.1=some p.2/\H p.1=none/\p.1≠X.env.locals/\p.1 ∉ X.fs/\∀ v,p.2.data≠.cell v):Inv X gf σ H s:=
 ⟨I.ok,I.os,I.bare,I.base,I.loc,I.cell,I.free,I.gX,λp hp=>(zT.mp hp).elim (λz=>I.pin p (zY _ z)) (h p),I.aR,I.len⟩
theorem tK {N:List Str}(hN:N.Nodup){i j:Nat}{x:Str}(a:N[i]?=some x)(b:N[j]?=some x):i=j:=by obtain ⟨h1,e1⟩:=zB.mp a;obtain ⟨h2,e2⟩:=zB.mp b;exact (List.getElem_inj hN).mp (e1.trans e2.symm)
def PD (sc:Scope)(x:Str):Bool:=match sc.names.lookup x with | some .local=>true | some .cell=>true | _=>false
theorem rj {sc:Scope}{x:Str}(h:PD sc x=true):Loc sc x:=by
 unfold PD at h;unfold Loc
 revert h
 cases sc.names.lookup x with
 | none=>intro h;cases h
 | some k=>cases k <;> intro h <;> first | exact .inl rfl | exact .inr rfl | cases h
def nR (X:Cx)(x:Str):Bool:=X.fn x || (match X.env.scope.names.lookup x with | some .local=>true | _=>false)
theorem Qe {X:Cx}{x:Str}(h:nR X x=true):X.fn x=true\/X.env.scope.names.lookup x=some .local:=by
 unfold nR at h;cases e:X.fn x with
 | true=>exact .inl rfl
 | false=>
  rw [e,Bool.false_or] at h
  revert h
  cases X.env.scope.names.lookup x with
  | none=>intro h;cases h
  | some k=>cases k <;> intro h <;> first | exact .inr rfl | cases h
def Tj (sc:Scope)(x:Str):Bool:=match sc.names.lookup x with | some .local=>true | some .cell=>true | some .free=>true | _=>false
theorem Q5 {sc:Scope}{x:Str}(h:Tj sc x=true):Zv sc x:=by
 unfold Tj at h;unfold Zv
 revert h
 cases sc.names.lookup x with
 | none=>intro h;cases h
 | some k=>cases k <;> intro h <;> first | exact .inl rfl | exact .inr (.inl rfl) | exact .inr (.inr rfl) | cases h
theorem MN {M:Model}{A:Around}{E:Value->Shared->Prop}{i:Nat}{x:Str}{v:V}{u:Value}{Q:Unit->Shared->Prop}(I:Inv X ai σ H s)(hN:X.N.Nodup)(hi:X.N[i]?=some x)(hx:Loc X.env.scope x)(r:RelV v u)
  (h:∀ s',Inv X ai (σ.set i (some v)) H s'->(∃ a,Heap.SameBut a s.heap s'.heap/\(a=X.env.locals\/X.env.cells.lookup x=some a))->Q () s') (hf:nR X x=true:=by rfl):wpAny M A (storeName X.env x u) Q E s:=by
 have hf:=Qe hf;obtain ⟨m,hn,hl⟩:=id I.loc;have acm:(X.env.scope.kind == .class || (X.env.scope.kind == .module && X.env.locals != X.env.globals))=false:=by rw [I.ok.kind];rfl
 have XJ:i < σ.length:=by rw [I.len];exact (zB.mp hi).1
 have Vo:=I.Vo;have tracked:∀ {a:Addr}{h':Heap},(∃ o,s.heap.get? a=some o/\H a=none)->Heap.SameBut a s.heap h'->gZ X.prog X.w H h':=λ{a h'} ha hs b ob e=>by
  obtain ⟨_,_,S6⟩:=ha;refine (I.aR b ob e).dN (λc w' hc q=>(hs.2 c ?_).trans q) (λ_ q=>q) λ_ _ q=>q;rintro rfl;rcases hc with rfl | hc
  ·rw [S6] at e;cases e
  ·rw [S6] at hc;cases hc
 rcases hx with hk | hk
 ·refine wpAny_storeName_local hk hn (λh' hn' hs=>?_) acm;obtain ⟨oL,_,_,hoL,_⟩:=id hn;refine h _ ⟨I.ok,I.os,I.bare,⟨λb o e n hb hx=>?_,λb o e n hb hx=>?_,I.base.free,λb o e hx=>?_,I.base.aT,I.base.jq,I.base.i8⟩,⟨_,hn',λj y v' e1 e2 e3=>?_⟩,λy c e=>?_,I.free,I.gX,λp hp=>?_,tracked ⟨oL,hoL,I.free⟩ hs,by simpa using I.len⟩ ⟨_,hs,.inl rfl⟩
  ·exact (hs.2 b (za (zW (Heap.lt_size e) I.ok.above))).trans (I.base.keep b o e n hb hx)
  ·obtain ⟨sl,e1⟩:=I.base.slot b o e n hb hx;exact ⟨sl,(hs.2 b (za (zW (Heap.lt_size e) I.ok.above))).trans e1⟩
  ·obtain ⟨o',e1⟩:=I.base.there b o e hx;exact ⟨o',(hs.2 b (za (zW (Heap.lt_size e) I.ok.above))).trans e1⟩
  ·by_cases hj:j=i
   ·subst hj;rw [hi] at e1;cases e1;rw [List.getElem?_set_self XJ] at e2;cases e2;exact ⟨u,r,.inl ⟨hk,by simp⟩⟩
   ·rw [List.getElem?_set_ne (Ne.symm hj)] at e2;obtain ⟨u',r',q⟩:=hl j y v' e1 e2 e3;refine ⟨u',r',?_⟩;rcases q with ⟨k,e⟩ | ⟨k,c,e,z⟩
    ·refine .inl ⟨k,?_⟩;have:y≠x:=λe=>hj (tK hN e1 (e ▸ hi));simp [this,e]
    ·exact .inr ⟨k,c,e,z.sameBut hs (Vo y c e)⟩
  ·obtain ⟨w',z⟩:=I.cell y c e;exact ⟨w',z.sameBut hs (Vo y c e)⟩
  ·obtain ⟨e,n,ne,nf,d⟩:=I.pin p hp;exact ⟨(hs.2 p.1 ne).trans e,n,ne,nf,d⟩
 ·have hfn:X.fn x=true:=by
   rcases hf with z | z
   ·exact z
   ·rw [z] at hk;cases hk
  obtain ⟨c,hc⟩:=I.ok.has x (.inl hk);obtain ⟨w',z⟩:=I.cell x c hc;refine wpAny_storeName_cell I.ok.kind hk hc z (λh' VR hs=>?_);obtain ⟨oc,UR,abV⟩:=id z;refine h { s with heap:=h' } ⟨I.ok,I.os,I.bare,⟨λb o e n hb hx=>?_,λb o e n hb hx=>?_,I.base.free,λb o e hx=>?_,I.base.aT,I.base.jq,I.base.i8⟩,⟨m,hn.sameBut hs (Ne.symm (Vo x c hc)),λj y v' e1 e2 e3=>?_⟩,λy c' e=>?_,I.free,I.gX,λp hp=>?_,tracked ⟨oc,UR,I.gX x c hc⟩ hs,by simpa using I.len⟩ ⟨c,hs,.inr hc⟩
  ·exact (hs.2 b (za (zW (Heap.lt_size e) (I.ok.Yo x c hfn hc)))).trans (I.base.keep b o e n hb hx)
  ·obtain ⟨sl,e1⟩:=I.base.slot b o e n hb hx;exact ⟨sl,(hs.2 b (za (zW (Heap.lt_size e) (I.ok.Yo x c hfn hc)))).trans e1⟩
  ·obtain ⟨o',e1⟩:=I.base.there b o e hx;exact ⟨o',(hs.2 b (za (zW (Heap.lt_size e) (I.ok.Yo x c hfn hc)))).trans e1⟩
  ·by_cases hj:j=i
   ·subst hj;rw [hi] at e1;cases e1;rw [List.getElem?_set_self XJ] at e2;cases e2;exact ⟨u,r,.inr ⟨.inl hk,c,hc,VR⟩⟩
   ·rw [List.getElem?_set_ne (Ne.symm hj)] at e2;obtain ⟨u',r',q⟩:=hl j y v' e1 e2 e3;refine ⟨u',r',?_⟩;rcases q with q | ⟨k,c',e,z'⟩
    ·exact .inl q
    ·refine .inr ⟨k,c',e,z'.sameBut hs ?_⟩;rintro rfl;exact hj (tK hN e1 (I.ok.inj _ _ _ e hc ▸ hi))
  ·by_cases hcc:c'=c
   ·subst hcc;exact ⟨_,VR⟩
   ·obtain ⟨w2,z2⟩:=I.cell y c' e;exact ⟨w2,z2.sameBut hs hcc⟩
  ·obtain ⟨e,n,ne,nf,d⟩:=I.pin p hp;refine ⟨(hs.2 p.1 ?_).trans e,n,ne,nf,d⟩;intro q;rw [q,UR] at e;have q':oc=p.2:=Option.some.inj e;exact d w' (by rw [<-q'];exact abV)
theorem mQ {M:Model}{A:Around}{E:Value->Shared->Prop}{i:Nat}{x:Str}{v:V}{u:Value}{Q:Unit->Shared->Prop}(I:Inv X ai σ H s)(hN:X.N.Nodup)(hi:X.N[i]?=some x)(hx:Loc X.env.scope x)(r:RelV v u)
  (h:∀ s',Inv X ai (σ.set i (some v)) H s'->Q () s') (hf:nR X x=true:=by rfl):wpAny M A (storeName X.env x u) Q E s:=
 MN I hN hi hx r (λs' I' _=>h s' I') hf
theorem Inv.Yn {s':Shared}{ch:List Addr}(I:Inv X ai σ H s)(ho:s'.os=s.os)(u:Un (sf X.stack) ch H H' s.heap s'.heap)(aR:gZ X.prog X.w H' s'.heap)(hg:AllBare s'.gens)
  (QO:∀ b∈ch,(b∈X.ex\/X.cI.heap.objs.size<=b)/\b≠X.env.locals/\(∀ x c,X.env.cells.lookup x=some c->c≠b)/\∀ p∈X.pn++ai,p.1≠b):Inv X ai σ H' s':=by
 obtain ⟨h',g',d',t',o'⟩:=s';have e:o'=s.os:=ho;subst e;exact I.call (g':=g') (t':=t') (d':=d') u aR hg QO
end
abbrev XK:=Value->Option Addr->Hp->Prop
abbrev St:=List (Option V)
abbrev VK:=V->Hp->Prop
abbrev TE:=St->Hp->VK->Prop
abbrev TT:=St->Hp->(Bool->Hp->Prop)->Prop
abbrev TA:=St->Hp->(List V->Hp->Prop)->Prop
structure Ends where
 nx:St->Hp->Prop
 rt:VK
 bk:St->Hp->Prop:=λ_ _=>False
 ct:St->Hp->Prop:=λ_ _=>False
abbrev Ends.go (D:Ends)(n:St->Hp->Prop):Ends:={ D with nx:=n }
abbrev Ends.lp (D:Ends)(n:St->Hp->Prop):Ends:={ D with nx:=n,ct:=n,bk:=D.nx }
abbrev TS:=Ends->St->Hp->Prop
def EP (X:Cx)(ai:List (Addr×Obj))(σ:St)(Q:VK)(u:Value)(s':Shared):Prop:=∃ v H',Inv X ai σ H' s'/\RelV v u/\Q v H'
def TP (X:Cx)(ai:List (Addr×Obj))(σ:St)(Q:Bool->Hp->Prop)(b:Bool)(s':Shared):Prop:=∃ H',Inv X ai σ H' s'/\Q b H'
def AP (X:Cx)(ai:List (Addr×Obj))(σ:St)(Q:List V->Hp->Prop)(us:List Value)(s':Shared):Prop:=∃ vs H',Inv X ai σ H' s'/\Vals vs us/\Q vs H'
def SP (X:Cx)(ai:List (Addr×Obj))(D:Ends)(f:Flow)(s':Shared):Prop:=
 match f with
 | .next=>∃ bU H',Inv X ai bU H' s'/\D.nx bU H'
 | .brk=>∃ bU H',Inv X ai bU H' s'/\D.bk bU H'
 | .cont=>∃ bU H',Inv X ai bU H' s'/\D.ct bU H'
 | .ret u=>∃ v bU H',Inv X ai bU H' s'/\RelV v u/\D.rt v H'
def PE (X:Cx)(e:Expr)(t:TE):Prop:=
 ∀ (ai:List (Addr×Obj)) (s:Shared) (σ:St) (H:Hp) (Q:VK),Inv X ai σ H s->t σ H Q->wpAny (model X.prog X.w) X.A (eval e X.env) (EP X ai σ Q) X.xe s
def PT (X:Cx)(e:Expr)(t:TT):Prop:=
 ∀ (ai:List (Addr×Obj)) (s:Shared) (σ:St) (H:Hp) (Q:Bool->Hp->Prop),Inv X ai σ H s->t σ H Q->wpAny (model X.prog X.w) X.A (isTrue e X.env (eval e X.env)) (TP X ai σ Q) X.xe s
def PW (X:Cx)(e:Expr)(t:TT):Prop:=
 ∀ (whole:Sem Value) (ai:List (Addr×Obj)) (s:Shared) (σ:St) (H:Hp) (Q:Bool->Hp->Prop),Inv X ai σ H s->t σ H Q->wpAny (model X.prog X.w) X.A (isTrue e X.env whole) (TP X ai σ Q) X.xe s
theorem PW.pt {X:Cx}{e:Expr}{t:TT}(h:PW X e t):PT X e t:=h _
def PA (X:Cx)(es:List Expr)(t:TA):Prop:=
 ∀ (pos:Pos) (ai:List (Addr×Obj)) (s:Shared) (σ:St) (H:Hp) (Q:List V->Hp->Prop),Inv X ai σ H s->t σ H Q->wpAny (model X.prog X.w) X.A (spliced (backTo pos (starEach es X.env))) (AP X ai σ Q) X.xe s
def PS (X:Cx)(st:Stmt)(t:TS):Prop:=
 ∀ (ai:List (Addr×Obj)) (s:Shared) (σ:St) (H:Hp) (D:Ends),Inv X ai σ H s->t D σ H->wpAny (model X.prog X.w) X.A (exec st X.env) (SP X ai D) X.xe s
def qk (X:Cx)(st:List Stmt)(t:TS):Prop:=
 ∀ (ai:List (Addr×Obj)) (s:Shared) (σ:St) (H:Hp) (D:Ends),Inv X ai σ H s->t D σ H->wpAny (model X.prog X.w) X.A (execs st X.env) (SP X ai D) X.xe s
theorem aZ {α:Type}{t:Sem α}{Q Q':α->Shared->Prop}{M:Model}{A:Around}{E:Value->Shared->Prop}{s:Shared}(h:wpAny M A t Q E s)(hQ:∀ a s,Q a s->Q' a s):wpAny M A t Q' E s:=wpAny_mono h hQ λ_ _ x=>x
section
variable {X:Cx}
def uO (i:Nat):TE:=fun σ H Q=>∃ v,σ[i]?=some (some v)/\Q v H
def tC (v:V):TE:=λ_ H Q=>Q v H
theorem Ud {i:Nat}{x:Str}{pos:Pos}(hN:X.N[i]?=some x)(hv:Zv X.env.scope x)(hd:(x == ("__debug__" : Str))=false:=by decide)(tZ:(x == ("__classdict__" : Str))=false:=by decide):PE X (.Name x pos) (uO i):=by
 intro ai s σ H Q I h;obtain ⟨v,e,h⟩:=h;obtain ⟨m,hn,hl⟩:=I.loc;obtain ⟨u,r,l⟩:=hl i x v hN e hv;have fin:EP X ai σ Q u s:=⟨v,H,I,r,h⟩;rcases l with ⟨hk,hm⟩ | ⟨hk,c,hc,S7⟩
 ·exact wpAny_Name (wpAny_loadName_local I.ok.kind hk hn hm fin) hd
 ·rcases hk with hk | hk
  ·exact wpAny_Name (wpAny_loadName_cell I.ok.kind hk hc S7 fin) hd
  ·exact wpAny_Name (wpAny_loadName_free I.ok.kind hk hc S7 fin tZ) hd
theorem xh {i j pos}:PE X (.Constant (.int i) j pos) (tC (.int i)):=λ_ _ _ H _ I h=>wpAny_Constant_int ⟨.int i,H,I.tok _,⟨_,rfl⟩,h⟩
theorem iE {b j pos}:PE X (.Constant (.bool b) j pos) (tC (.bl b)):=λ_ _ _ H _ I h=>Constant_bool ⟨.bl b,H,I,rfl,h⟩
theorem fu {j pos}:PE X (.Constant .none j pos) (tC .bV):=λ_ _ _ H _ I h=>Constant_none ⟨.bV,H,I,rfl,h⟩
theorem gM {x j pos}:PE X (.Constant (.str x) j pos) (tC (.str x)):=λ_ _ _ H _ I h=>Calls.Constant_str ⟨.str x,H,I.tok _,⟨_,rfl⟩,h⟩
def Gl (X:Cx)(x:Str):Prop:=X.env.kindOf x=some .globalImplicit
theorem rz {E:Value->Shared->Prop}{ai:List (Addr×Obj)}{s:Shared}{σ:St}{H:Hp}{x:Str}{u:Value}{pos:Pos}{Q:Value->Shared->Prop}(I:Inv X ai σ H s)(hg:Gl X x)(hm:X.mg x=some u)(h:Q u s)
  (hd:(x == ("__debug__" : Str))=false:=by decide):wpAny (model X.prog X.w) X.A (eval (.Name x pos) X.env) Q E s:=
 Calls.Name_function_global I.ok.kind hg (Calls.loadGlobal_global (by rw [I.ok.glob];exact I.mod.glob.keeps I.bk) hm h) hd
theorem fE {E:Value->Shared->Prop}{ai:List (Addr×Obj)}{s:Shared}{σ:St}{H:Hp}{x:Str}{u:Value}{pos:Pos}{Q:Value->Shared->Prop}(I:Inv X ai σ H s)(hg:Gl X x)(hm:X.mg x=none)(hv:bootBuiltins x=some u)(h:Q u s)
  (hn:x ≠ "__name__" := by decide) (hd:(x == ("__debug__" : Str))=false:=by decide):wpAny (model X.prog X.w) X.A (eval (.Name x pos) X.env) Q E s:=by
 obtain ⟨mb,h1,h2⟩:=I.mod.blt;exact Calls.Name_function_global I.ok.kind hg (Calls.loadGlobal_builtin (by rw [I.ok.glob];exact I.mod.glob.keeps I.bk) hm (by rw [I.ok.blt];exact h1.keeps I.bk) ((h2 x hn).trans hv) h) hd
theorem qW {x:Str}{v:V}{u:Value}{pos:Pos}(hg:Gl X x)(hm:X.mg x=some u)(r:RelV v u)(hd:(x == ("__debug__" : Str))=false:=by decide):PE X (.Name x pos) (tC v):=
 λ_ _ _ H _ I h=>rz I hg hm ⟨v,H,I,r,h⟩ hd
theorem mh {x:Str}{v:V}{u:Value}{pos:Pos}(hg:Gl X x)(hm:X.mg x=none)(hv:bootBuiltins x=some u)(r:RelV v u)(hn:x ≠ "__name__" := by decide)(hd:(x == ("__debug__" : Str))=false:=by decide):PE X (.Name x pos) (tC v):=
 λ_ _ _ H _ I h=>fE I hg hm hv ⟨v,H,I,r,h⟩ hn hd
variable {a b:Expr}{ta tb:TE}{pos:Pos}
def PC (X:Cx)(op:CmpOp)(a b:Expr)(t:TE):Prop:=
 ∀ (ai:List (Addr×Obj)) (s:Shared) (σ:St) (H:Hp) (Q:VK),Inv X ai σ H s->t σ H Q ->
  wpAny (model X.prog X.w) X.A (eval a X.env) (λv aS=>wpAny (model X.prog X.w) X.A (eval b X.env) (λu mP=>wpAny (model X.prog X.w) X.A (compareOp op v u) (EP X ai σ Q) X.xe mP) X.xe aS) X.xe s
def aaP (ta:TE):TE:=fun σ H Q=>ta σ H λx H1=>Q (.bl (decide (x=.bV))) H1
def Wb (ta:TE):TE:=fun σ H Q=>ta σ H λx H1=>Q (.bl (!decide (x=.bV))) H1
theorem RelV.tH {x:V}{v:Value}(r:RelV x v):(v == Value.none)=decide (x=.bV):=by
 cases x with
 | bV=>cases r;rfl
 | bl _=>cases r;rfl
 | int _=>obtain ⟨t,rfl⟩:=r;rfl
 | str _=>obtain ⟨t,rfl⟩:=r;rfl
 | vS _=>obtain ⟨t,rfl⟩:=r;rfl
 | N6 _=>obtain ⟨t,rfl⟩:=r;rfl
 | ref _=>cases r;rfl
 | ty _=>cases r;rfl
theorem iT {j pos'}(ha:PE X a ta):PC X .Is a (.Constant .none j pos') (aaP ta):=by intro ai s σ H Q I h;refine aZ (ha ai s σ H _ I h) λv s1 aaE=>?_;obtain ⟨x,H1,I1,r1,q1⟩:=aaE;exact Constant_none (is_none_gen ⟨.bl _,H1,I1,by rw [r1.tH];rfl,q1⟩)
theorem mj {j pos'}(ha:PE X a ta):PC X .IsNot a (.Constant .none j pos') (Wb ta):=by intro ai s σ H Q I h;refine aZ (ha ai s σ H _ I h) λv s1 aaD=>?_;obtain ⟨x,H1,I1,r1,q1⟩:=aaD;exact Constant_none (isnot_none_gen ⟨.bl _,H1,I1,by rw [r1.tH];rfl,q1⟩)
def tB (t:TE):TT:=fun σ H Q=>t σ H λx H1=>∃ c,x=.bl c/\Q c H1
theorem O3 {op:CmpOp}{t:TE}(h:PC X op a b t)(h1:behindInMarks op b=false:=by rfl):PE X (.Compare a [op] [b] pos) t:=λai s σ H Q I hw=>wpAny_Compare1 (h ai s σ H Q I hw) h1
theorem fU {op:CmpOp}{t:TE}(h:PC X op a b t)(h1:behindInMarks op b=false:=by rfl):PT X (.Compare a [op] [b] pos) (tB t):=by intro ai s σ H Q I hw;refine wpAny_isTrue_Compare1 (aZ (h ai s σ H _ I hw) λv s1 h1=>aZ h1 λu s2 h2=>aZ h2 λc s3 aaC=>?_) h1;obtain ⟨x,H1,I1,r1,q1⟩:=aaC;obtain ⟨d,rfl,q⟩:=q1;cases r1;exact wpAny_truthy_bool ⟨H1,I1,q⟩
theorem qC {e:Expr}{t:TE}(h:PE X e t)(he:∀ whole,isTrue e X.env whole=(do let v <- whole;standAt e.pos;holding [v] (truthy v)):=by intro _;rfl):PT X e (tB t):=by intro ai s σ H Q I hw;refine isTrue_plain (aZ (h ai s σ H _ I hw) λv s1 aaB=>?_) (he _);obtain ⟨x,H1,I1,r1,q1⟩:=aaB;obtain ⟨d,rfl,q⟩:=q1;cases r1;exact wpAny_truthy_bool ⟨H1,I1,q⟩
variable {tA YQ:TT}{rest:List Expr}
def Ow (t u:TT):TT:=fun σ H Q=>t σ H λc H1=>if c=true then u σ H1 Q else Q false H1
def Wa (t u:TT):TT:=fun σ H Q=>t σ H λc H1=>if c=true then Q true H1 else u σ H1 Q
def Oq (t:TT):TT:=fun σ H Q=>t σ H λc H1=>Q (!c) H1
theorem cR (ha:PT X a tA):PW X (.BoolOp .And [a] pos) tA:=by
 intro wh ai s σ H Q I h;refine isTrue_and (aZ (ha ai s σ H Q I h) λc s1 e=>?_);cases c with
 | true=>exact isTrue_and_nil e
 | false=>exact e
theorem jY (ha:PT X a tA):PW X (.BoolOp .Or [a] pos) tA:=by
 intro wh ai s σ H Q I h;refine isTrue_or (aZ (ha ai s σ H Q I h) λc s1 e=>?_);cases c with
 | false=>exact isTrue_or_nil e
 | true=>exact e
theorem cY (ha:PT X a tA)(hb:PW X (.BoolOp .And (b::rest) pos) YQ):PW X (.BoolOp .And (a::b::rest) pos) (Ow tA YQ):=by
 intro wh ai s σ H Q I h;refine isTrue_and (aZ (ha ai s σ H _ I h) λc s1 aaA=>?_);obtain ⟨H1,I1,q1⟩:=aaA;cases c with
 | true=>exact hb wh ai s1 σ H1 Q I1 q1
 | false=>exact ⟨H1,I1,q1⟩
theorem pQ (ha:PT X a tA)(hb:PW X (.BoolOp .Or (b::rest) pos) YQ):PW X (.BoolOp .Or (a::b::rest) pos) (Wa tA YQ):=by
 intro wh ai s σ H Q I h;refine isTrue_or (aZ (ha ai s σ H _ I h) λc s1 aaz=>?_);obtain ⟨H1,I1,q1⟩:=aaz;cases c with
 | true=>exact ⟨H1,I1,q1⟩
 | false=>exact hb wh ai s1 σ H1 Q I1 q1
theorem fm (ha:PT X a tA):PT X (.UnaryOp .Not a pos) (Oq tA):=by intro ai s σ H Q I h;exact isTrue_not (ha ai s σ H (λc H1=>Q (!c) H1) I h)
def sR (ta tb:TE):TE:=fun σ H Q=>ta σ H λx H1=>∃ c,x=.bl c/\if c=true then tb σ H1 Q else Q (.bl false) H1
def Rf (ta tb:TE):TE:=fun σ H Q=>ta σ H λx H1=>∃ c,x=.bl c/\if c=true then Q (.bl true) H1 else tb σ H1 Q
def sN (ta:TE):TE:=fun σ H Q=>ta σ H λx H1=>∃ c,x=.bl c/\Q (.bl (!c)) H1
theorem j4 {op}{t:TE}(h:PE X a t):PE X (.BoolOp op [a] pos) t:=λai s σ H Q I hw=>BoolOp_one (h ai s σ H Q I hw)
theorem fz (ha:PE X a ta)(hb:PE X (.BoolOp .And (b::rest) pos) tb):PE X (.BoolOp .And (a::b::rest) pos) (sR ta tb):=by
 intro ai s σ H Q I h;refine BoolOp_and (aZ (ha ai s σ H _ I h) λv s1 aay=>?_);obtain ⟨x,H1,I1,r1,q1⟩:=aay;obtain ⟨c,rfl,q1⟩:=q1;cases r1;refine wpAny_truthy_bool ?_;cases c with
 | true=>exact hb ai s1 σ H1 Q I1 q1
 | false=>exact ⟨.bl false,H1,I1,rfl,q1⟩
theorem Ue (ha:PE X a ta):PE X (.UnaryOp .Not a pos) (sN ta):=by intro ai s σ H Q I h;refine UnaryOp_ (aZ (ha ai s σ H _ I h) λv s1 aax=>?_);obtain ⟨x,H1,I1,r1,q1⟩:=aax;obtain ⟨c,rfl,q1⟩:=q1;cases r1;exact not_of (wpAny_truthy_bool ⟨.bl (!c),H1,I1,rfl,q1⟩)
def tIf (t:TT)(ta tb:TE):TE:=fun σ H Q=>t σ H λc H1=>if c=true then ta σ H1 Q else tb σ H1 Q
theorem jf {c:Expr}(hc:PT X c tA)(ha:PE X a ta)(hb:PE X b tb):PE X (.IfExp c a b pos) (tIf tA ta tb):=by
 intro ai s σ H Q I h;refine wpAny_IfExp (aZ (hc ai s σ H _ I h) λd s1 aaw=>?_);obtain ⟨H1,I1,q1⟩:=aaw;cases d with
 | true=>exact ha ai s1 σ H1 Q I1 q1
 | false=>exact hb ai s1 σ H1 Q I1 q1
end
def aG (K:PySem.W.Frag)(H:Hp)(a:Addr)(xs:List V):Prop:=
 Rd H a (.lst xs) \/
  ∃ (o:Obj) (az:Array Value) (n:Nat),K.lookup a=some o/\o.cls=.type "list" /\ o.dict=none/\o.data=.seq az n/\az.size<=sizeLine/\Vals xs az.toList
def bT (K:PySem.W.Frag)(H:Hp)(a:Addr)(xs:List V):Prop:=
 Rd H a (.tup xs) \/
  ∃ (o:Obj) (az:Array Value) (n:Nat),K.lookup a=some o/\o.cls=.type "tuple" /\ o.data=.seq az n/\az.size<=sizeLine/\Vals xs az.toList
def acQ:Value->Option V
 | .none=>some .bV
 | .bool b=>some (.bl b)
 | .int i _=>some (.int i)
 | .str x _=>some (.str x)
 | .bytes b _=>some (.vS b)
 | .float b _=>some (.N6 b)
 | .ref a=>some (.ref a)
 | .type n=>some (.ty n)
 | _=>none
theorem RelV.abs {x:V}{u:Value}(r:RelV x u):acQ u=some x:=by
 cases x with
 | bV=>cases r;rfl
 | bl _=>cases r;rfl
 | int _=>obtain ⟨t,rfl⟩:=r;rfl
 | str _=>obtain ⟨t,rfl⟩:=r;rfl
 | vS _=>obtain ⟨t,rfl⟩:=r;rfl
 | N6 _=>obtain ⟨t,rfl⟩:=r;rfl
 | ref _=>cases r;rfl
 | ty _=>cases r;rfl
theorem RelV.inj {x y:V}{u:Value}(r:RelV x u)(q:RelV y u):x=y:=Option.some.inj (r.abs.symm.trans q.abs)
theorem Vals.inj:∀ {xs ys:List V}{us:List Value},Vals xs us->Vals ys us->xs=ys
 | _,_,_,.nil,.nil=>rfl
 | _,_,_,.cons r t,.cons r' t'=>by rw [r.inj r',Vals.inj t t']
section
variable {X:Cx}{ai:List (Addr×Obj)}{σ:St}{H:Hp}{s:Shared}{a:Addr}{xs ys:List V}
theorem aG.of {K:PySem.W.Frag}(h:H a=some (.lst xs)):aG K H a xs:=.inl (.inl h)
theorem bT.of {K:PySem.W.Frag}(h:H a=some (.tup xs)):bT K H a xs:=.inl (.inl h)
theorem Inv.list (I:Inv X ai σ H s)(h:aG X.K H a xs):∃ az:List Value,Vals xs az/\PlainL s.heap a az.toArray/\xs.length<=sizeLine:=by
 rcases h with h | ⟨o,az,n,hk,hc,hd,hs,hz,r⟩
 ·obtain ⟨z,az,n,r,e⟩:=h.ok I.aR;exact ⟨az,r,⟨_,n,e,rfl,rfl,rfl⟩,z⟩
 ·refine ⟨az.toList,r,⟨o,n,I.kZ a o hk,hc,hd,by simpa using hs⟩,?_⟩;have e:=r.length;simp only [Array.length_toList] at e;omega
theorem Inv.tuple (I:Inv X ai σ H s)(h:bT X.K H a xs):∃ az:List Value,Vals xs az/\IsTup s.heap a az.toArray/\xs.length<=sizeLine:=by
 rcases h with h | ⟨o,az,n,hk,hc,hs,hz,r⟩
 ·obtain ⟨z,az,r,p⟩:=h.ok I.aR;exact ⟨az,r,p,z.1⟩
 ·refine ⟨az.toList,r,⟨o,I.kZ a o hk,hc,n,by simpa using hs⟩,?_⟩;have e:=r.length;simp only [Array.length_toList] at e;omega
theorem Inv.tR (I:Inv X ai σ H s)(h:aG X.K H a xs)(h':aG X.K H a ys):xs=ys:=by
 obtain ⟨az,r,⟨o,n,e,_,_,d⟩,_⟩:=I.list h;obtain ⟨its',r',⟨o',n',e',_,_,d'⟩,_⟩:=I.list h';rw [e] at e';cases e';rw [d] at d';injection d' with d1 _
 have:az=its':=by simpa using congrArg Array.toList d1
 subst this;exact r.inj r'
theorem Inv.pG (I:Inv X ai σ H s)(h:bT X.K H a xs)(h':bT X.K H a ys):xs=ys:=by
 obtain ⟨az,r,⟨o,e,_,n,d⟩,_⟩:=I.tuple h;obtain ⟨its',r',⟨o',e',_,n',d'⟩,_⟩:=I.tuple h';rw [e] at e';cases e';rw [d] at d';injection d' with d1 _
 have:az=its':=by simpa using congrArg Array.toList d1
 subst this;exact r.inj r'
end
abbrev Cx.lK (X:Cx)(E:Value->Shared->Prop):Cx:={ X with xe:=E }
abbrev Cx.Pj (X:Cx):Cx:=X.lK λ_ _=>False
theorem Cx.Ok.lK {X:Cx}(ok:X.Ok)(E:Value->Shared->Prop):(X.lK E).Ok:=
 ⟨ok.mod,ok.kind,ok.glob,ok.blt,ok.above,ok.inj,ok.has,ok.Yo,ok.hd,ok.frames,ok.Rj,ok.exf,ok.bs,ok.N7,ok.Pn,ok.Sv,ok.iX,ok.Sq⟩
theorem Cx.Ok.fk {X:Cx}{E:Value->Shared->Prop}(ok:(X.lK E).Ok):X.Ok:=
 ⟨ok.mod,ok.kind,ok.glob,ok.blt,ok.above,ok.inj,ok.has,ok.Yo,ok.hd,ok.frames,ok.Rj,ok.exf,ok.bs,ok.N7,ok.Pn,ok.Sv,ok.iX,ok.Sq⟩
section
variable {X:Cx}{ai:List (Addr×Obj)}{σ:St}{H:Hp}{s:Shared}{E:Value->Shared->Prop}
theorem Inv.lK (I:Inv X ai σ H s)(E:Value->Shared->Prop):Inv (X.lK E) ai σ H s:=⟨I.ok.lK E,I.os,I.bare,I.base,I.loc,I.cell,I.free,I.gX,I.pin,I.aR,I.len⟩
theorem Inv.fk (I:Inv (X.lK E) ai σ H s):Inv X ai σ H s:=⟨I.ok.fk,I.os,I.bare,I.base,I.loc,I.cell,I.free,I.gX,I.pin,I.aR,I.len⟩
theorem SP.fk {D:Ends}{f:Flow}{s':Shared}(h:SP (X.lK E) ai D f s'):SP X ai D f s':=by
 cases f with
 | next=>obtain ⟨bU,H',I,q⟩:=h;exact ⟨bU,H',I.fk,q⟩
 | brk=>obtain ⟨bU,H',I,q⟩:=h;exact ⟨bU,H',I.fk,q⟩
 | cont=>obtain ⟨bU,H',I,q⟩:=h;exact ⟨bU,H',I.fk,q⟩
 | ret u=>obtain ⟨v,bU,H',I,r,q⟩:=h;exact ⟨v,bU,H',I.fk,r,q⟩
theorem PE.Pj {e:Expr}{t:TE}(h:PE X.Pj e t):PE X e t:=λai s σ H Q I hw=>
 wpAny_mono (h ai s σ H Q (I.lK _) hw) (λ_ _ ⟨v,H',I',r,q⟩=>⟨v,H',I'.fk,r,q⟩) λ_ _ z=>False.elim z
theorem qk.Pj {st:List Stmt}{t:TS}(h:qk X.Pj st t):qk X st t:=λai s σ H D I hw=>
 wpAny_mono (h ai s σ H D (I.lK _) hw) (λ_ _ q=>q.fk) λ_ _ z=>False.elim z
end
section
variable {X:Cx}{st:Stmt}{rest:List Stmt}{t u:TS}{e:Expr}{te:TE}{pos:Pos}
def kQ:TS:=λD σ H=>D.nx σ H
def sM (t u:TS):TS:=λD σ H=>t (D.go (u D)) σ H
theorem wA:qk X [] kQ:=λ_ _ σ H _ I h=>wpAny_execs_nil ⟨σ,H,I,h⟩
theorem OW (h1:PS X st t)(h2:qk X rest u):qk X (st::rest) (sM t u):=by
 intro ai s σ H D I h;refine wpAny_execs_cons (aZ (h1 ai s σ H (D.go (u D)) I h) λf s1 q=>?_);cases f with
 | next=>
  obtain ⟨bU,H',I',q⟩:=q;exact h2 ai s1 bU H' D I' q
 | ret v=>exact q
 | brk=>exact q
 | cont=>exact q
theorem RB (h1:PS X st t):qk X [st] t:=by
 intro ai s σ H D I h;refine wpAny_execs_cons (aZ (h1 ai s σ H D I h) λf s1 q=>?_);cases f with
 | next=>exact wpAny_execs_nil q
 | ret v=>exact q
 | brk=>exact q
 | cont=>exact q
def Wg:TS:=λD σ H=>D.ct σ H
theorem kU:PS X (.Continue pos) Wg:=λ_ _ σ H _ I h=>wpAny_Continue ⟨σ,H,I,h⟩
theorem Inv.quiet {ai:List (Addr×Obj)}{σ:St}{H:Hp}{s:Shared}(I:Inv X ai σ H s):interactive X.env=false:=by simp [interactive,I.ok.kind]
def sP (te:TE):TS:=λD σ H=>te σ H λ_ H1=>D.nx σ H1
theorem wO (he:PE X e te)(hs:swapsWith e none pos.line X.env=pure false:=by rfl):PS X (.Expr e pos) (sP te):=by intro ai s σ H D I h;exact wpAny_Expr_any (aZ (he ai s σ H _ I h) λv s1 ⟨x,H1,I1,r1,q1⟩=>⟨σ,H1,I1,q1⟩) I.quiet hs
def Oo (te:TE):TS:=λD σ H=>te σ H D.rt
theorem xv (he:PE X e te):PS X (.Return (some e) pos) (Oo te):=by intro ai s σ H D I h;exact wpAny_Return_some (aZ (he ai s σ H _ I h) λv s1 ⟨x,H1,I1,r1,q1⟩=>⟨x,σ,H1,I1,r1,q1⟩)
def Ou (c:TT)(t u:TS):TS:=λD σ H=>c σ H λb H1=>if b=true then t D σ H1 else u D σ H1
theorem wG {c:Expr}{a b:List Stmt}{tc:TT}(hc:PT X c tc)(ha:qk X a t)(hb:qk X b u):PS X (.If c a b pos) (Ou tc t u):=by
 intro ai s σ H D I h;refine wpAny_If (aZ (hc ai s σ H _ I h) λd s1 aav=>?_);obtain ⟨H1,I1,q1⟩:=aav;cases d with
 | true=>exact ha ai s1 σ H1 D I1 q1
 | false=>exact hb ai s1 σ H1 D I1 q1
def TH:TS:=λ_ _ _=>False
theorem qN:PS X st TH:=λ_ _ _ _ _ _ h=>h.elim
end
abbrev TG:=V->St->Hp->(St->Hp->Prop)->Prop
abbrev Td:=List V->St->Hp->(St->Hp->Prop)->Prop
def PG (X:Cx)(target:Expr)(t:TG):Prop:=
 ∀ (ai:List (Addr×Obj)) (s:Shared) (σ:St) (H:Hp) (v:V) (u:Value) (Q:St->Hp->Prop),Inv X ai σ H s->RelV v u->t v σ H Q ->
  wpAny (model X.prog X.w) X.A (assign target X.env u) (λ_ s'=>∃ bU H',Inv X ai bU H' s'/\Q bU H') X.xe s
def YB (X:Cx)(ts:List Expr)(t:Td):Prop:=
 ∀ (ai:List (Addr×Obj)) (s:Shared) (σ:St) (H:Hp) (vs:List V) (us:List Value) (Q:St->Hp->Prop),Inv X ai σ H s->Vals vs us->t vs σ H Q ->
  wpAny (model X.prog X.w) X.A (assignInOrder ((assignEach ts X.env).map (·.2)) us) (λ_ s'=>∃ bU H',Inv X ai bU H' s'/\Q bU H') X.xe s
abbrev Qy:=V->V->V->Hp->(Hp->Prop)->Prop
def Vu (X:Cx)(t:Qy):Prop:=
 ∀ (ai:List (Addr×Obj)) (s:Shared) (σ:St) (H:Hp) (o i v:V) (ov iv u:Value) (Q:Hp->Prop),Inv X ai σ H s->RelV o ov->RelV i iv->RelV v u->t o i v H Q ->
  wpAny (model X.prog X.w) X.A (setItem ov iv u) (λ_ s'=>∃ H',Inv X ai σ H' s'/\Q H') X.xe s
abbrev Zw:=V->V->Hp->VK->Prop
def PIp (X:Cx)(op:Operator)(t:Zw):Prop:=
 ∀ (ai:List (Addr×Obj)) (s:Shared) (σ:St) (H:Hp) (x y:V) (v u:Value) (Q:VK),Inv X ai σ H s->RelV x v->RelV y u->t x y H Q ->
  wpAny (model X.prog X.w) X.A (inplaceOp op v u) (EP X ai σ Q) X.xe s
section
variable {X:Cx}{pos:Pos}
def lu (i:Nat):TG:=λv σ H Q=>Q (σ.set i (some v)) H
theorem xk {i:Nat}{x:Str}(hN:X.N.Nodup)(hi:X.N[i]?=some x)(hx:PD X.env.scope x=true)(hf:nR X x=true:=by rfl):PG X (.Name x pos) (lu i):=by have hx:=rj hx;intro ai s σ H v u Q I r h;exact wpAny_assign_Name (mQ I hN hi hx r (λs' I'=>⟨_,H,I',h⟩) hf)
def Qa:Td:=λvs σ H Q=>vs=[]/\Q σ H
def t8 (t:TG)(u:Td):Td:=λvs σ H Q=>∃ v r,vs=v::r/\t v σ H fun bU H'=>u r bU H' Q
theorem wD:YB X [] Qa:=by intro ai s σ H vs us Q I r h;obtain ⟨e,h⟩:=h;subst e;cases r;exact assignInOrder_nil ⟨σ,H,I,h⟩
theorem xj {e:Expr}{es:List Expr}{t:TG}{u:Td}(h1:PG X e t)(h2:YB X es u)
  (hs:(assignEach (e::es) X.env).map (·.2)=assign e X.env::(assignEach es X.env).map (·.2):=by rfl):YB X (e::es) (t8 t u):=by
 intro ai s σ H vs us Q I r h;obtain ⟨v,vr,e1,h⟩:=h;subst e1;cases r with
 | cons r rr=>
  rw [hs];refine assignInOrder_cons (aZ (h1 ai s σ H _ _ _ I r h) λ_ s1 aau=>?_);obtain ⟨VA,H1,I1,q1⟩:=aau;exact h2 ai s1 VA H1 _ _ Q I1 rr q1
def NF (K:PySem.W.Frag)(n:Nat)(t:Td):TG:=λv σ H Q=>∃ a xs,v=.ref a/\bT K H a xs/\xs.length=n/\t xs σ H Q
theorem Uc {es:List Expr}{k:Nat}{t:Td}{n:Nat}(hc:X.calm=true)(h:YB X es t)
  (hn:(assignEach es X.env).length=n:=by rfl) (Xr:(assignEach es X.env).findIdx? (·.1)=none:=by rfl):PG X (.Tuple es k pos) (NF X.K n t):=by
 intro ai s σ H v u Q I r hw;obtain ⟨a,xs,e1,hq,hl,hw⟩:=hw;subst e1;cases r;obtain ⟨az,rv,ht,hz⟩:=I.tuple hq;refine assign_Tuple_tuple (I.ok.hd hc) ht (by simp [hn,<- hl,rv.length]) Xr λh' hx=>?_;have I1:Inv X ai σ H { s with heap:=h' }:=I.kept (t':=s.toks) λb o e=>hx b o (za (Heap.lt_size e)) e;exact h ai _ σ H xs _ Q I1 (by simpa using rv) hw
def P9 (to ti:TE)(t:Qy):TG:=λv σ H Q=>to σ H λo H1=>ti σ H1 λi H2=>t o i v H2 λH3=>Q σ H3
theorem j3 {o i:Expr}{to ti:TE}{t:Qy}(ho:PE X o to)(hi:PE X i ti)(hs:Vu X t)
  (ha:∀ v,assign (.Subscript o i pos) X.env v=(do
   let ov <- holding [v] (eval o X.env)
   let iv <- holding [v,ov] (eval i X.env)
   standAt pos
   holding [v,ov,iv] (setItem ov iv v)
   release [v,ov,iv] []):=by intro _;rfl):PG X (.Subscript o i pos) (P9 to ti t):=by
 intro ai s σ H v u Q I r h;rw [ha];refine wpAny_bind (wpAny_holding (aZ (ho ai s σ H _ I h) λov s1 aat=>?_));obtain ⟨x,H1,I1,r1,q1⟩:=aat;refine wpAny_bind (wpAny_holding (aZ (hi ai s1 σ H1 _ I1 q1) λiv s2 aas=>?_));obtain ⟨y,H2,I2,r2,q2⟩:=aas;refine wpAny_bind (wpAny_standAt (wpAny_bind (wpAny_holding (aZ (hs ai s2 σ H2 x y v ov iv u _ I2 r1 r2 r q2) λ_ s3 aar=>?_))));obtain ⟨H3,I3,q3⟩:=aar;exact wpAny_release ⟨σ,H3,I3,q3⟩
def uQ (te:TE)(g:TG):TS:=λD σ H=>te σ H λx H1=>g x σ H1 D.nx
theorem we {tg e:Expr}{te:TE}{g:TG}(he:PE X e te)(hg:PG X tg g)(hs:swapsWithSole [tg] e pos.line X.env=pure false:=by rfl)(hw:swappedStores [tg] e X.env=pure none:=by rfl)
  (h1:(assignEach [tg] X.env).map (·.2)=[assign tg X.env]:=by rfl):PS X (.Assign [tg] e pos) (uQ te g):=by
 intro ai s σ H D I h;refine wpAny_Assign_stores (aZ (he ai s σ H _ I h) λv s1 aaq=>?_) hs hw;obtain ⟨x,H1,I1,r1,q1⟩:=aaq;rw [h1];exact aZ (hg ai s1 σ H1 x v _ I1 r1 q1) λ_ s2 q=>q
theorem xt {i:Nat}{x:Str}{e:Expr}{te:TE}{pos':Pos}(hN:X.N.Nodup)(hi:X.N[i]?=some x)(hx:PD X.env.scope x=true)(he:PE X e te)(hs:swapsWith e (some (.Name x pos')) pos.line X.env=pure false:=by rfl)(hf:nR X x=true:=by rfl) :
  PS X (.Assign [.Name x pos'] e pos) (uQ te (lu i)):=by
 have hx:=rj hx;intro ai s σ H D I h;refine wpAny_Assign_Name (aZ (he ai s σ H _ I h) λv s1 aap=>?_) hs;obtain ⟨y,H1,I1,r1,q1⟩:=aap;exact mQ I1 hN hi hx r1 (λs2 I2=>⟨_,H1,I2,q1⟩) hf
def sQ (to ti te:TE)(Rc:V->V->Hp->VK->Prop)(YO:Zw)(Q9:Qy):TS:=λD σ H=>to σ H λo H1=>ti σ H1 λi H2=>Rc o i H2 λx H3=>te σ H3 λy H4=>YO x y H4 λz H5=>Q9 o i z H5 λH6=>D.nx σ H6
def YC (X:Cx)(t:V->V->Hp->VK->Prop):Prop:=
 ∀ (ai:List (Addr×Obj)) (s:Shared) (σ:St) (H:Hp) (o i:V) (ov iv:Value) (Q:VK),Inv X ai σ H s->RelV o ov->RelV i iv->t o i H Q ->
  wpAny (model X.prog X.w) X.A (getItem ov iv) (EP X ai σ Q) X.xe s
theorem LY {o i e:Expr}{to ti te:TE}{Rc:V->V->Hp->VK->Prop}{YO:Zw}{Q9:Qy}{op:Operator}{Rb:Pos}(ho:PE X o to)(hi:PE X i ti)(hg:YC X Rc)(he:PE X e te)(hp:PIp X op YO)(hs:Vu X Q9)
  (ha:∀ ov iv new,augStore i ov iv new=(do holding [new,ov,iv] (setItem ov iv new);release [new,ov,iv] [];pure .next):=by intros;rfl):PS X (.AugAssign (.Subscript o i Rb) op e pos) (sQ to ti te Rc YO Q9):=by
 intro ai s σ H D I h;refine wpAny_AugAssign_SubscriptAny (aZ (ho ai s σ H _ I h) λov s1 aao=>?_) ha;obtain ⟨x1,H1,I1,r1,q1⟩:=aao;refine aZ (hi ai s1 σ H1 _ I1 q1) λiv s2 aan=>?_;obtain ⟨x2,H2,I2,r2,q2⟩:=aan;refine aZ (hg ai s2 σ H2 x1 x2 ov iv _ I2 r1 r2 q2) λold s3 aam=>?_;obtain ⟨x3,H3,I3,r3,q3⟩:=aam;refine aZ (he ai s3 σ H3 _ I3 q3) λv s4 aal=>?_;obtain ⟨x4,H4,I4,r4,q4⟩:=aal;refine aZ (hp ai s4 σ H4 x3 x4 old v _ I4 r3 r4 q4) λnew s5 aak=>?_;obtain ⟨x5,H5,I5,r5,q5⟩:=aak;exact aZ (hs ai s5 σ H5 x1 x2 x5 ov iv new _ I5 r1 r2 r5 q5) λ_ s6 ⟨H6,I6,q6⟩=>⟨σ,H6,I6,q6⟩
def Xe (f:Int->Int->Int):Zw:=λx y H Q=>∃ i j,x=.int i/\y=.int j/\Q (.int (f i j)) H
theorem PX:PIp X .Add (Xe λi j=>i + j):=by intro ai s σ H x y v u Q I r1 r2 h;obtain ⟨i,j,e1,e2,q⟩:=h;subst e1;subst e2;obtain ⟨t,rfl⟩:=r1;obtain ⟨t',rfl⟩:=r2;exact iadd_int ⟨.int _,H,I.tok _,⟨_,rfl⟩,q⟩
end
section
variable {X:Cx}{pos:Pos}
def mL (c:TT)(tb:TS):TS:=λD σ H=>∃ W:Nat->St->Hp->Prop,(∃ m,W m σ H)/\∀ m σ H,W m σ H ->
 c σ H λb H1=>if b=true then ∃ N:St->Hp->Prop,(∀ bU H',N bU H'->∃ m',m' < m/\W m' bU H')/\tb (D.lp N) σ H1 else D.nx σ H1
theorem mY {c:Expr}{body:List Stmt}{tc:TT}{tb:TS}(hp:PassesOwn (model X.prog X.w) X.A X.env X.xe)(hc:PT X c tc)(hb:qk X body tb):PS X (.While c body [] pos) (mL tc tb):=by
 intro ai s σ H D I h;obtain ⟨W,⟨m0,w0⟩,turn⟩:=h;refine wpAny_While (codeAny_whileLoop (λn s'=>∃ bU H',Inv X ai bU H' s'/\W n bU H') ?_ m0 ⟨σ,H,I,w0⟩);rintro n s1 ⟨VA,H1,I1,w1⟩;refine wpAny_passesOwn hp (aZ (hc ai s1 VA H1 _ I1 (turn n VA H1 w1)) λb s2 aaj=>?_);obtain ⟨H2,I2,q2⟩:=aaj;cases b with
 | true=>
  obtain ⟨N,hN,q2⟩:=q2;rw [if_pos rfl];refine wpAny_passesOwn hp (aZ (hb ai s2 VA H2 _ I2 q2) λf s3 q3=>?_);cases f with
  | next=>
   obtain ⟨Oa,H3,I3,n3⟩:=q3;obtain ⟨m',hm,w3⟩:=hN Oa H3 n3;exact ⟨m',hm,Oa,H3,I3,w3⟩
  | cont=>
   obtain ⟨Oa,H3,I3,n3⟩:=q3;obtain ⟨m',hm,w3⟩:=hN Oa H3 n3;exact ⟨m',hm,Oa,H3,I3,w3⟩
  | brk=>exact q3
  | ret v=>exact q3
 | false=>
  rw [if_neg zK];exact wpAny_execs_nil ⟨VA,H2,I2,q2⟩
end
structure It where
 go:Nat->Hp->Prop
 LL:Nat->Hp->V->Hp->Prop
 stop:Nat->Hp->Prop
def iY (X:Cx)(ai:List (Addr×Obj))(H:Hp)(b:Addr):Prop:=
 H b=none/\b≠X.env.locals/\b ∉ X.fs/\(b∈X.ex\/X.cI.heap.objs.size<=b)/\(∀ x c,X.env.cells.lookup x=some c->c≠b)/\∀ p∈X.pn++ai,p.1≠b
theorem Inv.rJ {X:Cx}{ai:List (Addr×Obj)}{σ:St}{H H':Hp}{s:Shared}{b:Addr}(I:Inv X ai σ H s)(hb:s.heap.objs.size<=b)(hn:H' b=none):iY X ai H' b:=by
 refine ⟨hn,ym (zW I.lt hb),I.WQ hb,.inr (zi I.sz hb),λx c e z=>?_,λp hp z=>?_⟩
 ·obtain ⟨v,q⟩:=I.cell x c e;exact absurd (zW q.lt (by rw [z];exact hb)) (z6 _)
 ·exact absurd (zW (Heap.lt_size (I.pin p hp).1) (by rw [z];exact hb)) (z6 _)
structure Turn (P:Program) (w:World) (K:PySem.W.Frag) (tg:Expr) (J:It) (fp:List Addr) (it:Addr) (tn:Nat->Heap->Prop):Prop where
 mem:it∈fp
 obj:∀ i h,tn i h->∀ b∈fp,∃ o,h.get? b=some o/\∀ v,o.data≠.cell v
 keep:∀ i h h',tn i h->(∀ b∈fp,∀ o,h.get? b=some o->h'.get? b=some o)->tn i h'
 item:∀ (X:Cx),X.prog=P->X.w=w->X.K=K->X.calm=true->∀ (i:Nat) (ai:List (Addr×Obj)) (s:Shared) (σ:St) (H:Hp) (E:Value->Shared->Prop),Inv X ai σ H s->(∀ b∈fp,iY X ai H b)->tn i s.heap->J.go i H ->
  wpAny (model P w) X.A (pyNext (.ref it)) (λr s1=>∃ u,r=some u /\
   wpAny (model P w) X.A (letOwnedTupleGo tg (.ref it) u) (λ_ s2=>∃ x H',Inv X ai σ H' s2/\RelV x u/\J.LL i H x H'/\tn (i + 1) s2.heap/\∀ b∈fp,H' b=none) E s1) E s
 done:∀ (X:Cx),X.prog=P->X.w=w->X.K=K->X.calm=true->∀ (i:Nat) (ai:List (Addr×Obj)) (s:Shared) (σ:St) (H:Hp) (E:Value->Shared->Prop),Inv X ai σ H s->(∀ b∈fp,iY X ai H b)->tn i s.heap->J.stop i H ->
  wpAny (model P w) X.A (pyNext (.ref it)) (λr s1=>r=none/\Inv X ai σ H s1) E s
 self:∀ (A:Around) (i:Nat) (s:Shared) (Q:Value->Shared->Prop) (E:Value->Shared->Prop),tn i s.heap->Q (.ref it) s->wpAny (model P w) A (pyIter (.ref it)) Q E s
abbrev TI:=St->Hp->(It->Hp->Prop)->Prop
def PIE (X:Cx)(ai:List (Addr×Obj))(σ:St)(tg:Expr)(R:It->Hp->Prop)(itv:Value)(s2:Shared):Prop:=
 ∃ (it:Addr) (fp:List Addr) (tn:Nat->Heap->Prop) (J:It) (H':Hp),itv=.ref it/\Inv X ai σ H' s2/\Turn X.prog X.w X.K tg J fp it tn/\tn 0 s2.heap/\(∀ b∈fp,iY X ai H' b)/\R J H'
def PI (X:Cx)(tg iter:Expr)(wi:TI):Prop:=
 ∀ (ai:List (Addr×Obj)) (s:Shared) (σ:St) (H:Hp) (R:It->Hp->Prop),Inv X ai σ H s->wi σ H R ->
  wpAny (model X.prog X.w) X.A (eval iter X.env) (λv s1=>wpAny (model X.prog X.w) X.A (pyIter v) (PIE X ai σ tg R) X.xe s1) X.xe s
theorem Mm {M:Model}{A:Around}{E:Value->Shared->Prop}{s:Shared}{tg:Expr}{it:Addr}{u:Value}{o:Obj}{n:String}{vs:Array Value}{Q:Unit->Shared->Prop}(ho:s.heap.get? it=some o)(hc:o.cls=.type n)(hd:o.data=.fields vs)
    (hn:["enumerate", "zip", "dict_itemiterator", "dict_reverseitemiterator", "odict_iterator", "itertools.zip_longest", "itertools.pairwise"].contains n=false) (hQ:Q () s):wpAny M A (letOwnedTupleGo tg (.ref it) u) Q E s:=by
  unfold letOwnedTupleGo;cases tg <;> first
    | exact wpAny_pure hQ
    | (cases u <;> first
        | exact wpAny_pure hQ
        | (refine wpAny_bind (wpAny_load ho ?_)
           rw [hc,hd];show wpAny M A (if (["enumerate", "zip", "dict_itemiterator", "dict_reverseitemiterator", "odict_iterator", "itertools.zip_longest", "itertools.pairwise"].contains n && vs[0]? == some (rawInt _))=true then _ else _) Q E s;rw [if_neg (by intro h;rw [hn,yS] at h;cases h)];exact wpAny_pure hQ))
def SJ (K:PySem.W.Frag)(a:Addr):It:=
 ⟨λi H=>∃ xs x,aG K H a xs/\xs[i]?=some x,λi H x H'=>H'=H/\∀ xs,aG K H a xs->xs[i]?=some x,λi H=>∃ xs,aG K H a xs/\xs.length<=i⟩
def SI (K:PySem.W.Frag)(a:Addr):It:=
 ⟨λi H=>∃ xs x,bT K H a xs/\xs[i]?=some x,λi H x H'=>H'=H/\∀ xs,bT K H a xs->xs[i]?=some x,λi H=>∃ xs,bT K H a xs/\xs.length<=i⟩
def QC (lo:Int)(n:Nat):It:=⟨λi _=>i < n,λi H x H'=>H'=H/\x=.int (lo + i),λi _=>n<=i⟩
theorem MK {P:Program}{w:World}{K:PySem.W.Frag}{tg:Expr}(a it:Addr):Turn P w K tg (SJ K a) [it] it (λi h=>h.IsListIter it a i) where
 mem:=by simp
 obj:=λi h st b hb=>by
  have e:b=it:=by simpa using hb
  subst e;obtain ⟨o,e,c,d⟩:=st;exact ⟨o,e,λv z=>by rw [d] at z;cases z⟩
 keep:=λi h h' st k=>st.at λo e=>k it (by simp) o e
 item:=by
  intro X hP hw hK hc i ai s σ H E I hf st hg;subst hP hw hK;obtain ⟨xs,x,hq,hx⟩:=hg;obtain ⟨az,rv,p,hz⟩:=I.list hq;obtain ⟨u,hu,ru⟩:=rv.get hx;obtain ⟨f0,f1,f2,f3,f4,f5⟩:=hf it (by simp);refine wpAny_pyNext_list_item st p.isList (x:=u) (by simpa using hu) λh' qu sb=>?_;have I1:Inv X ai σ H { s with heap:=h' }:=I.turned (t':=s.toks) (λb o hb e=>(sb.2 b hb).trans e) f0 f1 f3 f4 f5;obtain ⟨o,e,c,d⟩:=id qu;exact ⟨u,rfl,Mm (s:={ s with heap:=h' }) e c d (by decide) ⟨x,H,I1,ru,⟨rfl,λys hy=>by rw [I.tR hy hq];exact hx⟩,qu,λb hb=>(hf b hb).1⟩⟩
 done:=by
  intro X hP hw hK hc i ai s σ H E I hf st hg;subst hP hw hK;obtain ⟨xs,hq,hx⟩:=hg;obtain ⟨az,rv,p,hz⟩:=I.list hq;obtain ⟨f0,f1,f2,f3,f4,f5⟩:=hf it (by simp);have hl:=rv.length;exact wpAny_pyNext_list_end (I.ok.hd hc) st p.isList (by simp;omega) λh' eb=>⟨rfl,I.turned (t':=s.toks) (λb o hb e=>eb b o hb e) f0 f1 f3 f4 f5⟩
 self:=λ_ _ _ _ _ st h=>wpAny_pyIter_listiter st h
theorem uK {P:Program}{w:World}{K:PySem.W.Frag}{tg:Expr}(a it:Addr):Turn P w K tg (SI K a) [it] it (λi h=>h.IsTupleIter it a i) where
 mem:=by simp
 obj:=λi h st b hb=>by
  have e:b=it:=by simpa using hb
  subst e;obtain ⟨o,e,c,d⟩:=st;exact ⟨o,e,λv z=>by rw [d] at z;cases z⟩
 keep:=λi h h' st k=>st.at λo e=>k it (by simp) o e
 item:=by
  intro X hP hw hK hc i ai s σ H E I hf st hg;subst hP hw hK;obtain ⟨xs,x,hq,hx⟩:=hg;obtain ⟨az,rv,p,hz⟩:=I.tuple hq;obtain ⟨u,hu,ru⟩:=rv.get hx;obtain ⟨f0,f1,f2,f3,f4,f5⟩:=hf it (by simp);refine wpAny_pyNext_tuple_item st (show s.heap.IsTuple a az.toArray from p) (x:=u) (by simpa using hu) λh' qu sb=>?_;have I1:Inv X ai σ H { s with heap:=h' }:=I.turned (t':=s.toks) (λb o hb e=>(sb.2 b hb).trans e) f0 f1 f3 f4 f5;obtain ⟨o,e,c,d⟩:=id qu;exact ⟨u,rfl,Mm (s:={ s with heap:=h' }) e c d (by decide) ⟨x,H,I1,ru,⟨rfl,λys hy=>by rw [I.pG hy hq];exact hx⟩,qu,λb hb=>(hf b hb).1⟩⟩
 done:=by
  intro X hP hw hK hc i ai s σ H E I hf st hg;subst hP hw hK;obtain ⟨xs,hq,hx⟩:=hg;obtain ⟨az,rv,p,hz⟩:=I.tuple hq;obtain ⟨f0,f1,f2,f3,f4,f5⟩:=hf it (by simp);have hl:=rv.length;exact wpAny_pyNext_tuple_end (I.ok.hd hc) st (show s.heap.IsTuple a az.toArray from p) (by simp;omega) λh' eb=>⟨rfl,I.turned (t':=s.toks) (λb o hb e=>eb b o hb e) f0 f1 f3 f4 f5⟩
 self:=λ_ _ _ _ _ st h=>wpAny_pyIter_tupleiter st h
theorem uL {P:Program}{w:World}{K:PySem.W.Frag}{tg:Expr}(it:Addr)(lo:Int)(n:Nat):Turn P w K tg (QC lo n) [it] it (λi h=>IsRangeIter h it (lo + (i:Nat) * 1) ((n:Int) - (i:Nat)) 1) where
 mem:=by simp
 obj:=λi h st b hb=>by
  have e:b=it:=by simpa using hb
  subst e;exact ⟨_,st,λv z=>by
   have z':Data.fields _=Data.cell v:=z;cases z'⟩
 keep:=λi h h' st k=>k it (by simp) _ st
 item:=by
  intro X hP hw hK hc i ai s σ H E I hf st hg;subst hP hw hK;obtain ⟨f0,f1,f2,f3,f4,f5⟩:=hf it (by simp);have W:=Walks.range (prog:=X.prog) (w:=X.w) (I.ok.hd hc) it lo 1 n;refine W.item i s _ _ hg st λv h' tk hv qu kk=>?_;obtain ⟨t,rfl⟩:=hv;have I1:Inv X ai σ H { s with heap:=h',toks:=tk }:=I.turned (λb o hb e=>kk b o (by simpa using hb) e) f0 f1 f3 f4 f5;refine ⟨_,rfl,Mm (s:={ s with heap:=h',toks:=tk }) (n := "range_iterator") qu rfl rfl (by decide) ⟨.int (lo + i),H,I1,⟨t,?_⟩,⟨rfl,rfl⟩,qu,λb hb=>(hf b hb).1⟩⟩;rw [Int.mul_one]
 done:=by
  intro X hP hw hK hc i ai s σ H E I hf st hg;subst hP hw hK;obtain ⟨f0,f1,f2,f3,f4,f5⟩:=hf it (by simp);exact wpAny_pyNext_range_end (I.ok.hd hc) st (by have:n<=i:=hg;omega) λh' eb=>⟨rfl,I.turned (t':=s.toks) (λb o hb e=>eb b o hb e) f0 f1 f3 f4 f5⟩
 self:=λ_ _ _ _ _ st h=>wpAny_pyIter_rangeiter st h
section
variable {X:Cx}{tg:Expr}
def S2 (K:PySem.W.Frag)(tl:TE):TI:=fun σ H R=>tl σ H λx H1=>∃ a,x=.ref a/\(∃ xs,aG K H1 a xs)/\R (SJ K a) H1
def Xf (K:PySem.W.Frag)(tl:TE):TI:=fun σ H R=>tl σ H λx H1=>∃ a,x=.ref a/\(∃ xs,bT K H1 a xs)/\R (SI K a) H1
theorem RE {l:Expr}{tl:TE}(hl:PE X l tl):PI X tg l (S2 X.K tl):=by
 intro ai s σ H R I h;refine aZ (hl ai s σ H _ I h) λv s1 aai=>?_;obtain ⟨x,H1,I1,r1,q1⟩:=aai;obtain ⟨a,e,⟨xs,hq⟩,q⟩:=q1;subst e;cases r1;obtain ⟨az,rv,p,hz⟩:=I1.list hq;refine wpAny_pyIter_list p.isList ?_;refine ⟨s1.heap.objs.size,[s1.heap.objs.size],_,_,H1,rfl,I1.kept (t':=s1.toks) λb o e=>Heap.get?_push_of_some _ e,MK a _,⟨_,Heap.get?_push_size _ rfl,rfl,rfl⟩,λb hb=>?_,q⟩;have e:b=s1.heap.objs.size:=by simpa using hb
 subst e;exact I1.rJ (zE _) (I1.aR.fresh (zE _))
theorem Ub {l:Expr}{tl:TE}(hl:PE X l tl):PI X tg l (Xf X.K tl):=by
 intro ai s σ H R I h;refine aZ (hl ai s σ H _ I h) λv s1 aah=>?_;obtain ⟨x,H1,I1,r1,q1⟩:=aah;obtain ⟨a,e,⟨xs,hq⟩,q⟩:=q1;subst e;cases r1;obtain ⟨az,rv,p,hz⟩:=I1.tuple hq;refine wpAny_pyIter_tuple (show s1.heap.IsTuple a az.toArray from p) ?_;refine ⟨s1.heap.objs.size,[s1.heap.objs.size],_,_,H1,rfl,I1.kept (t':=s1.toks) λb o e=>Heap.get?_push_of_some _ e,uK a _,⟨_,Heap.get?_push_size _ rfl,rfl,rfl⟩,λb hb=>?_,q⟩;have e:b=s1.heap.objs.size:=by simpa using hb
 subst e;exact I1.rJ (zE _) (I1.aR.fresh (zE _))
theorem sV {ai:List (Addr×Obj)}{σ:St}{H:Hp}{s:Shared}{R:It->Hp->Prop}{E:Value->Shared->Prop}{lo hi:Int}{t u v:Tok}{tk:Nat}(I:Inv X ai σ H s)(h1:-(2 ^ 62)<=lo)(h2:lo < 2 ^ 62)(h3:-(2 ^ 62)<=hi)(h4:hi < 2 ^ 62)
  (q:R (QC lo (hi - lo).toNat) H):wpAny (model X.prog X.w) X.A (pyIter (.ref s.heap.objs.size)) (PIE X ai σ tg R) E { s with heap:=s.heap.push { cls:=.type "range", data:=.fields #[.int lo t,.int hi u,.int 1 v] },toks:=tk }:=by
 refine wpAny_pyIter_range (IsRange.new ..) (small_one h1 h2 h3 h4) ?_;have I1:Inv X ai σ H { s with heap:=s.heap.push { cls:=.type "range", data:=.fields #[.int lo t,.int hi u,.int 1 v] },toks:=tk }:=I.kept λb o e=>Heap.get?_push_of_some _ e;refine ⟨(s.heap.push { cls:=.type "range", data:=.fields #[.int lo t,.int hi u,.int 1 v] }).objs.size,[(s.heap.push { cls:=.type "range", data:=.fields #[.int lo t,.int hi u,.int 1 v] }).objs.size],_,_,H,rfl,
  I1.kept (t':=tk) λb o e=>Heap.get?_push_of_some _ e,uL _ lo (hi - lo).toNat,?_,λb hb=>?_,q⟩
 ·have e1:lo + ((0:Nat):Int) * 1=lo:=by simp
  have e2:(((hi - lo).toNat:Nat):Int) - ((0:Nat):Int)=Builtin.Range.rangeSize lo hi 1:=by rw [rangeSize_one];split <;> omega
  show IsRangeIter _ _ (lo + ((0:Nat):Int) * 1) ((((hi - lo).toNat:Nat):Int) - ((0:Nat):Int)) 1;rw [e1,e2];exact Heap.get?_push_size _ rfl
 ·have e:b=(s.heap.push { cls:=.type "range", data:=.fields #[.int lo t,.int hi u,.int 1 v] }).objs.size:=by simpa using hb
  subst e;exact I1.rJ (zE _) (I1.aR.fresh (zE _))
def Xh (ta:TA):TI:=fun σ H R=>ta σ H λvs H1=>∃ j:Int,vs=[.int j]/\-(2 ^ 62)<=j/\j < 2 ^ 62/\R (QC 0 j.toNat) H1
def Xg (ta:TA):TI:=fun σ H R=>ta σ H λvs H1=>∃ i j:Int,vs=[.int i,.int j]/\(-(2 ^ 62)<=i/\i < 2 ^ 62/\-(2 ^ 62)<=j/\j < 2 ^ 62)/\R (QC i (j - i).toNat) H1
theorem qJ {a:Expr}{ta:TA}{p pos:Pos}(hg:Gl X "range")(hm:X.mg "range" = none)(ha:PA X [a] ta)(hs:starEach [a] X.env=[(false,eval a X.env)]:=by rfl):PI X tg (.Call (.Name "range" p) [a] [] pos) (Xh ta):=by
 intro ai s σ H R I h;refine Call_ (fE I hg hm boot_range (zu (aZ (ha pos ai s σ H _ I h) λus s1 aag=>?_) hs rfl));obtain ⟨vs,H1,I1,r1,q1⟩:=aag;obtain ⟨j,e,q1,q2,q⟩:=q1;subst e;cases r1 with
 | cons r rr=>
  cases rr;obtain ⟨t,rfl⟩:=r;exact call_range_1 (sV I1 (by omega) (by omega) q1 q2 (by simpa using q))
theorem jZ {a b:Expr}{ta:TA}{p pos:Pos}(hg:Gl X "range")(hm:X.mg "range" = none)(ha:PA X [a,b] ta)(hs:starEach [a,b] X.env=[(false,eval a X.env),(false,eval b X.env)]:=by rfl)(N3:starEach [b] X.env=[(false,eval b X.env)]:=by rfl) :
  PI X tg (.Call (.Name "range" p) [a,b] [] pos) (Xg ta):=by
 intro ai s σ H R I h;refine Call_ (fE I hg hm boot_range (zu (aZ (ha pos ai s σ H _ I h) λus s1 aaf=>?_) (by rw [hs,N3]) (by rw [N3];rfl)));obtain ⟨vs,H1,I1,r1,q1⟩:=aaf;obtain ⟨i,j,e,⟨q1,q2,q3,q4⟩,q⟩:=q1;subst e;cases r1 with
 | cons r rr=>
  cases rr with
  | cons r' rr=>
   cases rr;obtain ⟨t,rfl⟩:=r;obtain ⟨t',rfl⟩:=r';exact call_range_2 (sV I1 q1 q2 q3 q4 q)
def aaQ (wi:TI)(g:TG)(tb:TS):TS:=λD σ H=>wi σ H λJ H1=>∃ W:Nat->Nat->St->Hp->Prop,(∃ m,W 0 m σ H1)/\∀ i m σ H,W i m σ H ->
 (J.stop i H/\D.nx σ H)\/(J.go i H/\∃ N:St->Hp->Prop,(∀ bU H',N bU H'->∃ m',m' < m/\W (i + 1) m' bU H')/\∀ x H',J.LL i H x H'->g x σ H' fun lJ H2=>tb (D.lp N) lJ H2)
def m5 (fp:List Addr)(h:Heap):List (Addr×Obj):=fp.filterMap λb=>(h.get? b).map λo=>(b,o)
theorem dR {fp:List Addr}{h:Heap}{b:Addr}{o:Obj}(hb:b∈fp)(e:h.get? b=some o):(b,o)∈m5 fp h:=List.mem_filterMap.mpr ⟨b,hb,by rw [e];rfl⟩
theorem Nb {fp:List Addr}{h:Heap}{p:Addr×Obj}(hp:p∈m5 fp h):p.1∈fp/\h.get? p.1=some p.2:=by
 obtain ⟨b,hb,e⟩:=List.mem_filterMap.mp hp;cases q:h.get? b with
 | none=>rw [q] at e;cases e
 | some o=>
  rw [q] at e;have e':(b,o)=p:=Option.some.inj e;subst e';exact ⟨hb,q⟩
theorem Inv.pinned {ai:List (Addr×Obj)}{σ:St}{H:Hp}{s:Shared}{fp:List Addr}(I:Inv X ai σ H s)(hf:∀ b∈fp,iY X ai H b)(ho:∀ b∈fp,∃ o,s.heap.get? b=some o/\∀ v,o.data≠.cell v):Inv X (ai++m5 fp s.heap) σ H s:=
 I.cS λp hp=>(zT.mp hp).elim (λz=>I.pin p (zI _ z)) λz=>by
  obtain ⟨hb,e⟩:=Nb z;obtain ⟨f0,f1,f2,_⟩:=hf p.1 hb;obtain ⟨o,e',d⟩:=ho p.1 hb;rw [e] at e';cases e';exact ⟨e,f0,f1,f2,d⟩
theorem Inv.gF {ai pl:List (Addr×Obj)}{σ:St}{H:Hp}{s:Shared}(I:Inv X (ai++pl) σ H s):Inv X ai σ H s:=I.cS λp hp=>I.pin p (zI _ (zY _ hp))
theorem wZ {iter:Expr}{body:List Stmt}{wi:TI}{g:TG}{tb:TS}{pos:Pos}(hp:PassesOwn (model X.prog X.w) X.A X.env X.xe)(hc:X.calm=true)(hi:PI X tg iter wi)(hg:PG X tg g)(hb:qk X body tb)
  (hs:∀ x,foldedSetIterable iter X.env x=pure x:=by intro _;rfl):PS X (.For tg iter body [] pos) (aaQ wi g tb):=by
 intro ai s σ H D I h;refine wpAny_For (aZ (hi ai s σ H _ I h) λv s1 h1=>aZ h1 λitv s2 h2=>?_) hs;obtain ⟨it,fp,tn,J,H2,e,I2,T,YR,f2,W,⟨m0,w0⟩,turn⟩:=h2;subst e
 -- afb stays true of VC vA objects through VC loop
 have uR:∀ {H':Hp},(∀ b∈fp,H' b=none)->∀ b∈fp,iY X ai H' b:=λhn b hb=>⟨hn b hb,(f2 b hb).2⟩;refine codeAny_forLoop_any (λn s'=>∃ i bU H',Inv X ai bU H' s'/\tn i s'.heap/\(∀ b∈fp,H' b=none)/\W i n bU H') ?_ m0 ⟨0,σ,H2,I2,YR,λb hb=>(f2 b hb).1,w0⟩;rintro n s3 ⟨i,Oa,H3,I3,st3,fr3,w3⟩;rcases turn i n Oa H3 w3 with ⟨stop,qn⟩ | ⟨go,N,hN,step⟩
 ·refine wpAny_passesOwn hp (aZ (T.done X rfl rfl rfl hc i ai s3 Oa H3 X.xe I3 (uR fr3) st3 stop) λr s4 ⟨hr,I4⟩=>?_);subst hr;exact wpAny_execs_nil ⟨Oa,H3,I4,qn⟩
 ·refine wpAny_passesOwn hp (aZ (T.item X rfl rfl rfl hc i ai s3 Oa H3 X.xe I3 (uR fr3) st3 go) λr s4 ⟨u,hr,h4⟩=>?_);subst hr;refine wpAny_passesOwn hp (aZ h4 λ_ s5 aae=>?_);obtain ⟨x,H5,I5,r5,y5,VE,Zp⟩:=aae;have I5':=I5.pinned (uR Zp) (T.obj _ _ VE);refine wpAny_passesOwn hp (aZ (hg _ s5 Oa H5 x u _ I5' r5 (step x H5 y5)) λ_ s6 aad=>?_);obtain ⟨σ6,H6,I6,q6⟩:=aad;refine wpAny_passesOwn hp (aZ (hb _ s6 σ6 H6 _ I6 q6) λf s7 q7=>?_);have again:∀ {N9:St} {H7:Hp},Inv X (ai++m5 fp s5.heap) N9 H7 s7->N N9 H7->∃ m,m < n/\∃ i bU H',Inv X ai bU H' s7/\tn i s7.heap/\(∀ b∈fp,H' b=none)/\W i m bU H':=λ{N9 H7} I7 n7=>by
   obtain ⟨m',hm,w7⟩:=hN N9 H7 n7;refine ⟨m',hm,i + 1,N9,H7,I7.gF,T.keep _ _ _ VE λb hb o e=>(I7.pin (b,o) (zI _ (zI _ (dR hb e)))).1,λb hb=>?_,w7⟩;obtain ⟨o,e,d⟩:=T.obj _ _ VE b hb;exact (I7.pin (b,o) (zI _ (zI _ (dR hb e)))).2.1
  cases f with
  | next=>obtain ⟨N9,H7,I7,n7⟩:=q7;exact again I7 n7
  | cont=>obtain ⟨N9,H7,I7,n7⟩:=q7;exact again I7 n7
  | brk=>obtain ⟨N9,H7,I7,q7⟩:=q7;exact ⟨N9,H7,I7.gF,q7⟩
  | ret v=>obtain ⟨x7,N9,H7,I7,r7,q7⟩:=q7;exact ⟨x7,N9,H7,I7.gF,r7,q7⟩
end
theorem dW {K:PySem.W.Frag}{a:Addr}{xs:List V}{g:TG}{tb:TS}{D:Ends}{σ:St}{H:Hp}(Pv:Nat->St->Hp->Prop)(h0:Pv 0 σ H)(hl:∀ i σ H,i<=xs.length->Pv i σ H->aG K H a xs)
  (hs:∀ i x σ H,xs[i]?=some x->Pv i σ H->g x σ H fun lJ H2=>tb (D.lp (Pv (i + 1))) lJ H2) (hd:∀ σ H,Pv xs.length σ H->D.nx σ H) :
  ∃ W:Nat->Nat->St->Hp->Prop,(∃ m,W 0 m σ H)/\∀ i m σ H,W i m σ H ->
   ((SJ K a).stop i H/\D.nx σ H)\/((SJ K a).go i H/\∃ N:St->Hp->Prop,(∀ bU H',N bU H'->∃ m',m' < m/\W (i + 1) m' bU H')/\∀ x H',(SJ K a).LL i H x H'->g x σ H' fun lJ H2=>tb (D.lp N) lJ H2):=by
 refine ⟨λi m σ H=>m=xs.length - i/\i<=xs.length/\Pv i σ H,⟨xs.length,by simp,zX _,h0⟩,?_⟩;rintro i m σ H ⟨rfl,hi,p⟩;have q:=hl i σ H hi p;by_cases dU:i < xs.length
 ·refine .inr ⟨⟨xs,xs[i],q,by simp [dU]⟩,Pv (i + 1),fun bU H' p'=>⟨xs.length - (i + 1),by omega,rfl,dU,p'⟩,λx H' y=>?_⟩;obtain ⟨e,y⟩:=y;subst e;exact hs i x σ _ (y xs q) p
 ·have e:i=xs.length:=by omega
  subst e;exact .inl ⟨⟨xs,q,zE _⟩,hd σ H p⟩
theorem Su {K:PySem.W.Frag}{a:Addr}{xs:List V}{g:TG}{tb:TS}{D:Ends}{σ:St}{H:Hp}(Pv:Nat->St->Hp->Prop)(h0:Pv 0 σ H)(hl:∀ i σ H,i<=xs.length->Pv i σ H->bT K H a xs)
  (hs:∀ i x σ H,xs[i]?=some x->Pv i σ H->g x σ H fun lJ H2=>tb (D.lp (Pv (i + 1))) lJ H2) (hd:∀ σ H,Pv xs.length σ H->D.nx σ H) :
  ∃ W:Nat->Nat->St->Hp->Prop,(∃ m,W 0 m σ H)/\∀ i m σ H,W i m σ H ->
   ((SI K a).stop i H/\D.nx σ H)\/((SI K a).go i H/\∃ N:St->Hp->Prop,(∀ bU H',N bU H'->∃ m',m' < m/\W (i + 1) m' bU H')/\∀ x H',(SI K a).LL i H x H'->g x σ H' fun lJ H2=>tb (D.lp N) lJ H2):=by
 refine ⟨λi m σ H=>m=xs.length - i/\i<=xs.length/\Pv i σ H,⟨xs.length,by simp,zX _,h0⟩,?_⟩;rintro i m σ H ⟨rfl,hi,p⟩;have q:=hl i σ H hi p;by_cases dU:i < xs.length
 ·refine .inr ⟨⟨xs,xs[i],q,by simp [dU]⟩,Pv (i + 1),fun bU H' p'=>⟨xs.length - (i + 1),by omega,rfl,dU,p'⟩,λx H' y=>?_⟩;obtain ⟨e,y⟩:=y;subst e;exact hs i x σ _ (y xs q) p
 ·have e:i=xs.length:=by omega
  subst e;exact .inl ⟨⟨xs,q,zE _⟩,hd σ H p⟩
theorem cN {lo:Int}{n:Nat}{g:TG}{tb:TS}{D:Ends}{σ:St}{H:Hp}(Pv:Nat->St->Hp->Prop)(h0:Pv 0 σ H)
  (hs:∀ i σ H,i < n->Pv i σ H->g (.int (lo + i)) σ H fun lJ H2=>tb (D.lp (Pv (i + 1))) lJ H2) (hd:∀ σ H,Pv n σ H->D.nx σ H) :
  ∃ W:Nat->Nat->St->Hp->Prop,(∃ m,W 0 m σ H)/\∀ i m σ H,W i m σ H ->
   ((QC lo n).stop i H/\D.nx σ H)\/((QC lo n).go i H/\∃ N:St->Hp->Prop,(∀ bU H',N bU H'->∃ m',m' < m/\W (i + 1) m' bU H')/\∀ x H',(QC lo n).LL i H x H'->g x σ H' fun lJ H2=>tb (D.lp N) lJ H2):=by
 refine ⟨λi m σ H=>m=n - i/\i<=n/\Pv i σ H,⟨n,by simp,zX _,h0⟩,?_⟩;rintro i m σ H ⟨rfl,hi,p⟩;by_cases dU:i < n
 ·refine .inr ⟨dU,Pv (i + 1),fun bU H' p'=>⟨n - (i + 1),by omega,rfl,dU,p'⟩,λx H' y=>?_⟩;obtain ⟨e,y⟩:=y;subst e y;exact hs i σ _ dU p
 ·have e:i=n:=by omega
  subst e;exact .inl ⟨zE _,hd σ H p⟩
theorem su {c:TT}{tb:TS}{D:Ends}{σ:St}{H:Hp}(Pv:St->Hp->Prop)(μ:St->Hp->Nat)(h0:Pv σ H)
  (hs:∀ σ H,Pv σ H->c σ H λb H1=>if b=true then tb (D.lp fun bU H'=>Pv bU H'/\μ bU H' < μ σ H) σ H1 else D.nx σ H1)
  (mono:∀ σ H Q Q',(∀ b H1,Q b H1->Q' b H1)->c σ H Q->c σ H Q'):mL c tb D σ H:=by
 refine ⟨λm σ H=>m=μ σ H/\Pv σ H,⟨_,rfl,h0⟩,?_⟩;rintro m σ H ⟨rfl,p⟩;refine mono σ H _ _ (λb H1 q=>?_) (hs σ H p);cases b with
 | true=>exact ⟨_,fun bU H' ⟨p',l⟩=>⟨_,l,rfl,p'⟩,q⟩
 | false=>exact q
abbrev R2:=V->V->Hp->VK->Prop
def gw (X:Cx)(f:Value->Value->Sem Value)(r:R2):Prop:=
 ∀ (ai:List (Addr×Obj)) (s:Shared) (σ:St) (H:Hp) (x y:V) (v u:Value) (Q:VK),Inv X ai σ H s->RelV x v->RelV y u->r x y H Q ->
  wpAny (model X.prog X.w) X.A (f v u) (EP X ai σ Q) X.xe s
def UnR (X:Cx)(f:Value->Sem Value)(r:V->Hp->VK->Prop):Prop:=
 ∀ (ai:List (Addr×Obj)) (s:Shared) (σ:St) (H:Hp) (x:V) (v:Value) (Q:VK),Inv X ai σ H s->RelV x v->r x H Q ->
  wpAny (model X.prog X.w) X.A (f v) (EP X ai σ Q) X.xe s
def fj (X:Cx)(f:Value)(r:List V->Hp->VK->Prop):Prop:=
 ∀ (ai:List (Addr×Obj)) (s:Shared) (σ:St) (H:Hp) (xs:List V) (us:List Value) (Q:VK),Inv X ai σ H s->Vals xs us->r xs H Q ->
  wpAny (model X.prog X.w) X.A (call f us) (EP X ai σ Q) X.xe s
def acS (X:Cx)(r:V->Hp->(Bool->Hp->Prop)->Prop):Prop:=
 ∀ (ai:List (Addr×Obj)) (s:Shared) (σ:St) (H:Hp) (x:V) (v:Value) (Q:Bool->Hp->Prop),Inv X ai σ H s->RelV x v->r x H Q ->
  wpAny (model X.prog X.w) X.A (truthy v) (TP X ai σ Q) X.xe s
def Rg (r:R2)(ta tb:TE):TE:=fun σ H Q=>ta σ H λx H1=>tb σ H1 λy H2=>r x y H2 Q
def TF (r:V->Hp->VK->Prop)(ta:TE):TE:=fun σ H Q=>ta σ H λx H1=>r x H1 Q
def rI (C:Int->Int->Prop)(g:Int->Int->V):R2:=λx y H Q=>∃ i j,x=.int i/\y=.int j/\C i j/\Q (g i j) H
def LU (g:Int->Int->V):R2:=λx y H Q=>∃ i j,x=.int i/\y=.int j/\Q (g i j) H
def rU (g:Int->V):V->Hp->VK->Prop:=λx H Q=>∃ i,x=.int i/\Q (g i) H
section
variable {X:Cx}{a b c:Expr}{ta tb tc:TE}{pos:Pos}
theorem Vp (ha:PE X a ta)(hb:PE X b tb){ai:List (Addr×Obj)}{s:Shared}{σ:St}{H:Hp}{R:V->V->Hp->Prop}(I:Inv X ai σ H s)
  (h:ta σ H λx H1=>tb σ H1 λy H2=>R x y H2) {Q:Value->Shared->Prop}{f:Value->Value->Sem Value}
  (hf:∀ v u s2 x y H2,Inv X ai σ H2 s2->RelV x v->RelV y u->R x y H2->wpAny (model X.prog X.w) X.A (f v u) Q X.xe s2) :
  wpAny (model X.prog X.w) X.A (eval a X.env) (λv aS=>wpAny (model X.prog X.w) X.A (eval b X.env) (λu mP=>wpAny (model X.prog X.w) X.A (f v u) Q X.xe mP) X.xe aS) X.xe s:=by
 refine aZ (ha ai s σ H _ I h) λv s1 aac=>?_;obtain ⟨x,H1,I1,r1,q1⟩:=aac;refine aZ (hb ai s1 σ H1 _ I1 q1) λu s2 aab=>?_;obtain ⟨y,H2,I2,r2,q2⟩:=aab;exact hf v u s2 x y H2 I2 r1 r2 q2
theorem xz {op:Operator}{r:R2}(ho:gw X (binaryOp op) r)(ha:PE X a ta)(hb:PE X b tb):PE X (.BinOp a op b pos) (Rg r ta tb):=by intro ai s σ H Q I h;exact wpAny_BinOp (Vp ha hb I h λv u s2 x y H2 I2 rx ry q=>ho ai s2 σ H2 x y v u Q I2 rx ry q)
theorem L3 {op:UnaryOp}{r:V->Hp->VK->Prop}(ho:UnR X (unaryOp op) r)(ha:PE X a ta):PE X (.UnaryOp op a pos) (TF r ta):=by intro ai s σ H Q I h;exact UnaryOp_ (aZ (ha ai s σ H _ I h) λv s1 ⟨x,H1,I1,r1,q1⟩=>ho ai s1 σ H1 x v Q I1 r1 q1)
theorem WJ {f:Value->Value->Sem Value}{C:Int->Int->Prop}{g:Int->Int->Int}
  (rule:∀ (i j:Int) (t u:Tok) (s:Shared) (Q:Value->Shared->Prop) (E:Value->Shared->Prop),C i j->Q (.int (g i j) s.toks) { s with toks:=s.toks + 1 }->wpAny (model X.prog X.w) X.A (f (.int i t) (.int j u)) Q E s) :
  gw X f (rI C λi j=>.int (g i j)):=by
 intro ai s σ H x y v u Q I rx ry h;obtain ⟨i,j,rfl,rfl,hc,q⟩:=h;obtain ⟨t,rfl⟩:=rx;obtain ⟨t',rfl⟩:=ry;exact rule i j t t' s _ _ hc ⟨.int (g i j),H,I.tok _,⟨_,rfl⟩,q⟩
theorem RP {f:Value->Value->Sem Value}{g:Int->Int->Int}
  (rule:∀ (i j:Int) (t u:Tok) (s:Shared) (Q:Value->Shared->Prop) (E:Value->Shared->Prop),Q (.int (g i j) s.toks) { s with toks:=s.toks + 1 }->wpAny (model X.prog X.w) X.A (f (.int i t) (.int j u)) Q E s) :
  gw X f (LU λi j=>.int (g i j)):=by
 intro ai s σ H x y v u Q I rx ry h;obtain ⟨i,j,rfl,rfl,q⟩:=h;obtain ⟨t,rfl⟩:=rx;obtain ⟨t',rfl⟩:=ry;exact rule i j t t' s _ _ ⟨.int (g i j),H,I.tok _,⟨_,rfl⟩,q⟩
theorem RQ {f:Value->Value->Sem Value}{g:Int->Int->Bool}
  (rule:∀ (i j:Int) (t u:Tok) (s:Shared) (Q:Value->Shared->Prop) (E:Value->Shared->Prop),Q (.bool (g i j)) s->wpAny (model X.prog X.w) X.A (f (.int i t) (.int j u)) Q E s) :
  gw X f (LU λi j=>.bl (g i j)):=by
 intro ai s σ H x y v u Q I rx ry h;obtain ⟨i,j,rfl,rfl,q⟩:=h;obtain ⟨t,rfl⟩:=rx;obtain ⟨t',rfl⟩:=ry;exact rule i j t t' s _ _ ⟨.bl (g i j),H,I,rfl,q⟩
def LK (i j:Int):Prop:=0<=j/\j<=1000000/\i.natAbs < 2 ^ 64
def NX (i j:Int):Prop:=(-(2 ^ 64) < i/\i < 2 ^ 64)\/(-(2 ^ 64) < j/\j < 2 ^ 64)
theorem NX.ok {i j:Int}(h:NX i j):IntMulOk i j:=by
 rcases h with ⟨h1,h2⟩ | ⟨h1,h2⟩
 ·exact .of_left (intBits_le_64 h1 h2)
 ·exact .of_right (intBits_le_64 h1 h2)
theorem wJ:gw X (binaryOp .Add) (LU λi j=>.int (i + j)):=RP λ_ _ _ _ _ _ _ q=>add_int q
theorem cZ:gw X (binaryOp .Sub) (LU λi j=>.int (i - j)):=RP λ_ _ _ _ _ _ _ q=>sub_int q
theorem fB:gw X (binaryOp .Mult) (rI NX λi j=>.int (i * j)):=WJ λ_ _ _ _ _ _ _ hc q=>mul_int q hc.ok
theorem gP:gw X (binaryOp .Mod) (rI (λ_ j=>0 < j) λi j=>.int (i % j)):=WJ λi j _ _ _ _ _ hc q=>by
 have h1:(0:Int) < j:=hc;exact mod_int' (by omega) (by rw [Int.fmod_eq_emod_of_nonneg i (by omega)];exact q)
theorem iV:gw X (binaryOp .Pow) (rI LK λi j=>.int (i ^ j.toNat)):=WJ λ_ _ _ _ _ _ _ hc q=>pow_int_small hc.1 hc.2.1 hc.2.2 q
theorem Pa:gw X (binaryOp .LShift) (rI LK λi j=>.int (i * 2 ^ j.toNat)):=WJ λ_ _ _ _ _ _ _ hc q=>lshift_int_small hc.1 hc.2.1 hc.2.2 q
theorem Ph:gw X (binaryOp .BitAnd) (LU λi j=>.int (Builtin.bitAnd i j)):=RP λ_ _ _ _ _ _ _ q=>and_int q
theorem Ui:gw X (binaryOp .BitXor) (LU λi j=>.int (Builtin.bitXor i j)):=RP λ_ _ _ _ _ _ _ q=>xor_int q
theorem unI {f:Value->Sem Value}{g:Int->Int}
  (rule:∀ (i:Int) (t:Tok) (s:Shared) (Q:Value->Shared->Prop) (E:Value->Shared->Prop),Q (.int (g i) s.toks) { s with toks:=s.toks + 1 }->wpAny (model X.prog X.w) X.A (f (.int i t)) Q E s) :
  UnR X f (rU λi=>.int (g i)):=by
 intro ai s σ H x v Q I rx h;obtain ⟨i,rfl,q⟩:=h;obtain ⟨t,rfl⟩:=rx;exact rule i t s _ _ ⟨.int (g i),H,I.tok _,⟨_,rfl⟩,q⟩
theorem qo:UnR X (unaryOp .USub) (rU λi=>.int (-i)):=unI λ_ _ _ _ _ q=>neg_int q
end
def VF:V->Bool
 | .bV=>true | .int _=>true | .bl _=>true | .str _=>true | _=>false
def Wu:V->Bool
 | .bV=>true | .int _=>true | .str _=>true | _=>false
def Wv:V->Bool
 | .bV=>true | .bl _=>true | .str _=>true | _=>false
def scY:V->Bool
 | .vS _=>true | _=>false
def MY:V->V->Bool
 | .bV,y=>VF y | .int _,y=>Wu y | .bl _,y=>Wv y | .str _,y=>VF y | .vS _,y=>scY y | _,_=>false
def WG:R2:=λx y H Q=>MY x y=true/\Q (.bl (decide (x=y))) H
def WD:R2:=λx y H Q=>MY x y=true/\Q (.bl (!decide (x=y))) H
theorem Mw {i j:Int}:decide (V.int i=V.int j)=(i == j):=by rw [xT];simp
theorem Qm {i j:Bool}:decide (V.bl i=V.bl j)=(i == j):=by rw [xT];simp
theorem Mv {i j:Str}:decide (V.str i=V.str j)=(i == j):=by rw [xT];simp
theorem Mx {i j:Array UInt8}:decide (V.vS i=V.vS j)=(i.toList == j.toList):=by rw [xT];cases i;cases j;simp
section
variable {X:Cx}{a b c:Expr}{ta tb tc:TE}{pos:Pos}
theorem wP {ai:List (Addr×Obj)}{σ:St}{H:Hp}{s:Shared}{Q:VK}{k k':Bool}(I:Inv X ai σ H s)(q:Q (.bl k) H)(e:k=k'):EP X ai σ Q (.bool k') s:=by subst e;exact ⟨.bl k,H,I,rfl,q⟩
theorem qB:gw X (compareOp .Eq) WG:=by
 intro ai s σ H x y v u Q I rx ry h;obtain ⟨hs,q⟩:=h;cases x with
 | bV=>
  cases rx;cases y with
  | bV=>cases ry;exact PySem.EqNone.eq_none_none (wP I q (by simp))
  | bl j=>cases ry;exact PySem.EqNone.eq_none_bool (wP I q (by simp))
  | int j=>obtain ⟨t',rfl⟩:=ry;exact PySem.EqNone.eq_none_int (wP I q (by simp))
  | str j=>obtain ⟨t',rfl⟩:=ry;exact PySem.EqNone.eq_none_str (wP I q (by simp))
  | _=>exact absurd (show false=true from hs) zK
 | bl i=>
  cases rx;cases y with
  | bV=>cases ry;exact PySem.EqNone.eq_bool_none (wP I q (by simp))
  | bl j=>cases ry;exact eq_bool (wP I q Qm)
  | str j=>obtain ⟨t',rfl⟩:=ry;exact PySem.EqMixed.eq_bool_str (wP I q (by simp))
  | _=>exact absurd (show false=true from hs) zK
 | int i=>
  obtain ⟨t,rfl⟩:=rx;cases y with
  | bV=>cases ry;exact PySem.EqNone.eq_int_none (wP I q (by simp))
  | int j=>obtain ⟨t',rfl⟩:=ry;exact eq_int (wP I q Mw)
  | str j=>obtain ⟨t',rfl⟩:=ry;exact PySem.EqMixed.eq_int_str (wP I q (by simp))
  | _=>exact absurd (show false=true from hs) zK
 | str i=>
  obtain ⟨t,rfl⟩:=rx;cases y with
  | bV=>cases ry;exact PySem.EqNone.eq_str_none (wP I q (by simp))
  | bl j=>cases ry;exact PySem.EqMixed.eq_str_bool (wP I q (by simp))
  | int j=>obtain ⟨t',rfl⟩:=ry;exact PySem.EqMixed.eq_str_int (wP I q (by simp))
  | str j=>obtain ⟨t',rfl⟩:=ry;exact eq_str (wP I q Mv)
  | _=>exact absurd (show false=true from hs) zK
 | vS i=>
  obtain ⟨t,rfl⟩:=rx;cases y with
  | vS j=>obtain ⟨t',rfl⟩:=ry;exact PySem.W.eq_bytes (wP I q Mx)
  | _=>exact absurd (show false=true from hs) zK
 | _=>cases y <;> exact absurd (show false=true from hs) zK
theorem tD:gw X (compareOp .NotEq) WD:=by
 intro ai s σ H x y v u Q I rx ry h;obtain ⟨hs,q⟩:=h;cases x with
 | bV=>
  cases rx;cases y with
  | bV=>cases ry;exact PySem.EqNone.ne_none_none (wP I q (by simp))
  | bl j=>cases ry;exact PySem.EqNone.ne_none_bool (wP I q (by simp))
  | int j=>obtain ⟨t',rfl⟩:=ry;exact PySem.EqNone.ne_none_int (wP I q (by simp))
  | str j=>obtain ⟨t',rfl⟩:=ry;exact PySem.EqNone.ne_none_str (wP I q (by simp))
  | _=>exact absurd (show false=true from hs) zK
 | bl i=>
  cases rx;cases y with
  | bV=>cases ry;exact PySem.EqNone.ne_bool_none (wP I q (by simp))
  | bl j=>cases ry;exact ne_bool (wP I q (congrArg not Qm))
  | str j=>obtain ⟨t',rfl⟩:=ry;exact PySem.EqMixed.ne_bool_str (wP I q (by simp))
  | _=>exact absurd (show false=true from hs) zK
 | int i=>
  obtain ⟨t,rfl⟩:=rx;cases y with
  | bV=>cases ry;exact PySem.EqNone.ne_int_none (wP I q (by simp))
  | int j=>obtain ⟨t',rfl⟩:=ry;exact ne_int (wP I q (congrArg not Mw))
  | str j=>obtain ⟨t',rfl⟩:=ry;exact PySem.EqMixed.ne_int_str (wP I q (by simp))
  | _=>exact absurd (show false=true from hs) zK
 | str i=>
  obtain ⟨t,rfl⟩:=rx;cases y with
  | bV=>cases ry;exact PySem.EqNone.ne_str_none (wP I q (by simp))
  | bl j=>cases ry;exact PySem.EqMixed.ne_str_bool (wP I q (by simp))
  | int j=>obtain ⟨t',rfl⟩:=ry;exact PySem.EqMixed.ne_str_int (wP I q (by simp))
  | str j=>obtain ⟨t',rfl⟩:=ry;exact ne_str (wP I q (congrArg not Mv))
  | _=>exact absurd (show false=true from hs) zK
 | vS i=>
  obtain ⟨t,rfl⟩:=rx;cases y with
  | vS j=>obtain ⟨t',rfl⟩:=ry;exact PySem.W.ne_bytes (wP I q (congrArg not Mx))
  | _=>exact absurd (show false=true from hs) zK
 | _=>cases y <;> exact absurd (show false=true from hs) zK
theorem pV:gw X (compareOp .Lt) (LU λi j=>.bl (decide (i < j))):=RQ λ_ _ _ _ _ _ _ q=>lt_int q
theorem ji:gw X (compareOp .LtE) (LU λi j=>.bl (decide (i<=j))):=RQ λ_ _ _ _ _ _ _ q=>le_int q
theorem tE:gw X (compareOp .Gt) (LU λi j=>.bl (decide (j < i))):=RQ λ_ _ _ _ _ _ _ q=>gt_int q
theorem Pf:gw X (compareOp .GtE) (LU λi j=>.bl (decide (j<=i))):=RQ λ_ _ _ _ _ _ _ q=>ge_int q
theorem aE (b:Expr){op:CmpOp}(h:op≠.In:=by decide)(h2:op≠.NotIn:=by decide):behindInMarks op b=false:=by
 have e1:(op == CmpOp.In)=false:=by cases op <;> first | rfl | exact absurd rfl h
 have e2:(op == CmpOp.NotIn)=false:=by cases op <;> first | rfl | exact absurd rfl h2
 cases b <;> simp [behindInMarks,e1,e2]
theorem jg {op:CmpOp}{r:R2}(ho:gw X (compareOp op) r)(ha:PE X a ta)(hb:PE X b tb)(hm:behindInMarks op b=false):PE X (.Compare a [op] [b] pos) (Rg r ta tb):=by intro ai s σ H Q I h;exact wpAny_Compare1 (Vp ha hb I h λv u s2 x y H2 I2 rx ry q=>ho ai s2 σ H2 x y v u Q I2 rx ry q) hm
def pJ (t:TE):TT:=fun σ H Q=>t σ H λx H'=>∃ k,x=.bl k/\Q k H'
theorem xx {op:CmpOp}{r:R2}(ho:gw X (compareOp op) r)(ha:PE X a ta)(hb:PE X b tb)(hm:behindInMarks op b=false):PT X (.Compare a [op] [b] pos) (pJ (Rg r ta tb)):=by intro ai s σ H Q I h;refine wpAny_isTrue_Compare1 (aZ (ha ai s σ H _ I h) λv s1 aaa=>?_) hm;obtain ⟨x,H1,I1,r1,q1⟩:=aaa;refine aZ (hb ai s1 σ H1 _ I1 q1) λu s2 Z9=>?_;obtain ⟨y,H2,I2,r2,q2⟩:=Z9;refine aZ (ho ai s2 σ H2 x y v u _ I2 r1 r2 q2) λc s3 Z8=>?_;obtain ⟨z,H3,I3,r3,k,e,q3⟩:=Z8;subst e;cases r3;exact wpAny_truthy_bool ⟨H3,I3,q3⟩
def jR (r r':R2)(ta tb tc:TE):TE:=fun σ H Q=>ta σ H λx H1=>tb σ H1 λy H2=>r x y H2 λz H3=>∃ k,z=.bl k /\
 (if k=true then tc σ H3 λw' H4=>r' y w' H4 Q else Q (.bl false) H3)
theorem O4 {op Ul:CmpOp}{r r':R2}(ho:gw X (compareOp op) r)(rG:gw X (compareOp Ul) r')(ha:PE X a ta)(hb:PE X b tb)(hc:PE X c tc)
  (hm:lastMarks [op,Ul] [b,c]=false:=by with_unfolding_all rfl):PE X (.Compare a [op,Ul] [b,c] pos) (jR r r' ta tb tc):=by
 intro ai s σ H Q I h;refine Compare_chain (aZ (ha ai s σ H _ I h) λv s1 Z7=>?_) hm;obtain ⟨x,H1,I1,r1,q1⟩:=Z7;refine chain_link (aZ (hb ai s1 σ H1 _ I1 q1) λu s2 Z6=>?_);obtain ⟨y,H2,I2,r2,q2⟩:=Z6;refine aZ (ho ai s2 σ H2 x y v u _ I2 r1 r2 q2) λd s3 Z5=>?_;obtain ⟨z,H3,I3,r3,k,e,q3⟩:=Z5;subst e;cases r3;refine wpAny_truthy_bool ?_;cases k with
 | false=>exact ite_ff ⟨.bl false,H3,I3,rfl,q3⟩
 | true=>exact ite_tt (chain_last (aZ (hc ai s3 σ H3 _ I3 q3) λw' s4 ⟨z',H4,I4,r4,q4⟩=>rG ai s4 σ H4 y z' u w' Q I4 r2 r4 q4))
theorem OV {op Ul:CmpOp}{r r':R2}(ho:gw X (compareOp op) r)(rG:gw X (compareOp Ul) r')(ha:PE X a ta)(hb:PE X b tb)(hc:PE X c tc)
  (hm:lastMarks [op,Ul] [b,c]=false:=by with_unfolding_all rfl):PT X (.Compare a [op,Ul] [b,c] pos) (pJ (jR r r' ta tb tc)):=by
 intro ai s σ H Q I h;refine isTrue_chain (aZ (ha ai s σ H _ I h) λv s1 Z4=>?_) hm;obtain ⟨x,H1,I1,r1,q1⟩:=Z4;refine test_link (aZ (hb ai s1 σ H1 _ I1 q1) λu s2 Z3=>?_);obtain ⟨y,H2,I2,r2,q2⟩:=Z3;refine aZ (ho ai s2 σ H2 x y v u _ I2 r1 r2 q2) λd s3 Z2=>?_;obtain ⟨z,H3,I3,r3,k,e,q3⟩:=Z2;subst e;cases r3;refine wpAny_truthy_bool ?_;cases k with
 | false=>
  obtain ⟨k',e',q'⟩:=q3;cases e';exact ite_ff ⟨H3,I3,q'⟩
 | true=>
  refine ite_tt (test_last (aZ (hc ai s3 σ H3 _ I3 q3) λw' s4 Z1=>?_));obtain ⟨z',H4,I4,r4,q4⟩:=Z1;refine aZ (rG ai s4 σ H4 y z' u w' _ I4 r2 r4 q4) λd' s5 Z0=>?_;obtain ⟨z2,H5,I5,r5,k2,e2,q5⟩:=Z0;subst e2;cases r5;exact wpAny_truthy_bool ⟨H5,I5,q5⟩
def Yw (K:PySem.W.Frag)(x:V)(H:Hp)(k:Bool):Prop:=
 match x with
 | .bV=>k=false
 | .bl b=>k=b
 | .int i=>k=(i != 0)
 | .str y=>y.length<=sizeLine/\k=((y.length:Int) != 0)
 | .vS y=>y.size<=sizeLine/\k=((y.size:Int) != 0)
 | .ref p=>(∃ xs,aG K H p xs/\k=!xs.isEmpty)\/(∃ xs,bT K H p xs/\k=!xs.isEmpty)\/∃ kvs,H p=some (.dK kvs)/\k=!kvs.isEmpty
 | _=>False
theorem vB {κ:Type}{kvs:List (κ×V)}{vs:List (κ×Value)}(r:KV kvs vs):(!vs.isEmpty)=!kvs.isEmpty:=by cases r <;> rfl
theorem nK {xs:List V}{az:List Value}(r:Vals xs az):(!az.toArray.isEmpty)=!xs.isEmpty:=by cases r <;> simp
theorem j7:(sizeLine:Nat) < 2 ^ 63:=by rw [sizeLine_eq];decide
theorem Tq:acS X (λx H Q=>∃ k,Yw X.K x H k/\Q k H):=by
 intro ai s σ H x v Q I rx h;obtain ⟨k,e,q⟩:=h;have hl:=j7;have hs:sizeLine=16777216:=sizeLine_eq;cases x with
 | bV=>
  cases rx;have e':k=false:=e;subst e';exact truthy_none ⟨H,I,q⟩
 | bl b=>
  cases rx;have e':k=b:=e;subst e';exact wpAny_truthy_bool ⟨H,I,q⟩
 | int i=>
  obtain ⟨t,rfl⟩:=rx;have e':k=(i != 0):=e;subst e';exact PySem.P.truthy_int ⟨H,I,q⟩
 | str y=>
  obtain ⟨t,rfl⟩:=rx;obtain ⟨hy,e'⟩:y.length<=sizeLine/\k=((y.length:Int) != 0):=e;subst e';exact PySem.P.truthy_str (by omega) ⟨H,I.tok _,q⟩
 | vS y=>
  obtain ⟨t,rfl⟩:=rx;obtain ⟨hy,e'⟩:y.size<=sizeLine/\k=((y.size:Int) != 0):=e;subst e';exact PySem.W.truthy_bytes (by omega) ⟨H,I.tok _,q⟩
 | ref p=>
  cases rx;have e':(∃ xs,aG X.K H p xs/\k=!xs.isEmpty)\/(∃ xs,bT X.K H p xs/\k=!xs.isEmpty)\/∃ kvs,H p=some (.dK kvs)/\k=!kvs.isEmpty:=e;rcases e' with ⟨xs,hx,e'⟩ | ⟨xs,hx,e'⟩ | ⟨kvs,hx,e'⟩
  ·subst e';obtain ⟨az,r,pl,hz⟩:=I.list hx;have hlen:=r.length;exact wpAny_truthy_list pl.isList (by simp only [zM];omega) ⟨H,I.tok _,by rw [nK r];exact q⟩
  ·subst e';obtain ⟨az,r,pl,hz⟩:=I.tuple hx;have hlen:=r.length;exact truthy_tuple pl (by simp only [zM];omega) ⟨H,I.tok _,by rw [nK r];exact q⟩
  ·subst e';obtain ⟨hz,hS,vs,r,m⟩:kvs.length<=sizeLine/\(p == sysModules)=false/\∃ vs,KV kvs vs/\s.heap.DictOf (aW X.prog X.w) p vs:=I.aR p _ hx;have hlen:kvs.length=vs.length:=Paired.length r;exact wpAny_truthy_dict hS m (by omega) ⟨H,I.tok _,by rw [vB r];exact q⟩
 | _=>exact (show False from e).elim
theorem sZ (ha:PE X a ta)(he:∀ whole,isTrue a X.env whole=(do let v <- whole;standAt a.pos;holding [v] (truthy v))) :
  PT X a (fun σ H Q=>ta σ H λx H'=>∃ k,Yw X.K x H' k/\Q k H'):=by
 intro ai s σ H Q I h;exact isTrue_plain (aZ (ha ai s σ H _ I h) λv s1 ⟨x,H1,I1,r1,q1⟩=>Tq ai s1 σ H1 x v Q I1 r1 q1) (he _)
theorem vals1 {x:V}{us:List Value}(r:Vals [x] us):∃ u,us=[u]/\RelV x u:=by
 cases r with
 | cons r1 r2=>cases r2;exact ⟨_,rfl,r1⟩
theorem vals2 {x y:V}{us:List Value}(r:Vals [x,y] us):∃ u w',us=[u,w']/\RelV x u/\RelV y w':=by
 cases r with
 | cons r1 r2=>
  cases r2 with
  | cons r3 r4=>cases r4;exact ⟨_,_,rfl,r1,r3⟩
theorem kI (hc:X.calm=true):fj X (.builtin "max") (λxs H Q=>∃ i j,xs=[.int i,.int j]/\Q (.int (if j > i then j else i)) H):=by
 intro ai s σ H xs us Q I r h;obtain ⟨i,j,rfl,q⟩:=h;obtain ⟨u,w',rfl,⟨t,rfl⟩,⟨t',rfl⟩⟩:=vals2 r;refine max_two_ints (I.ok.hd hc) λh' tk k=>⟨_,H,I.kept k,?_,q⟩;by_cases hj:j > i
 ·rw [if_pos hj,if_pos hj];exact ⟨_,rfl⟩
 ·rw [if_neg hj,if_neg hj];exact ⟨_,rfl⟩
theorem ir (hc:X.calm=true):fj X (.builtin "min") (λxs H Q=>∃ i j,xs=[.int i,.int j]/\Q (.int (if j < i then j else i)) H):=by
 intro ai s σ H xs us Q I r h;obtain ⟨i,j,rfl,q⟩:=h;obtain ⟨u,w',rfl,⟨t,rfl⟩,⟨t',rfl⟩⟩:=vals2 r;refine min_two_ints (I.ok.hd hc) λh' tk k=>⟨_,H,I.kept k,?_,q⟩;by_cases hj:j < i
 ·rw [if_pos hj,if_pos hj];exact ⟨_,rfl⟩
 ·rw [if_neg hj,if_neg hj];exact ⟨_,rfl⟩
end
structure LI (h:Heap) (x dx C:Addr) (mA:Str->Option Value):Prop where
 obj:h.get? x=some (yd C dx)
 ns:h.Ns1 dx mA
 ne:dx≠x
theorem Nk {h:Heap}{dx:Addr}{mA:Str->Option Value}(n:h.Ns1 dx mA):∃ od,h.get? dx=some od/\∀ name,PySem.W.lookIn name od=some (mA name):=by
 obtain ⟨o,es,ep,ho,hd,hk,_,hm⟩:=n;refine ⟨o,ho,λname=>?_⟩;have e:=hm name;unfold nsFind findBy at e;rw [<-Array.find?_toList] at e;unfold PySem.W.lookIn;rw [hd];dsimp only;split
 ·rename_i y q;rw [q] at e;exact congrArg some e
 ·rename_i q;rw [q] at e;have a:es.toList.any (·.refKey)=false:=by
   rw [List.any_eq_false];intro y hy;obtain ⟨z,t,ab7⟩:=hk y (Array.mem_toList_iff.mp hy);simp [DictEntry.refKey,ab7]
  have a':¬ es.toList.any (·.refKey)=true:=by rw [a];exact zK
  rw [if_neg a'];exact congrArg some e
theorem LI.look {h:Heap}{x dx C:Addr}{mA:Str->Option Value}(I:LI h x dx C mA):∃ od,PySem.W.InstAt h x (yd C dx) C (some od)/\∀ name,PySem.W.lookIn name od=some (mA name):=
 let ⟨od,ho,hl⟩:=Nk I.ns
 ⟨od,⟨I.obj,rfl,rfl,ho⟩,hl⟩
section
variable {prog:Program}{w:World}{A:Around}{E:Value->Shared->Prop}{s:Shared}{K:PySem.W.Frag}{x dx C f:Addr}{mA:Str->Option Value}{name:Str}{v:Value}
theorem get_map {expr:Bool}{Q:Value->Shared->Prop}(X:K.In s.heap)(I:LI s.heap x dx C mA)(hg:xM K C name=true)(hh:PySem.W.hasDictIn K C=true)
  (ha:zP K (.ref C) name=some none) (hv:mA name=some v) (Sf:PySem.W.handedIn v=true) (h:Q v { s with toks:=s.toks + 1 }) :
  wpAny (model prog w) A (getAttr (.ref x) name expr) Q E s:=by
 obtain ⟨od,J,hl⟩:=I.look;exact PySem.W.get_value X J (PySem.W.plainGet_of hg).1 (PySem.W.findObj_own hh ha rfl (by rw [hl,hv])) Sf h
theorem P8 {pl:Sem Bool}{Q:Value×List Value->Shared->Prop}(X:K.In s.heap)(I:LI s.heap x dx C mA)(hg:xM K C name=true)
  (hf:zP K (.ref C) name=some (some (.ref f))) (ht:yF K (.ref f)=true) (hv:mA name=none) (h:Q (.ref f,[.ref x]) s) :
  wpAny (model prog w) A (getMethod (.ref x) name pl) Q E s:=by
 obtain ⟨od,J,hl⟩:=I.look;exact PySem.W.method_fn X J (PySem.W.plainGet_of hg).1 (PySem.W.plainGet_of hg).2 hf (beq_iff_eq.mp ht) (by show (PySem.W.lookIn name od).map (·.isSome)=some false;rw [hl,hv];rfl) h
theorem Rx {ns:List Str}{Q:Unit->Shared->Prop}(X:K.In s.heap)(I:LI s.heap x dx C mA)
  (hs:zP K (.ref C) "__setattr__" = some (some (.builtin "object.__setattr__"))) (hp:PySem.W.plainOver K C=true) (ht:PySem.W.takerIn K C name=some none) (hh:PySem.W.hasDictIn K C=true)
  (hw:PySem.Within mA ns) (hsz:ns.length<=sizeLine)
  (h:∀ h',LI h' x dx C (λy=>if y=name then some v else mA y)->Heap.SameBut dx s.heap h'->Q () { s with heap:=h',toks:=s.toks + 2 }) :
  wpAny (model prog w) A (setAttr (.ref x) name v) Q E s:=by
 obtain ⟨od,J,hl⟩:=I.look;refine PySem.W.set_plain X J hs (PySem.W.osa_open (s:={ s with toks:=s.toks + 1 }) (r:=none) X J hp ht λb=>?_);obtain ⟨cd,hc,NC⟩:=PySem.W.any_some hh;have hx:s.heap.get? x=some ⟨.ref C,some dx,.plain,#[]⟩:=I.obj;refine wpAny_bind (wpAny_pure (wpAny_bind (wpAny_bind (wpAny_loadPart hx (wpAny_bind (PySem.W.Looks.here (s:={ s with toks:=s.toks + 1 }) (PySem.W.looks_clsIn X hc) ?_))))));rw [NC];refine wpAny_pure (a:=some dx) (wpAny_bind (wpAny_pure (wpAny_bind ?_)));refine wpAny_nsSet1 (s:={ s with toks:=s.toks + 1 }) I.ns λh' Ze N3=>?_;obtain ⟨oD,esD,epD,hoD,hdD,hcD⟩:=Ze.count (PySem.Within.cons name v hw);refine wpAny_bind (wpAny_lookBehind hoD (by rw [hdD];exact pastItsLine_dict (zi hcD (by rw [zR];omega))) ?_);exact wpAny_pure (h _ ⟨(N3.2 _ (Ne.symm I.ne)).trans I.obj,Ze,I.ne⟩ N3)
theorem Py {R:Result->Shared->Prop}{vs:List Value}{kw:List (Str×Value)}(X:K.In s.heap)(hm:PySem.W.makesIn K C=true)
  (hi:zP K (.ref C) "__init__" = some (some (.ref f))) (hf:PySem.W.typeIn K (.ref f)=some (.type "function"))
  (h:codeAny (model prog w) (A.under (.builtin "type.__call__" ⟨.ref C::vs,kw⟩)) (.call (.ref f) ⟨.ref (s.heap.objs.size + 1)::vs,kw⟩) (PySem.W.InitBack (s.heap.objs.size + 1) R)
   { s with heap:=(s.heap.push yP).push (yd C s.heap.objs.size) }) :
  codeAny (model prog w) A (.call (.ref C) ⟨vs,kw⟩) R s:=by
 obtain ⟨hh,g,d,t,os⟩:=s;exact PySem.W.make_core (PySem.W.makes_of X hm) (PySem.W.looks_findIn X hi) (λself=>PySem.W.bind_fn X self hf) (.inl rfl) h
end
def bQ (f:Str)(v:V):List (Str×V)->List (Str×V)
 | []=>[(f,v)]
 | (g,x)::r=>if g=f then (g,v)::r else (g,x)::bQ f v r
theorem kW (f g:Str)(v:V):∀ fs:List (Str×V),(bQ f v fs).lookup g=if g=f then some v else fs.lookup g
 | []=>by
  show xA g [(f,v)]=_;by_cases h:g=f
  ·have hb:(g == f)=true:=beq_iff_eq.mpr h;simp only [xA,hb,if_pos h]
  ·have hb:(g == f)=false:=beq_eq_false_iff_ne.mpr h;simp only [xA,hb,if_neg h]
 | (k,x)::r=>by
  have ih:=kW f g v r;rw [show bQ f v ((k,x)::r)=(if k=f then (k,v)::r else (k,x)::bQ f v r) from rfl];by_cases hk:k=f
  ·rw [if_pos hk];by_cases h:g=k
   ·have hb:(g == k)=true:=beq_iff_eq.mpr h;simp only [xA,hb,if_pos (h.trans hk)]
   ·have hb:(g == k)=false:=beq_eq_false_iff_ne.mpr h;simp only [xA,hb,if_neg (λe:g=f=>h (e.trans hk.symm))]
  ·rw [if_neg hk];by_cases h:g=k
   ·have hb:(g == k)=true:=beq_iff_eq.mpr h;simp only [xA,hb,if_neg (λe:g=f=>hk (h.symm.trans e))]
   ·have hb:(g == k)=false:=beq_eq_false_iff_ne.mpr h;simp only [xA,hb];exact ih
theorem ki (f:Str)(v:V):∀ fs:List (Str×V),f∈(bQ f v fs).map (·.1)/\∀ g,g∈fs.map (·.1)->g∈(bQ f v fs).map (·.1)
 | []=>⟨by simp [bQ],λg h=>by simp at h⟩
 | (k,x)::r=>by
  obtain ⟨i1,i2⟩:=ki f v r;rw [show bQ f v ((k,x)::r)=(if k=f then (k,v)::r else (k,x)::bQ f v r) from rfl];by_cases hk:k=f
  ·rw [if_pos hk];subst hk;exact ⟨by simp,λg h=>by simpa using h⟩
  ·rw [if_neg hk];refine ⟨?_,λg h=>?_⟩
   ·rw [zZ];exact zp _ i1
   ·rw [zZ] at h ⊢;rcases zN.mp h with e | e
    ·exact zN.mpr (.inl e)
    ·exact zp _ (i2 g e)
theorem kY (f:Str)(v:V):∀ fs:List (Str×V),(bQ f v fs).length<=fs.length + 1
 | []=>by simp [bQ]
 | (k,x)::r=>by
  have ih:=kY f v r;rw [show bQ f v ((k,x)::r)=(if k=f then (k,v)::r else (k,x)::bQ f v r) from rfl];by_cases hk:k=f
  ·rw [if_pos hk,zR,zR];omega
  ·rw [if_neg hk,zR,zR];omega
theorem gm.some_of {v:V}{o:Option Value}(r:gm (some v) o):∃ u,o=some u/\RelV v u:=by
 cases o with
 | none=>exact (show False from r).elim
 | some u=>exact ⟨u,rfl,r⟩
theorem gm.none_of {o:Option Value}(r:gm none o):o=none:=by
 cases o with
 | none=>rfl
 | some u=>exact (show False from r).elim
theorem ND {v:V}{u:Value}(r:RelV v u):PySem.W.handedIn u=true:=by
 cases v with
 | bV=>cases (show u=Value.none from r);rfl
 | bl b=>cases (show u=Value.bool b from r);rfl
 | int i=>obtain ⟨t,e⟩:=(show ∃ t,u=Value.int i t from r);cases e;rfl
 | str x=>obtain ⟨t,e⟩:=(show ∃ t,u=Value.str x t from r);cases e;rfl
 | vS b=>obtain ⟨t,e⟩:=(show ∃ t,u=Value.bytes b t from r);cases e;rfl
 | N6 b=>obtain ⟨t,e⟩:=(show ∃ t,u=Value.float b t from r);cases e;rfl
 | ref a=>cases (show u=Value.ref a from r);rfl
 | ty n=>cases (show u=Value.type n from r);rfl
section
variable {P:Program}{w:World}{H H':Hp}{h h':Heap}{a C dx:Addr}{fs fs':List (Str×V)}
theorem mq (aR:gZ P w H h)(e:H a=some (.ins C dx fs)):∃ mA,LI h a dx C mA/\(∀ f,gm (fs.lookup f) (mA f))/\PySem.Within mA (fs.map (·.1))/\fs.length<=1000/\H dx=some (.own a):=by obtain ⟨d,z,ne,ob,mA,n,r,q⟩:=(show bu P w H h a (.ins C dx fs) from aR a _ e);exact ⟨mA,⟨ob,n,ne⟩,r,q,z,d⟩
end
structure QF (K:PySem.W.Frag) (C:Addr):Prop where
 pg:xM K C Str.empty=true
 hd:PySem.W.hasDictIn K C=true
 po:PySem.W.plainOver K C=true
 sa:zP K (.ref C) "__setattr__" = some (some (.builtin "object.__setattr__"))
theorem QF.get {K:PySem.W.Frag}{C:Addr}(c:QF K C)(f:Str):xM K C f=true:=c.pg
def cQ (K:PySem.W.Frag)(C:Addr)(f:Str):Prop:=zP K (.ref C) f=some none
theorem cQ.V7 {K:PySem.W.Frag}{C:Addr}{f:Str}(n:cQ K C f):PySem.W.takerIn K C f=some none:=by unfold PySem.W.takerIn;rw [show zP K (.ref C) f=some none from n];rfl
structure Meth (K:PySem.W.Frag) (C:Addr) (m:Str) (f:Addr):Prop where
 at_:zP K (.ref C) m=some (some (.ref f))
 fn:yF K (.ref f)=true
 kp:zj K (.ref f)=true
section
variable {X:Cx}{ai:List (Addr×Obj)}{σ:St}{H:Hp}{s:Shared}{a C dx:Addr}{fs:List (Str×V)}{f:Str}{v:V}{A:Around}{E:Value->Shared->Prop}
theorem vH {b:Bool}{Q:Value->Shared->Prop}(I:Inv X ai σ H s)(e:H a=some (.ins C dx fs))(c:QF X.K C)(n:cQ X.K C f)(l:fs.lookup f=some v)
  (h:∀ u s',Inv X ai σ H s'->RelV v u->Q u s'):wpAny (model X.prog X.w) A (getAttr (.ref a) f b) Q E s:=by
 obtain ⟨mA,O,r,_,_,_⟩:=mq I.aR e;obtain ⟨u,hu,ru⟩:=gm.some_of (v:=v) (o:=mA f) (by rw [<-l];exact r f);exact get_map I.kZ O (c.get f) c.hd n hu (ND ru) (h u _ (I.tok _) ru)
theorem nN {m:Str}{g:Addr}{pl:Sem Bool}{Q:Value×List Value->Shared->Prop}(I:Inv X ai σ H s)(e:H a=some (.ins C dx fs))(c:QF X.K C)(k:Meth X.K C m g)(l:fs.lookup m=none)
  (h:Q (.ref g,[.ref a]) s):wpAny (model X.prog X.w) A (getMethod (.ref a) m pl) Q E s:=by
 obtain ⟨mA,O,r,_,_,_⟩:=mq I.aR e;have hn:mA m=none:=gm.none_of (by rw [<-l];exact r m);exact P8 I.kZ O (c.get m) k.at_ k.fn hn h
theorem u5 {y:V}{u:Value}{Q:Unit->Shared->Prop}(I:Inv X ai σ H s)(e:H a=some (.ins C dx fs))(c:QF X.K C)(n:cQ X.K C f)(hl:fs.length < 1000)(ry:RelV y u)
  (h:∀ s',Inv X ai σ (upd H a (.ins C dx (bQ f y fs))) s'->Q () s'):wpAny (model X.prog X.w) A (setAttr (.ref a) f u) Q E s:=by
 obtain ⟨mA,O,r,wi,_,ho⟩:=mq I.aR e;have hz:(fs.map (·.1)).length<=sizeLine:=by rw [zA,sizeLine_eq];omega
 refine Rx I.kZ O c.sa c.po n.V7 c.hd wi hz λh' O' sb=>h _ ?_;have hd:∃ o,h'.get? dx=some o:=let ⟨o,_,_,e',_⟩:=O'.ns;⟨o,e'⟩;refine I.write (x:=a) (e:=dx) (by rw [e];exact True.intro) (.inr ho) (λb q hb z=>(sb.2 b hb).trans z) hd ?_;refine ⟨by rw [xl O.ne];exact ho,?_,O.ne,O'.obj,_,O'.ns,λg=>?_,λg hg=>?_⟩
 ·have:=kY f y fs;omega
 ·show gm ((bQ f y fs).lookup g) (if g=f then some u else mA g);rw [kW];by_cases q:g=f
  ·rw [if_pos q,if_pos q];exact ry
  ·rw [if_neg q,if_neg q];exact r g
 ·by_cases q:g=f
  ·rw [q];exact (ki f y fs).1
  ·refine (ki f y fs).2 g (wi g λz=>hg ?_);show (if g=f then some u else mA g)=none;rw [if_neg q];exact z
theorem Inv.made (I:Inv X ai σ H s):Inv X ai σ (upd (upd H s.heap.objs.size (.own (s.heap.objs.size + 1))) (s.heap.objs.size + 1) (.ins C s.heap.objs.size []))
  { s with heap:=(s.heap.push yP).push (yd C s.heap.objs.size) }:=by
 have e1:(s.heap.push yP).get? s.heap.objs.size=some yP:=Heap.get?_push_size s.heap rfl;have e2:((s.heap.push yP).push (yd C s.heap.objs.size)).get? (s.heap.objs.size + 1)=some (yd C s.heap.objs.size):=by
  have:=Heap.get?_push_size (s.heap.push yP) (o:=yd C s.heap.objs.size) rfl;rwa [Heap.size_push] at this
 have e3:(s.heap.push yP).Ns s.heap.objs.size (λ_=>none):=⟨yP,#[],_,e1,rfl,(λe he=>absurd he (by simp)),λ_=>rfl⟩;have I1:=I.laid (a:=s.heap.objs.size) (o:=.own (s.heap.objs.size + 1)) (h':=s.heap.push yP) (t':=s.toks) (λb u q=>Heap.get?_push_of_some _ q) (zE _) ⟨_,e1⟩;refine I1.laid (a:=s.heap.objs.size + 1) (o:=.ins C s.heap.objs.size []) (t':=s.toks) (λb u q=>Heap.get?_push_of_some _ q) (Nat.le_of_eq (Heap.size_push _ _)) ?_;have ne:s.heap.objs.size≠s.heap.objs.size + 1:=za (yu _);refine ⟨by rw [xl ne,xa],zX _,ne,e2,λ_=>none,(Heap.Ns1.of_empty e3).at λo q=>Heap.get?_push_of_some _ q,λ_=>True.intro,λy hy=>absurd rfl hy⟩
theorem SA {prog:Program}{w:World}{env:Env}{e:Expr}{f:Str}{pos:Pos}{s:Shared}{Q:Value->Shared->Prop}(hb:attributeBase e f env (eval e env)=eval e env)
  (h:wpAny (model prog w) A (eval e env) (λo aS=>wpAny (model prog w) A (getAttr o f true) Q E aS) E s):wpAny (model prog w) A (eval (.Attribute e f pos) env) Q E s:=
 Attribute_any_ h (by rw [arm_eval_Attribute,hb])
end
def aaR (K:PySem.W.Frag)(ta:TE)(f:Str):TE:=fun σ H Q=>ta σ H λx H1=>∃ a C dx fs v,x=.ref a/\H1 a=some (.ins C dx fs)/\QF K C/\cQ K C f/\fs.lookup f=some v/\Q v H1
def aaX (K:PySem.W.Frag)(ta tv:TE)(f:Str):TS:=λD σ H=>tv σ H λy H1=>ta σ H1 λx H2=>∃ a C dx fs,x=.ref a/\H2 a=some (.ins C dx fs)/\QF K C/\cQ K C f/\fs.length < 1000 /\
 D.nx σ (upd H2 a (.ins C dx (bQ f y fs)))
section
variable {X:Cx}{o e value:Expr}{f:Str}{pos pos' Rb:Pos}{ta tv:TE}
theorem wT (he:PE X e ta)(hb:attributeBase e f X.env (eval e X.env)=eval e X.env):PE X (.Attribute e f pos) (aaR X.K ta f):=by intro ai s σ H Q I h;refine SA hb (aZ (he ai s σ H _ I h) λu s1 ZZ=>?_);obtain ⟨x,H1,I1,rx,a,C,dx,fs,v,ex,ea,c,n,l,q⟩:=ZZ;subst ex;obtain rfl:u=Value.ref a:=rx;exact vH I1 ea c n l λu' s2 I2 ru=>⟨v,H1,I2,ru,q⟩
theorem gH (ha:PE X o ta)(hv:PE X value tv)(hs:swapsWith value (some (.Attribute o f pos')) pos.line X.env=pure false):PS X (.Assign [.Attribute o f pos'] value pos) (aaX X.K ta tv f):=by intro ai s σ H D I h;refine plainObj_wpAny_Assign_Attribute (aZ (hv ai s σ H _ I h) λu s1 ZY=>?_) hs;obtain ⟨y,H1,I1,ry,q⟩:=ZY;refine aZ (ha ai s1 σ H1 _ I1 q) λov s2 ZX=>?_;obtain ⟨x,H2,I2,rx,a,C,dx,fs,ex,ea,c,n,l,q2⟩:=ZX;subst ex;obtain rfl:ov=Value.ref a:=rx;exact u5 I2 ea c n l ry λs3 I3=>⟨σ,_,I3,q2⟩
end
section
variable {X:Cx}{ai:List (Addr×Obj)}{σ:St}{H:Hp}{s:Shared}{A:Around}{E:Value->Shared->Prop}{Q:Value->Shared->Prop}{c:Value}{b:Bool}
inductive kN (K:PySem.W.Frag) (H:Hp):V->Value->Prop where
 | bV:kN K H .bV (.type "NoneType")
 | bl (x:Bool):kN K H (.bl x) (.type "bool")
 | int (i:Int):kN K H (.int i) (.type "int")
 | str (x:Str):kN K H (.str x) (.type "str")
 | N6 (x:UInt64):kN K H (.N6 x) (.type "float")
 | lst {a:Addr}{xs:List V} (e:H a=some (.lst xs)):kN K H (.ref a) (.type "list")
 | o4 {a:Addr}{o:Obj}{xs:List V} (e:H a=some (.o4 o (.lst xs))):kN K H (.ref a) (.type "list")
 | tup {a:Addr}{xs:List V} (e:H a=some (.tup xs)):kN K H (.ref a) (.type "tuple")
 | dK {a:Addr}{kvs:List (Key×V)} (e:H a=some (.dK kvs)):kN K H (.ref a) (.type "dict")
 | dT {a:Addr}{kvs:List (List Key×V)} (e:H a=some (.dT kvs)):kN K H (.ref a) (.type "dict")
 | ins {a C dx:Addr}{fs:List (Str×V)} (e:H a=some (.ins C dx fs)) (cl:QF K C) (ha:zP K (.ref C) "__class__" = some (some (.builtin "object.__class__")))
   (hn:PySem.W.specialIn K (.builtin "object.__class__") "__get__" = some (some (.builtin "getset_descriptor.__get__"))) (Zd:PySem.W.takesIn K (.builtin "object.__class__")=some true)
   (hm:xZ K C (.type "object")=some true):kN K H (.ref a) (.ref C)
theorem Nu {x:V}{u t:Value}(I:Inv X ai σ H s)(rx:RelV x u)(ty:kN X.K H x t)(e:PySem.W.kitOne X.K t c=some b)(h:∀ tk,Q (.bool b) { s with toks:=tk }) :
  wpAny (model X.prog X.w) A (call (.builtin "isinstance") [u,c]) Q E s:=by
 cases ty with
 | bV=>cases (show u=Value.none from rx);exact yH PySem.W.kitx_none I.kZ True.intro e (λz=>nomatch z) h
 | bl y=>cases (show u=Value.bool y from rx);exact yH PySem.W.kitx_bool I.kZ True.intro e (λz=>nomatch z) h
 | int i=>obtain ⟨t,q⟩:=(show ∃ t,u=Value.int i t from rx);cases q;exact yH PySem.W.kitx_int I.kZ True.intro e (λz=>nomatch z) h
 | str y=>obtain ⟨t,q⟩:=(show ∃ t,u=Value.str y t from rx);cases q;exact yH PySem.W.kitx_str I.kZ True.intro e (λz=>nomatch z) h
 | N6 y=>obtain ⟨t,q⟩:=(show ∃ t,u=Value.float y t from rx);cases q;exact yH PySem.W.kitx_float I.kZ True.intro e (λz=>nomatch z) h
 | @lst a xs ea=>
  cases (show u=Value.ref a from rx);obtain ⟨_,_,n,_,h1⟩:=(show bu X.prog X.w H s.heap a (.lst xs) from I.aR a _ ea);exact yH PySem.W.kitx_list I.kZ ⟨_,h1,rfl⟩ e (λz=>nomatch z) h
 | @o4 a ob xs ea=>
  cases (show u=Value.ref a from rx);obtain ⟨_,_,_,n,_,h1⟩:=(show bu X.prog X.w H s.heap a (.o4 ob (.lst xs)) from I.aR a _ ea);exact yH PySem.W.kitx_list I.kZ ⟨_,h1,rfl⟩ e (λz=>nomatch z) h
 | @tup a xs ea=>
  cases (show u=Value.ref a from rx);obtain ⟨_,_,_,p⟩:=(show bu X.prog X.w H s.heap a (.tup xs) from I.aR a _ ea);obtain ⟨o,h1,h2,_⟩:=p;exact yH PySem.W.kitx_tuple I.kZ ⟨o,h1,h2⟩ e (λz=>nomatch z) h
 | @dK a kvs ea=>
  cases (show u=Value.ref a from rx);obtain ⟨_,_,vs,_,p⟩:=(show bu X.prog X.w H s.heap a (.dK kvs) from I.aR a _ ea);obtain ⟨o,es,ep,h1,h2,_⟩:=p;exact yH PySem.W.kitx_dict I.kZ ⟨o,h1,h2.1⟩ e (λz=>nomatch z) h
 | @dT a kvs ea=>
  cases (show u=Value.ref a from rx);obtain ⟨_,_,xs,_,o,es,ep,h1,h2,_⟩:=(show bu X.prog X.w H s.heap a (.dT kvs) from I.aR a _ ea);exact yH PySem.W.kitx_dict I.kZ ⟨o,h1,h2.1⟩ e (λz=>nomatch z) h
 | @ins a C dx fs ea cl ha hn Zd hm=>
  cases (show u=Value.ref a from rx);obtain ⟨mA,O,_⟩:=mq I.aR ea;obtain ⟨od,J,_⟩:=O.look;exact yH (PySem.W.kitx_own (cl.get _) cl.hd ha hn Zd hm) I.kZ J e (λz=>nomatch z) h
end
structure cB (k:Nat) (A:Around):Prop where
 hd:A.handled=none
 dp:A.depth + 3 * k + 5 < recursionLimit
 un:A.units + 16 * k + 200 < cLine
 gd:A.guards=some []
theorem cB.mono {j k:Nat}{A:Around}(r:cB k A)(h:j<=k):cB j A:=⟨r.hd,by have:=r.dp;omega,by have:=r.un;omega,r.gd⟩
theorem cB.deeper {k:Nat}{A:Around}(r:cB (k + 1) A)(env:Env):cB k (A.deeper env):=
 ⟨r.hd,by have:=r.dp;show A.depth + 1 + 3 * k + 5 < _;omega,by have:=r.un;show A.units + 3 + 16 * k + 200 < _;omega,r.gd⟩
theorem cB.in1 {k:Nat}{A:Around}(r:cB (k + 1) A):cB k A.in1:=
 ⟨r.hd,by have:=r.dp;show A.depth + 3 * k + 5 < _;omega,by have:=r.un;show A.units + 1 + 16 * k + 200 < _;omega,r.gd⟩
theorem vq {A:Around}{C:Addr}{us:List Value}{kw:List (Str×Value)}:(A.under (.builtin "type.__call__" ⟨.ref C::us,kw⟩)).depth=A.depth + 1:=by first | rfl | simp [Around.under,Code.weight,Code.isCreation,Code.isGuard,Code.isCaller,Code.frames,Code.isFrame,guardIds]
theorem vp {A:Around}{C:Addr}{us:List Value}{kw:List (Str×Value)}:(A.under (.builtin "type.__call__" ⟨.ref C::us,kw⟩)).units=A.units + 1:=by first | rfl | simp [Around.under,Code.cUnits,Code.frames,Code.isFrame]
theorem tN {A:Around}{C:Addr}{us:List Value}{kw:List (Str×Value)}:(A.under (.builtin "type.__call__" ⟨.ref C::us,kw⟩)).guards=A.guards:=by
 have h:(Code.builtin "type.__call__" ⟨.ref C::us,kw⟩).isGuard=false:=by show guardIds.contains "type.__call__" = false;decide +kernel
 simp [Around.under,Code.guards,h,pushGuards]
theorem cB.make {k:Nat}{A:Around}(r:cB (k + 1) A)(C:Addr)(us:List Value)(kw:List (Str×Value)):cB k (A.under (.builtin "type.__call__" ⟨.ref C::us,kw⟩)):=
 ⟨r.hd,by have:=r.dp;rw [vq];omega,by have:=r.un;rw [vp];omega,tN.trans r.gd⟩
theorem cB.depth {k:Nat}{A:Around}(r:cB k A):A.depth < recursionLimit:=by have:=r.dp;omega
theorem cB.units {k:Nat}{A:Around}(r:cB k A):A.units + 64 < cLine:=by have:=r.un;omega
def sO:TA:=λ_ H Q=>Q [] H
def mO (ta:TE)(tr:TA):TA:=fun σ H Q=>ta σ H λx H1=>tr σ H1 λxs H2=>Q (x::xs) H2
section
variable {X:Cx}{e:Expr}{es:List Expr}{te:TE}{t:TA}{pos:Pos}
theorem wu:PA X [] sO:=λ_ _ _ _ H Q I h=>Calls.spliced_nil ⟨[],H,I,.nil,h⟩
theorem RL (ha:PE X e te)(hr:PA X es t)(hs:starEach (e::es) X.env=(false,eval e X.env)::starEach es X.env:=by rfl):PA X (e::es) (mO te t):=by intro pos ai s σ H Q I h;rw [hs];show wpAny _ _ (spliced ((false,eval e X.env)::backTo pos (starEach es X.env))) _ _ s;refine Calls.spliced_cons (aZ (ha ai s σ H _ I h) λu s1 ZW=>?_);obtain ⟨x,H1,I1,r1,q1⟩:=ZW;exact aZ (hr pos ai s1 σ H1 _ I1 q1) λus s2 ⟨xs,H2,I2,r2,q2⟩=>⟨x::xs,H2,I2,.cons r1 r2,q2⟩
def Om (t:TA):TE:=fun σ H Q=>t σ H λxs H1=>xs.length<=sizeLine/\∀ p,H1 p=none->Q (.ref p) (upd H1 p (.tup xs))
def Ot (t:TA):TE:=fun σ H Q=>t σ H λxs H1=>xs.length<=sizeLine/\∀ p,H1 p=none->Q (.ref p) (upd H1 p (.lst xs))
theorem wS {x1}(h:PA X es t):PE X (.Tuple es x1 pos) (Om t):=by intro ai s σ H Q I hq;refine wpAny_Tuple_spliced (aZ (h pos ai s σ H _ I hq) λus s1 ZV=>?_);obtain ⟨xs,H1,I1,r,z,q⟩:=ZV;refine ⟨by rw [<-r.length];exact z,?_⟩;have hf:H1 s1.heap.objs.size=none:=I1.aR.fresh (zE _);refine ⟨.ref s1.heap.objs.size,upd H1 s1.heap.objs.size (.tup xs),I1.laid (t':=s1.toks) (λb u e=>Heap.get?_push_of_some _ e) (zE _) ?_,rfl,q _ hf⟩;exact ⟨⟨z,nj⟩,us,r,⟨_,Heap.get?_push_size _ rfl,rfl,_,rfl⟩⟩
theorem wM (h:PA X es t):PE X (.List es pos) (Ot t):=by intro ai s σ H Q I hq;refine wpAny_List_spliced (aZ (h pos ai s σ H _ I hq) λus s1 ZU=>?_);obtain ⟨xs,H1,I1,r,z,q⟩:=ZU;refine ⟨by rw [<-r.length];exact z,?_⟩;have hf:H1 s1.heap.objs.size=none:=I1.aR.fresh (zE _);refine ⟨.ref s1.heap.objs.size,upd H1 s1.heap.objs.size (.lst xs),I1.laid (t':=s1.toks) (λb u e=>Heap.get?_push_of_some _ e) (zE _) ?_,rfl,q _ hf⟩;exact ⟨z,us,0,r,Heap.get?_push_size _ rfl⟩
end
abbrev Sp:=List V->Hp->VK->XK->Prop
abbrev N8:=List Env->Hp->Shared->XK->Value->Shared->Prop
structure o9 (P:Program) (w:World) (K:PySem.W.Frag) (mg:Str->Option Value) (base:Heap) (A:Around) (outer:List Env) (s:Shared) (H:Hp):Prop where
 frames:A.frames=some outer
 mod:Mod K mg base
 bs:∀ b o,base.get? b=some o->s.heap.get? b=some o/\H b=none
 N7:base.objs.size<=s.heap.objs.size
 iX:s.heap.FunFrames base outer
 Sq:∀ b∈sf outer,H b=none
 aR:gZ P w H s.heap
 bare:AllBare s.gens
def CE (outer:List Env)(P:Program)(w:World)(H:Hp)(s:Shared)(Q:VK)(u:Value)(s':Shared):Prop:=
 ∃ v H',s'.os=s.os/\AllBare s'.gens/\Un (sf outer) [] H H' s.heap s'.heap/\gZ P w H' s'.heap/\RelV v u/\Q v H'
def CR (CX:N8)(outer:List Env)(P:Program)(w:World)(H:Hp)(s:Shared)(Q:VK)(E:XK)(r:Result)(s':Shared):Prop:=
 match r with
 | .ok (.ret u)=>CE outer P w H s Q u s'
 | .ok _=>False
 | .error e=>CX outer H s E e s'
structure cF (P:Program) (w:World) (K:PySem.W.Frag) (mg:Str->Option Value) (base:Heap) (CX:N8) (k:Nat) (f:Addr) (fd:FuncData) (ps:List Str) (sp:Sp):Prop where
 len:∀ vs H Q E,sp vs H Q E->vs.length=ps.length
 run:∀ (A:Around) (outer:List Env) (s:Shared) (H:Hp) (args:Args) (us:List Value) (vs:List V) (Q:VK) (E:XK),cB k A->o9 P w K mg base A outer s H->BindsTo s fd args (ps.zip us)->Vals vs us->sp vs H Q E ->
  codeAny (model P w) A (.call (.ref f) args) (CR CX outer P w H s Q E) s
theorem o9.make {P:Program}{w:World}{K:PySem.W.Frag}{mg:Str->Option Value}{base:Heap}{A:Around}{outer:List Env}{s:Shared}{H:Hp}(e:o9 P w K mg base A outer s H)(C:Addr)(us:List Value)(kw:List (Str×Value)) :
  o9 P w K mg base (A.under (.builtin "type.__call__" ⟨.ref C::us,kw⟩)) outer s H:=⟨by first | exact e.frames | (simpa [Around.under,Code.envs,Code.isFrame,pushEnvs] using e.frames),e.mod,e.bs,e.N7,e.iX,e.Sq,e.aR,e.bare⟩
theorem o9.in1 {P:Program}{w:World}{K:PySem.W.Frag}{mg:Str->Option Value}{base:Heap}{A:Around}{outer:List Env}{s:Shared}{H:Hp}(e:o9 P w K mg base A outer s H) :
  o9 P w K mg base A.in1 outer s H:=⟨e.frames,e.mod,e.bs,e.N7,e.iX,e.Sq,e.aR,e.bare⟩
section
variable {X:Cx}{ai:List (Addr×Obj)}{σ:St}{H:Hp}{s s':Shared}
theorem Inv.Vh (I:Inv X ai σ H s):o9 X.prog X.w X.K X.mg X.base X.A X.stack s H:=
 ⟨I.ok.frames,I.ok.mod,I.bs,zi I.ok.N7 I.sz,I.stack,I.qt,I.aR,I.bare⟩
theorem Inv.after {Q:VK}{u:Value}(I:Inv X ai σ H s)(h:CE X.stack X.prog X.w H s Q u s'):EP X ai σ Q u s':=by obtain ⟨v,H',os,bare,un,aR,r,q⟩:=h;obtain ⟨hh,g,d,t,WI⟩:=s';obtain rfl:WI=s.os:=os;exact ⟨v,H',I.call (h':=hh) (g':=g) (d':=d) (t':=t) (ch:=[]) un aR bare (λb z=>absurd z (by simp)),r,q⟩
end
def pL (sp:Sp)(o5:List V)(E:XK)(t:TA):TE:=fun σ H Q=>t σ H λvs H1=>sp (vs++o5) H1 Q E
def SM (C:Addr)(m:Str)(sp:Sp)(o5:List V)(E:XK)(ta:TE)(t:TA):TE:=fun σ H Q=>ta σ H λx H1=>∃ a dx fs,x=.ref a/\H1 a=some (.ins C dx fs)/\fs.lookup m=none /\
 t σ H1 λvs H2=>sp (x::(vs++o5)) H2 Q E
def Wd (C:Addr)(sp:Sp)(o5:List V)(E:XK)(t:TA):TE:=fun σ H Q=>t σ H λvs H1=>∀ x dx,H1 x=none->H1 dx=none->dx≠x ->
 sp (.ref x::(vs++o5)) (upd (upd H1 dx (.own x)) x (.ins C dx [])) (λv H2=>v=.bV/\Q (.ref x) H2) E
def Binds (K:PySem.W.Frag)(fd:FuncData)(ps:List Str)(ds:List Value):Prop:=
 ∀ (s:Shared) (us:List Value),K.In s.heap->(us++ds).length=ps.length->BindsTo s fd ⟨us,[]⟩ (ps.zip (us++ds))
theorem Binds.all {K:PySem.W.Frag}{fd:FuncData}{ps:List Str}(h:∀ us:List Value,us.length=ps.length->bindArgs fd ⟨us,[]⟩=pure (ps.zip us)):Binds K fd ps []:=λs us _ hl=>by
 rw [yj] at hl ⊢;exact .of_eq (h us hl)
def Passes (CX:N8)(X:Cx)(E:XK):Prop:=∀ (ai:List (Addr×Obj)) (σ:St) (H:Hp) (s:Shared) (e:Value) (s':Shared),Inv X ai σ H s->CX X.stack H s E e s'->X.xe e s'
section
variable {X:Cx}{CX:N8}{k:Nat}{f C:Addr}{fd:FuncData}{ps:List Str}{sp:Sp}{o5:List V}{ds:List Value}{E:XK}{x m:Str}{p pos apos:Pos}{e o:Expr}{es:List Expr}{ta:TE}{t:TA}
theorem vc {ai:List (Addr×Obj)}{σ:St}{H:Hp}{s:Shared}{Q:VK}{us:List Value}{vs:List V}(F:cF X.prog X.w X.K X.mg X.base CX k f fd ps sp)(hr:cB k X.A)(hb:Binds X.K fd ps ds)(hd:Vals o5 ds)(hx:Passes CX X E)
  (I:Inv X ai σ H s) (r:Vals vs us) (h:sp (vs++o5) H Q E):wpAny (model X.prog X.w) X.A (call (.ref f) us) (EP X ai σ Q) X.xe s:=by
 have r2:Vals (vs++o5) (us++ds):=r.append hd;have hl:(us++ds).length=ps.length:=by rw [<-r2.length];exact F.len _ _ _ _ h
 refine wpAny_call (codeAny_mono (F.run X.A X.stack s H ⟨us,[]⟩ (us++ds) (vs++o5) Q E hr I.Vh (hb s us I.kZ hl) r2 h) λr s' hq=>?_);cases r with
 | error e=>exact hx ai σ H s e s' I hq
 | ok fl=>
  cases fl with
  | ret u=>exact I.after hq
  | next=>exact False.elim hq
  | brk=>exact False.elim hq
  | cont=>exact False.elim hq
theorem RJ (F:cF X.prog X.w X.K X.mg X.base CX k f fd ps sp)(hr:cB k X.A)(hg:Gl X x)(hm:X.mg x=some (.ref f))(hk:zj X.K (.ref f)=true)(hb:Binds X.K fd ps ds)(hd:Vals o5 ds)(hx:Passes CX X E)
  (ha:PA X (e::es) t) (Sk:(x == ("__debug__" : Str))=false:=by decide) (he:starEach (e::es) X.env=(false,eval e X.env)::starEach es X.env:=by rfl) (N4:(backTo pos (starEach es X.env)).any (·.1)=false:=by rfl) :
  PE X (.Call (.Name x p) (e::es) [] pos) (pL sp o5 E t):=by
 intro ai s σ H Q I h;refine wpAny_Call_Name_kw (rz I hg hm ?_ Sk);refine PySem.W.callWith_K (h₀:=X.base) I.ok.mod.Xb hk (aZ (ha pos ai s σ H _ I h) λus s1 ZT=>?_) he N4;obtain ⟨vs,H1,I1,r,q⟩:=ZT;refine ⟨I1.kZ,?_⟩;exact vc F hr hb hd hx I1 r q
theorem qO {pl:Sem Bool}(he:PE X o ta)(c:QF X.K C)(hm:Meth X.K C m f)(F:cF X.prog X.w X.K X.mg X.base CX k f fd ps sp)(hr:cB k X.A)(hb:Binds X.K fd ps ds)(hd:Vals o5 ds)(hx:Passes CX X E)(ha:PA X (e::es) t)
  (Xr:starEach (e::es) X.env=(false,eval e X.env)::starEach es X.env:=by rfl) (N4:(backTo pos (starEach es X.env)).any (·.1)=false:=by rfl)
  (ht:eval (.Call (.Attribute o m apos) (e::es) [] pos) X.env=(do
   let ov <- eval o X.env
   standAt apos.atName
   let (f,first) <- holding [ov] (getMethod ov m pl)
   callWith pos f first (backTo pos (starEach (e::es) X.env)) (backToKw pos (keywordEach [] X.env))):=by rfl) :
  PE X (.Call (.Attribute o m apos) (e::es) [] pos) (SM C m sp o5 E ta t):=by
 intro ai s σ H Q I h;refine PySem.W.methodCall_KW (pl:=pl) (aZ (he ai s σ H _ I h) λu s1 ZS=>?_) ht;obtain ⟨x,H1,I1,rx,a,dx,fs,ex,ea,l,q⟩:=ZS;subst ex;obtain rfl:u=Value.ref a:=rx;refine nN I1 ea c hm l ?_;refine PySem.W.callWith_K (first:=[.ref a]) (h₀:=X.base) I.ok.mod.Xb hm.kp (aZ (ha pos ai s1 σ H1 _ I1 q) λus s2 ZR=>?_) Xr N4;obtain ⟨vs,H2,I2,r,q2⟩:=ZR;refine ⟨I2.kZ,?_⟩;exact vc (us:=.ref a::us) (vs:=.ref a::vs) F hr hb hd hx I2 (.cons rfl r) q2
theorem O1 {pl:Sem Bool}(he:PE X o ta)(c:QF X.K C)(hm:Meth X.K C m f)(F:cF X.prog X.w X.K X.mg X.base CX k f fd ps sp)(hr:cB k X.A)(hb:Binds X.K fd ps ds)(hd:Vals o5 ds)(hx:Passes CX X E)
  (ht:eval (.Call (.Attribute o m apos) [] [] pos) X.env=(do
   let ov <- eval o X.env
   standAt apos.atName
   let (f,first) <- holding [ov] (getMethod ov m pl)
   callWith pos f first (backTo pos (starEach [] X.env)) (backToKw pos (keywordEach [] X.env))):=by rfl) :
  PE X (.Call (.Attribute o m apos) [] [] pos) (SM C m sp o5 E ta sO):=by
 intro ai s σ H Q I h;refine PySem.W.methodCall_KW (pl:=pl) (aZ (he ai s σ H _ I h) λu s1 ZQ=>?_) ht;obtain ⟨x,H1,I1,rx,a,dx,fs,ex,ea,l,q⟩:=ZQ;subst ex;obtain rfl:u=Value.ref a:=rx;refine nN I1 ea c hm l ?_;exact PySem.W.callWith_K0 (first:=[.ref a]) I1.kZ hm.kp (vc (us:=[.ref a]) (vs:=[.ref a]) F hr hb hd hx I1 (.cons rfl .nil) q)
structure Mk (K:PySem.W.Frag) (C f:Addr):Prop where
 makes:PySem.W.makesIn K C=true
 init:zP K (.ref C) "__init__" = some (some (.ref f))
 fn:yF K (.ref f)=true
 kp:zj K (.ref C)=true
theorem OR {ai:List (Addr×Obj)}{σ:St}{H:Hp}{s:Shared}{Q:VK}{us:List Value}{vs:List V}(M:Mk X.K C f)(F:cF X.prog X.w X.K X.mg X.base CX k f fd ps sp)(hr:cB (k + 1) X.A)(hb:Binds X.K fd ps ds)(hd:Vals o5 ds)
  (hx:Passes CX X E) (I:Inv X ai σ H s) (r:Vals vs us)
  (h:∀ x dx,H x=none->H dx=none->dx≠x->sp (.ref x::(vs++o5)) (upd (upd H dx (.own x)) x (.ins C dx [])) (λv H2=>v=.bV/\Q (.ref x) H2) E) :
  wpAny (model X.prog X.w) X.A (call (.ref C) us) (EP X ai σ Q) X.xe s:=by
 have hq:=h (s.heap.objs.size + 1) s.heap.objs.size (I.aR.fresh (zx _)) (I.aR.fresh (zE _)) (za (yu _));have I2:=Inv.made (C:=C) I;have r2:Vals (V.ref (s.heap.objs.size + 1)::(vs++o5)) (Value.ref (s.heap.objs.size + 1)::(us++ds)):=.cons rfl (r.append hd);have hl:(Value.ref (s.heap.objs.size + 1)::us++ds).length=ps.length:=by
  have e:=r2.length;rw [F.len _ _ _ _ hq] at e;exact e.symm
 refine wpAny_call (Py (f:=f) I.kZ M.makes M.init (beq_iff_eq.mp M.fn) (codeAny_mono (F.run _ X.stack _ _ ⟨Value.ref (s.heap.objs.size + 1)::us,[]⟩ (Value.ref (s.heap.objs.size + 1)::(us++ds)) _ _ E (hr.make C us [])
  (I2.Vh.make C us []) (hb _ (Value.ref (s.heap.objs.size + 1)::us) I2.kZ hl) r2 hq) λr s' Xv=>?_))
 cases r with
 | error e=>exact hx ai σ _ _ e s' I2 Xv
 | ok fl=>
  cases fl with
  | ret u=>
   obtain ⟨v,H',I3,rv,ev,q3⟩:=I2.after Xv;subst ev;exact ⟨rv,⟨V.ref (s.heap.objs.size + 1),H',I3,rfl,q3⟩⟩
  | next=>exact False.elim Xv
  | brk=>exact False.elim Xv
  | cont=>exact False.elim Xv
theorem RG (M:Mk X.K C f)(F:cF X.prog X.w X.K X.mg X.base CX k f fd ps sp)(hr:cB (k + 1) X.A)(hg:Gl X x)(hm:X.mg x=some (.ref C))(hb:Binds X.K fd ps ds)(hd:Vals o5 ds)(hx:Passes CX X E)
  (ha:PA X (e::es) t) (Sk:(x == ("__debug__" : Str))=false:=by decide) (he:starEach (e::es) X.env=(false,eval e X.env)::starEach es X.env:=by rfl) (N4:(backTo pos (starEach es X.env)).any (·.1)=false:=by rfl) :
  PE X (.Call (.Name x p) (e::es) [] pos) (Wd C sp o5 E t):=by
 intro ai s σ H Q I h;refine wpAny_Call_Name_kw (rz I hg hm ?_ Sk);refine PySem.W.callWith_K (h₀:=X.base) I.ok.mod.Xb M.kp (aZ (ha pos ai s σ H _ I h) λus s1 ZP=>?_) he N4;obtain ⟨vs,H1,I1,r,q⟩:=ZP;refine ⟨I1.kZ,?_⟩;exact OR M F hr hb hd hx I1 r q
end
section
variable {X:Cx}{CX:N8}{k:Nat}{f C:Addr}{fd:FuncData}{ps ks:List Str}{sp:Sp}{E:XK}{x m:Str}{p pos apos agy:Pos}{e o:Expr}{es:List Expr}{kws:List Keyword}{te ta:TE}{t tk:TA}{nm:Option Str}
variable {g:List Value->List Value->List Value}{gV:List V->List V->List V}
end
structure au (N P:List Str) (sc:Scope):Prop where
 kind:sc.kind=.function
 co:sc.isCoroutine=false
 gen:sc.isGenerator=false
 nd:N.Nodup
 pre:N.take P.length=P
 par:∀ x∈P,sc.names.lookup x=some .local\/sc.names.lookup x=some .cell
 Uo:∀ y∈sc.names,y.2≠.free
theorem qf {kindOf:Str->Option NameKind}{x:Str}:∀ {binds:List (Str×Value)}{m:Str->Option Value},(∀ v,(x,v) ∉ binds)->bindL kindOf binds m x=m x
 | [],_,_=>rfl
 | (n,v)::r,m,h=>by
  unfold bindL;rw [qf λw hw=>h w (zp _ hw)];split
  ·have:x≠n:=by rintro rfl;exact h v xB
   simp [this]
  ·rfl
theorem qh {kindOf:Str->Option NameKind}{x:Str}:∀ {binds:List (Str×Value)}{m:Str->Option Value},(∀ v,(x,v) ∉ binds)->bindC kindOf binds m x=m x
 | [],_,_=>rfl
 | (n,v)::r,m,h=>by
  unfold bindC;rw [qh λw hw=>h w (zp _ hw)];split
  ·rfl
  ·have:x≠n:=by rintro rfl;exact h v xB
   simp [this]
theorem qg {kindOf:Str->Option NameKind}{x:Str}{v:Value}:∀ {P:List Str}{vs:List Value}{i:Nat}{m:Str->Option Value},P.Nodup->P[i]?=some x->vs[i]?=some v->kindOf x=some .local ->
  bindL kindOf (P.zip vs) m x=some v
 | [],_,_,_,_,h,_,_=>by simp at h
 | _::_,[],_,_,_,_,h,_=>by simp at h
 | p::P,w::vs,0,m,nd,h1,h2,hk=>by
  simp at h1 h2;subst h1;subst h2;show bindL kindOf ((p,w)::P.zip vs) m p=_;unfold bindL;rw [qf λv hv=>(yW.mp nd).1 (xU hv).1,if_pos hk];simp
 | p::P,w::vs,i + 1,m,nd,h1,h2,hk=>by
  show bindL kindOf ((p,w)::P.zip vs) m x=_;unfold bindL;exact qg (i:=i) (yW.mp nd).2 (by simpa using h1) (by simpa using h2) hk
theorem qi {kindOf:Str->Option NameKind}{x:Str}{v:Value}:∀ {P:List Str}{vs:List Value}{i:Nat}{m:Str->Option Value},P.Nodup->P[i]?=some x->vs[i]?=some v->kindOf x≠some .local ->
  bindC kindOf (P.zip vs) m x=some v
 | [],_,_,_,_,h,_,_=>by simp at h
 | _::_,[],_,_,_,_,h,_=>by simp at h
 | p::P,w::vs,0,m,nd,h1,h2,hk=>by
  simp at h1 h2;subst h1;subst h2;show bindC kindOf ((p,w)::P.zip vs) m p=_;unfold bindC;rw [qh λv hv=>(yW.mp nd).1 (xU hv).1,if_neg hk];simp
 | p::P,w::vs,i + 1,m,nd,h1,h2,hk=>by
  show bindC kindOf ((p,w)::P.zip vs) m x=_;unfold bindC;exact qi (i:=i) (yW.mp nd).2 (by simpa using h1) (by simpa using h2) hk
def start (N:List Str)(vs:List V):St:=vs.map some++List.replicate (N.length - vs.length) none
def nY (CX:N8)(P:Program)(w:World)(K:PySem.W.Frag)(mg:Str->Option Value)(base:Heap)(N:List Str)(qual:Str)(scope:Scope)(f:Addr)(cd:Value)(A:Around)(outer:List Env)(s:Shared)(H:Hp)(E:XK):Cx where
 prog:=P
 w:=w
 K:=K
 mg:=mg
 base:=base
 A:=A.deeper (envOfC qual scope s.heap.objs.size f cd)
 N:=N
 cI:=s
 LJ:=H
 env:=envOfC qual scope s.heap.objs.size f cd
 outer:=outer
 stack:=envOfC qual scope s.heap.objs.size f cd::outer
 ex:=[]
 calm:=true
 fn:=λ_=>true
 pn:=[]
 xe:=λe s'=>wpAny (model P w) (A.deeper (envOfC qual scope s.heap.objs.size f cd)) (leaving (envOfC qual scope s.heap.objs.size f cd) e) (λ_ rY=>CX outer H s E e rY) (λe' rY=>CX outer H s E e' rY) s'
theorem uu {sc:Scope}{n:Nat}{x:Str}(h:sc.names.lookup x=some .cell):∃ c,(cellsFrom n sc.names []).lookup x=some c:=by have q:=PySem.W.cellsFrom_some sc.names n [] (.inl h);exact Option.isSome_iff_exists.mp q
theorem Nv {CX:N8}{P:Program}{w:World}{K:PySem.W.Frag}{mg:Str->Option Value}{base:Heap}{N ps:List Str}{qual:Str}{scope:Scope}{f:Addr}{cd:Value}{A:Around}{outer:List Env}{s s1:Shared}{H:Hp}{E:XK}{us:List Value}{vs:List V}
  (S:au N ps scope) (hd:A.handled=none) (e0:o9 P w K mg base A outer s H) (hl:vs.length=ps.length) (r:Vals vs us)
  (x:InCallC s s.heap.objs.size (bindL (envOfC qual scope s.heap.objs.size f cd).kindOf (ps.zip us) λ_=>none) (cellsFrom (s.heap.objs.size + 1) scope.names []) (bindC (envOfC qual scope s.heap.objs.size f cd).kindOf (ps.zip us) λ_=>none) s1) :
  Inv (nY CX P w K mg base N qual scope f cd A outer s H E) [] (start N vs) H s1:=by
 have N4:ps.length<=N.length:=by have:=congrArg List.length S.pre;rw [z8] at this;omega
 obtain ⟨h1,tk,rfl,hk⟩:=x.done;have noA:∀ b:Addr,b ∉ (nY CX P w K mg base N qual scope f cd A outer s H E).ex:=λb z=>absurd (show b∈([]:List Addr) from z) (by simp);refine ⟨⟨e0.mod,S.kind,rfl,rfl,zE _,λy z c h1 h2=>?_,λy hy=>?_,λy c _ h=>?_,λ_=>hd,Around.frames_deeper e0.frames,.inr ⟨rfl,rfl⟩,λb z=>absurd z (noA b),e0.bs,e0.N7,λb _ _=>noA b,λb z=>absurd z (noA b),e0.iX,e0.Sq⟩,
  rfl,e0.bare,Un.kept hk,⟨_,x.toInCall.ns,λi y v h1 h2 h3=>?_⟩,λy c h=>⟨_,x.cell y c h⟩,e0.aR.fresh (zE _),λy c h=>?_,λp hp=>absurd (show p∈([]:List (Addr×Obj)) from hp) (by simp),e0.aR.kept hk,?_⟩
 ·exact name_of_addr x.apart (zn h1) (zn h2)
 ·have hy:scope.names.lookup y=some .cell\/scope.names.lookup y=some .free:=hy;rcases hy with hy | hy
  ·exact uu hy
  ·exact absurd rfl (S.Uo _ (zn hy))
 ·exact yl (x.above y c (zn h))
 ·have hi:i < vs.length:=by
   unfold start at h2;by_cases hi:i < vs.length
   ·exact hi
   ·rw [zb (by simpa using hi)] at h2;rw [List.getElem?_replicate] at h2;split at h2 <;> cases h2
  have ha:vs[i]?=some v:=by
   unfold start at h2;rw [zl (by simpa using hi),zF] at h2;cases e:vs[i]? with
   | none=>rw [e] at h2;cases h2
   | some a=>rw [e] at h2;cases h2;rfl
  obtain ⟨u,hu,rv⟩:=r.get ha;have hp:ps[i]?=some y:=by
   rw [<-S.pre,List.getElem?_take_of_lt (by omega)];exact h1
  have VI:ps.Nodup:=by rw [<-S.pre];exact S.nd.sublist (List.take_sublist _ _)
  refine ⟨u,rv,?_⟩;rcases S.par y (zC hp) with k | k
  ·exact .inl ⟨k,qg VI hp hu k⟩
  ·obtain ⟨c,e⟩:=uu (n:=s.heap.objs.size + 1) k;refine .inr ⟨.inl k,c,e,?_⟩;have q:=x.cell y c e;rw [qi VI hp hu (by show scope.names.lookup y≠_;rw [k];decide)] at q;exact q
 ·exact e0.aR.fresh (yl (x.above y c (zn h)))
 ·unfold start;show _=N.length;rw [zL,zA,yg];omega
theorem S9 {CX:N8}{P:Program}{w:World}{K:PySem.W.Frag}{mg:Str->Option Value}{base:Heap}{k:Nat}{f:Addr}{name qual:Str}{params:Arguments}{body:List Stmt}{scope:Scope}{dV kV doc pm bP ct oc:Value}{an od:Option Addr}
  {RN:Array (Option Value)}{N ps:List Str}{sp:Sp} (lk:K.lookup f=some ⟨oc,od,.func (xN name qual params body scope dV kV doc pm an bP ct),RN⟩) (tZ:PySem.W.codeIn K bP qual=true) (S:au N ps scope)
  (len:∀ vs H Q E,sp vs H Q E->vs.length=ps.length)
  (jm:∀ (A:Around) (outer:List Env) (s:Shared) (H:Hp) (vs:List V) (Q:VK) (E:XK),cB k (A.deeper (envOfC qual scope s.heap.objs.size f bP))->sp vs H Q E ->
   ∃ t,qk (nY CX P w K mg base N qual scope f bP A outer s H E) body t/\t { nx:=λ_ H'=>Q .bV H',rt:=Q } (start N vs) H) :
  cF P w K mg base CX (k + 1) f (xN name qual params body scope dV kV doc pm an bP ct) ps sp:=by
 refine ⟨len,λA outer s H args us vs Q E hr e0 hb r QK=>?_⟩;have hl:=len _ _ _ _ QK;have KX:K.In s.heap:=e0.mod.Xb.keeps λb o e=>(e0.bs b o e).1;have lim:s.heap.NoLimit:=e0.mod.nolimit.keeps λb o e=>(e0.bs b o e).1;have XG:∀ y∈ps.zip us,scope.names.lookup y.1=some .local\/(scope.names.lookup y.1=some .cell/\((cellsFrom (s.heap.objs.size + 1) scope.names []).lookup y.1).isSome=true):=λ⟨n,v⟩ hy=>by
  rcases S.par n (xU hy).1 with q | q
  ·exact .inl q
  ·exact .inr ⟨q,PySem.W.cellsFrom_some _ _ _ (.inl q)⟩
 refine codeAny_call_function hr.depth (KX _ _ lk) rfl S.co S.gen rfl (PySem.W.codeRec_of KX tZ) (hb _ _ _ _ ?_);refine wpAny_newFunctionEnv_cells S.kind XG λenv he s1 x=>?_;subst he;refine ⟨lim.keeps x.toInCall.keep,codeAny_func ?_⟩;obtain ⟨t,ht,hq⟩:=jm A outer s H vs Q E (hr.deeper _) QK;have I:Inv (nY CX P w K mg base N qual scope f bP A outer s H E) [] (start N vs) H s1:=Nv S hr.hd e0 hl r x;refine wpAny_mono (ht [] s1 (start N vs) H _ I hq) (λfl s' hs=>?_) λe s' hs=>hs;have fin:∀ {bU:St}{H':Hp}{v:V}{u:Value},Inv (nY CX P w K mg base N qual scope f bP A outer s H E) [] bU H' s'->RelV v u->Q v H'->CE outer P w H s Q u s':=
  λ{bU H' v u} J rv q=>⟨v,H',J.os,J.bare,J.base,J.aR,rv,q⟩
 cases fl with
 | ret u=>
  obtain ⟨v,bU,H',J,rv,q⟩:=hs;exact fin J rv q
 | next=>
  obtain ⟨bU,H',J,q⟩:=hs;exact fin (v:=V.bV) (u:=Value.none) J rfl q
 | brk=>
  obtain ⟨_,_,_,q⟩:=hs;exact False.elim q
 | cont=>
  obtain ⟨_,_,_,q⟩:=hs;exact False.elim q
section
variable {X:Cx}{x:Str}{p pos:Pos}{e:Expr}{es:List Expr}{t:TA}{id T:String}{r:List V->Hp->VK->Prop}
def VD (r:List V->Hp->VK->Prop)(t:TA):TE:=fun σ H Q=>t σ H λvs H1=>r vs H1 Q
theorem xw (hc:fj X (.builtin id) r)(hg:Gl X x)(hm:X.mg x=none)(hv:bootBuiltins x=some (.builtin id))(ha:PA X (e::es) t)(hn:x ≠ "__name__" := by decide)(Sk:(x == ("__debug__" : Str))=false:=by decide)
  (he:starEach (e::es) X.env=(false,eval e X.env)::starEach es X.env:=by rfl) (N4:(backTo pos (starEach es X.env)).any (·.1)=false:=by rfl):PE X (.Call (.Name x p) (e::es) [] pos) (VD r t):=by
 intro ai s σ H Q I h;refine wpAny_Call_Name_kw (fE I hg hm hv ?_ hn Sk);exact PyProof.Rows.callWith_builtin1 (aZ (ha pos ai s σ H _ I h) λus s1 ⟨vs,H1,I1,r1,q1⟩=>hc ai s1 σ H1 vs us Q I1 r1 q1) he N4
theorem cL (hc:fj X (.type T) r)(hg:Gl X x)(hm:X.mg x=none)(hv:bootBuiltins x=some (.type T))(ha:PA X (e::es) t)(hn:x ≠ "__name__" := by decide)(Sk:(x == ("__debug__" : Str))=false:=by decide)
  (he:starEach (e::es) X.env=(false,eval e X.env)::starEach es X.env:=by rfl) (N4:(backTo pos (starEach es X.env)).any (·.1)=false:=by rfl):PE X (.Call (.Name x p) (e::es) [] pos) (VD r t):=by
 intro ai s σ H Q I h;refine wpAny_Call_Name_kw (fE I hg hm hv ?_ hn Sk);exact zu (aZ (ha pos ai s σ H _ I h) λus s1 ⟨vs,H1,I1,r1,q1⟩=>hc ai s1 σ H1 vs us Q I1 r1 q1) he N4
end
section
variable {κ:Type} [DecidableEq κ]
def cU (kvs:List (κ×V))(k:κ):Option V:=(kvs.find? λkv=>decide (kv.1=k)).map (·.2)
def putK (kvs:List (κ×V))(k:κ)(v:V):List (κ×V):=
 if (kvs.any λkv=>decide (kv.1=k))=true then kvs.map (λkv=>if kv.1=k then (kv.1,v) else kv) else kvs++[(k,v)]
def nV (kvs:List (κ×V))(k:κ):List (κ×V):=kvs.filter λkv=>decide (kv.1≠k)
theorem wo {p:κ×V}{r:List (κ×V)}{k:κ}(e:p.1=k):cU (p::r) k=some p.2:=by simp [cU,xH,e]
theorem wr {p:κ×V}{r:List (κ×V)}{k:κ}(e:¬ p.1=k):cU (p::r) k=cU r k:=by simp [cU,xH,e]
theorem dM (k:κ):∀ kvs:List (κ×V),(kvs.any λkv=>decide (kv.1=k))=(cU kvs k).isSome
 | []=>rfl
 | p::r=>by
  rw [xJ];by_cases e:p.1=k
  ·simp only [wo e,decide_eq_true e,Bool.true_or,Option.isSome_some]
  ·rw [wr e,decide_eq_false e,Bool.false_or];exact dM k r
theorem sH (k j:κ)(y:V):∀ kvs:List (κ×V),cU (kvs.map λkv=>if kv.1=k then (kv.1,y) else kv) j=(cU kvs j).map λx=>if j=k then y else x
 | []=>rfl
 | p::r=>by
  have ih:=sH k j y r;rw [zZ];by_cases h:p.1=k
  ·rw [if_pos h];by_cases e:p.1=j
   ·rw [wo (p:=(p.1,y)) e,wo e,yi,if_pos (e.symm.trans h)]
   ·rw [wr (p:=(p.1,y)) e,wr e,ih]
  ·rw [if_neg h];by_cases e:p.1=j
   ·rw [wo (p:=p) e,wo e,yi,if_neg (λz=>h (e.trans z))]
   ·rw [wr (p:=p) e,wr e,ih]
theorem pF (k j:κ)(y:V):∀ kvs:List (κ×V),cU kvs k=none->cU (kvs++[(k,y)]) j=if j=k then some y else cU kvs j
 | [],_=>by
  by_cases e:k=j
  ·rw [if_pos e.symm];exact wo (p:=(k,y)) e
  ·rw [if_neg (λz=>e z.symm)];exact wr (p:=(k,y)) e
 | p::r,hn=>by
  rw [xO];have hk:¬ p.1=k:=λz=>by rw [wo z] at hn;cases hn
  rw [wr hk] at hn;have ih:=pF k j y r hn;by_cases e:p.1=j
  ·rw [wo e,wo e,if_neg (λz=>hk (e.trans z))]
  ·rw [wr e,wr e,ih]
theorem mK (kvs:List (κ×V))(k j:κ)(y:V):cU (putK kvs k y) j=if j=k then some y else cU kvs j:=by
 unfold putK;by_cases a:(kvs.any λkv=>decide (kv.1=k))=true
 ·rw [if_pos a,sH];rw [dM] at a;by_cases e:j=k
  ·obtain ⟨x,hx⟩:=Option.isSome_iff_exists.mp a;rw [if_pos e,e,hx,yi,if_pos rfl]
  ·rw [if_neg e];cases cU kvs j with
   | none=>rfl
   | some x=>rw [yi,if_neg e]
 ·rw [if_neg a];refine pF k j y kvs ?_;rw [dM] at a;cases q:cU kvs k with
  | none=>rfl
  | some x=>rw [q] at a;exact (a rfl).elim
theorem eY (kvs:List (κ×V))(k:κ)(v:V):(putK kvs k v).length<=kvs.length + 1:=by
 unfold putK;split
 ·rw [zA];omega
 ·rw [zL,zR,yT];omega
theorem gm.ie {o:Option V}{u:Option Value}(r:gm o u):o.isSome=u.isSome:=by
 cases o with
 | none=>cases u with
  | none=>rfl
  | some _=>exact (show False from r).elim
 | some _=>cases u with
  | none=>exact (show False from r).elim
  | some _=>rfl
theorem gm.getD {o:Option V}{u:Option Value}{d:V}{d':Value}(r:gm o u)(rd:RelV d d'):RelV (o.getD d) (u.getD d'):=by
 cases o with
 | none=>cases u with
  | none=>exact rd
  | some _=>exact (show False from r).elim
 | some _=>cases u with
  | none=>exact (show False from r).elim
  | some _=>exact r
theorem KV.val {kvs:List (κ×V)}{vs:List (κ×Value)}(r:KV kvs vs)(k:κ):gm (cU kvs k) (valueAt vs k):=by
 unfold KV at r;induction r with
 | nil=>exact True.intro
 | @cons p q ps qs h t ih=>
  obtain ⟨h1,h2⟩:=h;by_cases e:p.1=k
  ·have e':q.1=k:=h1.symm.trans e;have b:valueAt (q::qs) k=some q.2:=by simp [valueAt,xH,e']
   rw [wo e,b];exact h2
  ·have e':¬ q.1=k:=λz=>e (h1.trans z);have b:valueAt (q::qs) k=valueAt qs k:=by simp [valueAt,xH,e']
   rw [wr e,b];exact ih
theorem KV.any {kvs:List (κ×V)}{vs:List (κ×Value)}(r:KV kvs vs)(k:κ):(kvs.any λkv=>decide (kv.1=k))=vs.any λkv=>decide (kv.1=k):=by
 unfold KV at r;induction r with
 | nil=>rfl
 | cons h t ih=>rw [xJ,xJ,ih,h.1]
theorem KV.T9 {kvs:List (κ×V)}{vs:List (κ×Value)}(r:KV kvs vs)(k:κ){y:V}{u:Value}(ry:RelV y u) :
  KV (kvs.map λkv=>if kv.1=k then (kv.1,y) else kv) (vs.map λkv=>if kv.1=k then (kv.1,u) else kv):=by
 unfold KV at r ⊢;induction r with
 | nil=>exact .nil
 | @cons p q ps qs h t ih=>
  rw [zZ,zZ];refine .cons ?_ ih;obtain ⟨h1,h2⟩:=h;by_cases e:p.1=k
  ·rw [if_pos e,if_pos (h1.symm.trans e)];exact ⟨h1,ry⟩
  ·rw [if_neg e,if_neg (λz=>e (h1.trans z))];exact ⟨h1,h2⟩
theorem KV.put {kvs:List (κ×V)}{vs:List (κ×Value)}(r:KV kvs vs)(k:κ){y:V}{u:Value}(ry:RelV y u):KV (putK kvs k y) (stored vs k u):=by
 unfold putK stored;rw [r.any k];by_cases e:(vs.any λkv=>decide (kv.1=k))=true
 ·rw [if_pos e,if_pos e];exact r.T9 k ry
 ·rw [if_neg e,if_neg e];exact Paired.snoc r ⟨rfl,ry⟩
theorem KV.drop {kvs:List (κ×V)}{vs:List (κ×Value)}(r:KV kvs vs)(k:κ):KV (nV kvs k) (without vs k):=by
 unfold KV at r ⊢;unfold nV without;induction r with
 | nil=>exact .nil
 | @cons p q ps qs h t ih=>
  obtain ⟨h1,h2⟩:=h;rw [List.filter_cons,List.filter_cons];by_cases e:p.1=k
  ·have a:¬ decide (p.1≠k)=true:=by simp [e]
   have b:¬ decide (q.1≠k)=true:=by simp [h1.symm.trans e]
   rw [if_neg a,if_neg b];exact ih
  ·have e':¬ q.1=k:=λz=>e (h1.trans z);have a:decide (p.1≠k)=true:=by simp [e]
   have b:decide (q.1≠k)=true:=by simp [e']
   rw [if_pos a,if_pos b];exact .cons ⟨h1,h2⟩ ih
theorem KV.length {kvs:List (κ×V)}{vs:List (κ×Value)}(r:KV kvs vs):kvs.length=vs.length:=Paired.length r
theorem Qi (kvs:List (κ×V))(k:κ):(nV kvs k).length<=kvs.length:=yX _ _
end
theorem nF {P:Program}{w:World}{k:Key}{u:Value}(r:RelV (kV k) u):(aW P w).is k u=true:=by
 cases k with
 | inl i=>obtain ⟨t,e⟩:=(show ∃ t,u=Value.int i t from r);subst e;exact tM P w i t
 | inr x=>obtain ⟨t,e⟩:=(show ∃ t,u=Value.str x t from r);subst e;exact tL P w x t
theorem p7 {P:Program}{w:World}:∀ {ks:List Key}{us:List Value},Vals (ks.map kV) us->ItemsAre (aW P w) ks us
 | [],_,r=>by rw [yG] at r;cases r;exact .nil
 | k::ks,_,r=>by
  rw [zZ] at r;cases r with
  | cons h t=>exact .cons (nF h) (p7 t)
abbrev KT (H:Hp):List (List Key×V)->List (List Key×Addr×Value)->Prop:=Paired λp q=>p.1=q.1/\H q.2.1=some (.tup (p.1.map kV))/\RelV p.2 q.2.2
theorem KT.val {H:Hp}{kvs:List (List Key×V)}{xs:List (List Key×Addr×Value)}(r:KT H kvs xs)(k:List Key):gm (cU kvs k) ((atKey xs k).map (·.2)):=by
 induction r with
 | nil=>exact True.intro
 | @cons p q ps qs h t ih=>
  obtain ⟨h1,_,h2⟩:=h;by_cases e:p.1=k
  ·have e':q.1=k:=h1.symm.trans e;have b:atKey (q::qs) k=some q.2:=by simp [atKey,xH,e']
   rw [wo e,b];exact h2
  ·have e':¬ q.1=k:=λz=>e (h1.trans z);have b:atKey (q::qs) k=atKey qs k:=by simp [atKey,xH,e']
   rw [wr e,b];exact ih
theorem KT.T9 {H:Hp}{kvs:List (List Key×V)}{xs:List (List Key×Addr×Value)}(r:KT H kvs xs)(k:List Key){y:V}{u:Value}(ry:RelV y u) :
  KT H (kvs.map λkv=>if kv.1=k then (kv.1,y) else kv) (xs.map (putAt k u)):=by
 induction r with
 | nil=>exact .nil
 | @cons p q ps qs h t ih=>
  rw [zZ,zZ];refine .cons ?_ ih;obtain ⟨h1,h2,h3⟩:=h;unfold putAt;by_cases e:p.1=k
  ·rw [if_pos e,if_pos (h1.symm.trans e)];exact ⟨h1,h2,ry⟩
  ·rw [if_neg e,if_neg (λz=>e (h1.trans z))];exact ⟨h1,h2,h3⟩
theorem KT.put {H:Hp}{kvs:List (List Key×V)}{xs:List (List Key×Addr×Value)}(r:KT H kvs xs)(k:List Key){b:Addr}{y:V}{u:Value}(hb:H b=some (.tup (k.map kV)))(ry:RelV y u) :
  KT H (putK kvs k y) (storedH xs k b u):=by
 have e:(kvs.any λkv=>decide (kv.1=k))=(atKey xs k).isSome:=by
  rw [dM,(r.val k).ie,yn]
 unfold putK storedH;rw [e];by_cases q:(atKey xs k).isSome=true
 ·rw [if_pos q,if_pos q];exact r.T9 k ry
 ·rw [if_neg q,if_neg q];exact Paired.snoc r ⟨rfl,hb,ry⟩
theorem KT.keeps {H H':Hp}{kvs:List (List Key×V)}{xs:List (List Key×Addr×Value)}(r:KT H kvs xs)(ht:∀ b ys,H b=some (.tup ys)->H' b=some (.tup ys)):KT H' kvs xs:=
 Paired.Uu r λ_ _ z=>⟨z.1,ht _ _ z.2.1,z.2.2⟩
section
variable {P:Program}{w:World}{H:Hp}{h:Heap}{a:Addr}
theorem SQ {u:HO}(ok:gZ P w H h)(e:Rd H a u):bu P w H h a u:=e.ok ok
theorem ue {kvs:List (Key×V)}(ok:gZ P w H h)(e:Rd H a (.dK kvs)):kvs.length<=sizeLine/\(a == sysModules)=false/\∃ vs,KV kvs vs/\h.DictOf (aW P w) a vs:=
 show bu P w H h a (.dK kvs) from SQ ok e
theorem uf {kvs:List (Key×V)}(ok:gZ P w H h)(e:H a=some (.dK kvs)):kvs.length<=sizeLine/\(a == sysModules)=false/\∃ vs,KV kvs vs/\h.DictOf (aW P w) a vs:=ue ok (.inl e)
theorem nC {ks:List Key}(ok:gZ P w H h)(e:H a=some (.tup (ks.map kV))):(tupleKind (aW P w)).is h ks a:=by obtain ⟨_,az,r,o,h1,h2,n,h3⟩:=(show bu P w H h a (.tup (ks.map kV)) from ok a _ e);exact ⟨o,az.toArray,n,h1,h2,h3,by simpa using p7 r⟩
theorem ud {kvs:List (List Key×V)}(ok:gZ P w H h)(e:Rd H a (.dT kvs)):kvs.length<=sizeLine/\(a == sysModules)=false /\
  ∃ xs,KT H kvs xs/\h.DictOfH (tupleKind (aW P w)) a xs:=by
 obtain ⟨z,y,xs,r,o,es,ep,h1,h2,h3,h4,h5⟩:=(show bu P w H h a (.dT kvs) from SQ ok e);refine ⟨z,y,xs,r,o,es,ep,h1,h2,h3,h4,λx hx=>?_,h5⟩;have all:∀ {l:List (List Key×V)}{m:List (List Key×Addr×Value)},KT H l m->∀ x∈m,(tupleKind (aW P w)).is h x.1 x.2.1:=by
  intro l m q;induction q with
  | nil=>intro x hx;exact nomatch hx
  | @cons p q ps qs hq t ih=>
   intro x hx;rcases zN.mp hx with e | hx
   ·subst e;exact nC ok (by rw [<-hq.1];exact hq.2.1)
   ·exact ih x hx
 exact all r x hx
theorem Yi {kvs:List (List Key×V)}(ok:gZ P w H h)(e:H a=some (.dT kvs)):kvs.length<=sizeLine/\(a == sysModules)=false /\
  ∃ xs,KT H kvs xs/\h.DictOfH (tupleKind (aW P w)) a xs:=ud ok (.inl e)
end
def jG (H:Hp)(a:Addr)(y:V)(r:Option V):Prop:=
 (∃ kvs k,Rd H a (.dK kvs)/\y=kV k/\r=cU kvs k)\/∃ kvs k b,Rd H a (.dT kvs)/\y=.ref b/\H b=some (.tup (k.map kV))/\r=cU kvs k
def NW (H:Hp)(a:Addr)(y v:V)(H':Hp):Prop:=
 (∃ kvs k,H a=some (.dK kvs)/\y=kV k/\kvs.length < sizeLine/\H'=upd H a (.dK (putK kvs k v))) \/
 ∃ kvs k b,H a=some (.dT kvs)/\y=.ref b/\H b=some (.tup (k.map kV))/\kvs.length < sizeLine/\H'=upd H a (.dT (putK kvs k v))
theorem jG.k {H:Hp}{a:Addr}{kvs:List (Key×V)}{k:Key}(e:H a=some (.dK kvs)):jG H a (kV k) (cU kvs k):=.inl ⟨kvs,k,.inl e,rfl,rfl⟩
theorem NW.k {H:Hp}{a:Addr}{kvs:List (Key×V)}{k:Key}{v:V}(e:H a=some (.dK kvs))(hl:kvs.length < sizeLine):NW H a (kV k) v (upd H a (.dK (putK kvs k v))):=.inl ⟨kvs,k,e,rfl,hl,rfl⟩
section
variable {X:Cx}{ai:List (Addr×Obj)}{σ:St}{H:Hp}{s:Shared}{a:Addr}{y v:V}{u r:Value}{o:Option V}{A:Around}{E:Value->Shared->Prop}
theorem Inv.big (I:Inv X ai σ H s):sysModules < s.heap.objs.size:=by have h:mainGlobals < s.heap.objs.size:=(I.mod.glob.keeps I.bk).lt;exact Nat.lt_trans (by decide) h
theorem NO {Q:Value->Shared->Prop}(hu:A.units + 1 < cLine)(I:Inv X ai σ H s)(g:jG H a y (some v))(ry:RelV y u)(h:∀ w' s',Inv X ai σ H s'->RelV v w'->Q w' s') :
  wpAny (model X.prog X.w) A (getItem (.ref a) u) Q E s:=by
 rcases g with ⟨kvs,k,e,ey,l⟩ | ⟨kvs,k,b,e,ey,eb,l⟩
 ·subst ey;obtain ⟨z,hd,vs,rel,dd⟩:=ue I.aR e;obtain ⟨w',hw,u9⟩:=gm.some_of (v:=v) (o:=valueAt vs k) (by rw [l];exact rel.val k);exact wpAny_getItem_of (nF ry) dd.mapOf hw (h w' _ (I.tok _) u9)
 ·subst ey;cases (show u=Value.ref b from ry);obtain ⟨z,hd,xs,rel,dd⟩:=ud I.aR e;obtain ⟨w',hw,u9⟩:=gm.some_of (v:=v) (o:=(atKey xs k).map (·.2)) (by rw [l];exact rel.val k);obtain ⟨p,hp,Xw⟩:=Option.map_eq_some_iff.mp hw;refine wpAny_getItem_heap (tupleKind_room_in1 hu) (nC I.aR eb) dd hp ?_;rw [Xw];exact h w' _ (I.tok _) u9
theorem acG {Q:Value->Shared->Prop}(hu:A.units + 1 < cLine)(I:Inv X ai σ H s)(g:jG H a y o)(ry:RelV y u)(h:∀ s',Inv X ai σ H s'->Q (.bool o.isSome) s') :
  wpAny (model X.prog X.w) A (compareOp .In u (.ref a)) Q E s:=by
 rcases g with ⟨kvs,k,e,ey,l⟩ | ⟨kvs,k,b,e,ey,eb,l⟩
 ·subst ey;obtain ⟨z,hd,vs,rel,dd⟩:=ue I.aR e;refine wpAny_in_of (nF ry) hd dd.mapOf ?_;rw [<-(rel.val k).ie,<- l];exact h _ (I.tok _)
 ·subst ey;cases (show u=Value.ref b from ry);obtain ⟨z,hd,xs,rel,dd⟩:=ud I.aR e;refine wpAny_in_heap (tupleKind_room_in1 hu) (nC I.aR eb) hd dd ?_;have q:=(rel.val k).ie;rw [yn] at q;rw [<-q,<- l];exact h _ (I.tok _)
theorem mz {h':Heap}{t':Nat}{ob:HO}(I:Inv X ai σ H s)(mu:YE (H a))(hs:Heap.SameBut a s.heap h')(he:∃ q,h'.get? a=some q)(new:bu X.prog X.w (upd H a ob) h' a ob) :
  Inv X ai σ (upd H a ob) { s with heap:=h',toks:=t' }:=
 I.write (x:=a) (e:=a) mu (.inl rfl) (λb q hb z=>(hs.2 b hb).trans z) he new
theorem vP {P:Program}{w:World}{H':Hp}{h':Heap}{kvs:List (Key×V)}{vs:List (Key×Value)}(z:kvs.length<=sizeLine)(hd:(a == sysModules)=false)(rel:KV kvs vs)(dd:h'.DictOf (aW P w) a vs) :
  bu P w H' h' a (.dK kvs):=⟨z,hd,vs,rel,dd⟩
theorem NN {H':Hp}{Q:Unit->Shared->Prop}(hu:A.units + 1 < cLine)(I:Inv X ai σ H s)(g:NW H a y v H')(ry:RelV y u)(rv:RelV v r)(h:∀ s',Inv X ai σ H' s'->Q () s') :
  wpAny (model X.prog X.w) A (setItem (.ref a) u r) Q E s:=by
 rcases g with ⟨kvs,k,e,ey,l,eH⟩ | ⟨kvs,k,b,e,ey,eb,l,eH⟩
 ·subst ey eH;obtain ⟨z,hd,vs,rel,dd⟩:=uf I.aR e;have hz:vs.length<=sizeLine:=by rw [<-rel.length];exact z
  have hl:(putK kvs k v).length<=sizeLine:=by have:=eY kvs k v;omega
  refine wpAny_setItem_pairs (hsz:=hz) (nF ry) dd λh' QX hs=>h _ ?_;have he:∃ q,h'.get? a=some q:=let ⟨q,_,_,hq,_⟩:=QX;⟨q,hq⟩;exact mz I (by rw [e];exact True.intro) hs he (vP hl hd (rel.put k rv) QX)
 ·subst ey eH;cases (show u=Value.ref b from ry);obtain ⟨z,hd,xs,rel,dd⟩:=Yi I.aR e;have hz:xs.length<=sizeLine:=by rw [<-Paired.length rel];exact z
  have hl:(putK kvs k v).length<=sizeLine:=by have:=eY kvs k v;omega
  refine wpAny_setItem_heap (hsz:=hz) (tupleKind_room_in1 hu) (nC I.aR eb) dd λh' QX hs=>h _ ?_;obtain ⟨q,es,ep,hq,h2,h3,h4,_,h5⟩:=QX;refine mz I (by rw [e];exact True.intro) hs ⟨q,hq⟩ ⟨hl,hd,_,(rel.put k eb rv).keeps λc ys ec=>?_,q,es,ep,hq,h2,h3,h4,h5⟩;rw [xl (wU ec e (λz=>nomatch z))];exact ec
end
section
variable {X:Cx}{ai:List (Addr×Obj)}{σ:St}{H:Hp}{s:Shared}{a:Addr}{kvs:List (Key×V)}{k:Key}{u:Value}{A:Around}{E:Value->Shared->Prop}
theorem NP {Q:Unit->Shared->Prop}(I:Inv X ai σ H s)(e:H a=some (.dK kvs))(ry:RelV (kV k) u)(l:(cU kvs k).isSome=true)(h:∀ s',Inv X ai σ (upd H a (.dK (nV kvs k))) s'->Q () s') :
  wpAny (model X.prog X.w) A (delItem (.ref a) u) Q E s:=by
 obtain ⟨z,hd,vs,rel,dd⟩:=uf I.aR e;refine wpAny_delItem_slot dd.typeIs (by decide) PySem.F.slot_dict_delitem
  (call_meetsIn PySem.F.slot_dict_delitem dd.typeIs PySem.F.entry_dict_delitem (PySem.F.args_dict_delitem_2 _ _) (meets_dict_delitem_pairs (aW X.prog X.w) a (nF ry)) ⟨vs,dd,by rw [<-rel.length];exact z,by rw [<-(rel.val k).ie];exact l,λh' QX hs=>h _ ?_⟩)
 have he:∃ q,h'.get? a=some q:=let ⟨q,_,_,hq,_⟩:=QX;⟨q,hq⟩;exact mz I (by rw [e];exact True.intro) hs he (vP (zi (Qi kvs k) z) hd (rel.drop k) QX)
end
def YD (i:Expr):Prop:=∀ ov iv,subscripted i false ov iv=operate [ov,iv] (getItem ov iv)
theorem Ri {prog:Program}{w:World}{A:Around}{E:Value->Shared->Prop}{s:Shared}{env:Env}{value slice:Expr}{pos:Pos}{T id:String}{Q:Value->Shared->Prop}
  (hl:typeLookup (.type T) "__getitem__" = pure (some (.builtin id))) (hs:YD slice)
  (h:wpAny (model prog w) A (eval value env) (λo aS=>wpAny (model prog w) A (eval slice env) (λi mP=>mP.TypeIs o T/\wpAny (model prog w) A (getItem o i) Q E mP) E aS) E s) :
  wpAny (model prog w) A (eval (.Subscript value slice pos) env) Q E s:=by
 refine Subscript_ (wpAny_mono h (λo aS nM=>wpAny_mono nM (λi mP P1=>?_) λ_ _ x=>x) λ_ _ x=>x);obtain ⟨hT,P1⟩:=P1;unfold subscriptTail;refine wpAny_bind ?_;rw [getitemInPython_of_ne hT.not_modules];refine wpAny_bind (wpAny_specialOf hT hl ?_);have fin:wpAny (model prog w) A (subscripted slice false o i) (λr MM=>wpAny (model prog w) A (letTemporaryGo value o r >>= λ_=>pure r) Q E MM) E mP:=by
  rw [hs o i];exact wpAny_operating (wpAny_mono P1 (λr MM Sd=>wpAny_bind (wpAny_letTemporaryGo (wpAny_pure Sd))) λ_ _ x=>x)
 first
  | exact wpAny_pure (wpAny_bind fin)
  | exact wpAny_bind (wpAny_pure (wpAny_bind fin))
  | exact wpAny_bind fin
theorem uh {X:Cx}{ai:List (Addr×Obj)}{σ:St}{H:Hp}{s:Shared}{a:Addr}{y:V}{o:Option V}(I:Inv X ai σ H s)(g:jG H a y o):s.TypeIs (.ref a) "dict" := by
 rcases g with ⟨kvs,k,e,_,_⟩ | ⟨kvs,k,b,e,_,_,_⟩
 ·obtain ⟨_,_,vs,_,dd⟩:=ue I.aR e;exact dd.typeIs
 ·obtain ⟨_,_,xs,_,dd⟩:=ud I.aR e;exact dd.typeIs
def Wf (td ty:TE):TE:=fun σ H Q=>td σ H λx H1=>ty σ H1 λy H2=>∃ a v,x=.ref a/\jG H2 a y (some v)/\Q v H2
def Wx (td ty tv:TE):TS:=λD σ H=>tv σ H λv H1=>td σ H1 λx H2=>ty σ H2 λy H3=>∃ a H4,x=.ref a/\NW H3 a y v H4/\D.nx σ H4
def Wy (td ty:TE):TS:=λD σ H=>td σ H λx H1=>ty σ H1 λy H2=>∃ a kvs k,x=.ref a/\H2 a=some (.dK kvs)/\y=kV k/\(cU kvs k).isSome=true/\D.nx σ (upd H2 a (.dK (nV kvs k)))
section
variable {X:Cx}{o i e value:Expr}{pos pos' Rb:Pos}{td ty tv:TE}
theorem RI (hu:X.A.units + 1 < cLine)(ho:PE X o td)(hi:PE X i ty)(hs:YD i):PE X (.Subscript o i pos) (Wf td ty):=by intro ai s σ H Q I h;refine Ri PySem.F.slot_dict_getitem.lookup hs (aZ (ho ai s σ H _ I h) λu s1 ZO=>?_);obtain ⟨x,H1,I1,rx,q1⟩:=ZO;refine aZ (hi ai s1 σ H1 _ I1 q1) λiv s2 ZN=>?_;obtain ⟨y,H2,I2,ry,a,v,ex,g,q2⟩:=ZN;subst ex;obtain rfl:u=Value.ref a:=rx;exact ⟨uh I2 g,NO hu I2 g ry λw' s3 I3 u9=>⟨v,H2,I3,u9,q2⟩⟩
theorem LW (hu:X.A.units + 1 < cLine)(ho:PE X o td)(hi:PE X i ty)(hv:PE X value tv)(hs:swapsWith value (some (.Subscript o i pos')) pos.line X.env=pure false) :
  PS X (.Assign [.Subscript o i pos'] value pos) (Wx td ty tv):=by
 intro ai s σ H D I h;refine wpAny_Assign_Subscript (aZ (hv ai s σ H _ I h) λr s1 ZM=>?_) hs;obtain ⟨v,H1,I1,rv,q1⟩:=ZM;refine aZ (ho ai s1 σ H1 _ I1 q1) λu s2 ZL=>?_;obtain ⟨x,H2,I2,rx,q2⟩:=ZL;refine aZ (hi ai s2 σ H2 _ I2 q2) λiv s3 ZK=>?_;obtain ⟨y,H3,I3,ry,a,H4,ex,g,q3⟩:=ZK;subst ex;obtain rfl:u=Value.ref a:=rx;exact NN hu I3 g ry rv λs4 I4=>⟨σ,H4,I4,q3⟩
theorem LX (ho:PE X o td)(hi:PE X i ty):PS X (.Delete [.Subscript o i Rb] pos) (Wy td ty):=by intro ai s σ H D I h;refine wpAny_Delete (wpAny_deleteEach_cons (wpAny_delete_Subscript (aZ (ho ai s σ H _ I h) λu s1 ZJ=>?_)));obtain ⟨x,H1,I1,rx,q1⟩:=ZJ;refine aZ (hi ai s1 σ H1 _ I1 q1) λiv s2 ZI=>?_;obtain ⟨y,H2,I2,ry,a,kvs,k,ex,e,ey,l,q2⟩:=ZI;subst ex ey;obtain rfl:u=Value.ref a:=rx;exact NP I2 e ry l λs3 I3=>wpAny_deleteEach_nil ⟨σ,_,I3,q2⟩
end
theorem ug {P:Program}{w:World}{H:Hp}(h:Heap)(hb:sysModules < h.objs.size):bu P w H (h.push { cls:=.type "dict", data:=.dict #[] }) h.objs.size (.dK []):=
 ⟨zX _,beq_eq_false_iff_ne.mpr (Ne.symm (za hb)),[],.nil,Heap.DictOf.new h⟩
def TJ:TE:=λ_ H Q=>∀ p,H p=none->Q (.ref p) (upd H p (.dK []))
section
variable {X:Cx}{pos:Pos}
theorem O2:PE X (.Dict [] [] pos) TJ:=λai s σ H Q I h=>
 wpAny_Dict_empty ⟨.ref s.heap.objs.size,_,I.laid (a:=s.heap.objs.size) (o:=.dK []) (t':=s.toks) (λ_ _ q=>Heap.get?_push_of_some _ q) (zE _) (ug s.heap I.big),rfl,h _ (I.aR.fresh (zE _))⟩
end
def uP:List (TE×TE)->St->Hp->(List (V×V)->Hp->Prop)->Prop
 | [],_,H,Q=>Q [] H
 | (tk,tv)::r,σ,H,Q=>tk σ H λx H1=>tv σ H1 λy H2=>uP r σ H2 λps H3=>Q ((x,y)::ps) H3
abbrev VV:List (V×V)->List (Value×Value)->Prop:=Paired λp q=>RelV p.1 q.1/\RelV p.2 q.2
def Zy (X:Cx)(pos:Pos)(keys:List (Option Expr))(values:List Expr)(Ra:List (TE×TE)):Prop:=
 ∀ (ai:List (Addr×Obj)) (s:Shared) (σ:St) (H:Hp) (Q:List (V×V)->Hp->Prop),Inv X ai σ H s->uP Ra σ H Q ->
  wpAny (model X.prog X.w) X.A (evalPairs (pairTrees keys values X.env pos)) (λvs s'=>∃ ps H',Inv X ai σ H' s'/\VV ps vs/\Q ps H') X.xe s
theorem RC {X:Cx}{pos:Pos}:Zy X pos [] [] []:=λai s σ H Q I h=>pairTrees_nil_walk ⟨[],H,I,.nil,h⟩
theorem OX {X:Cx}{pos:Pos}{k v:Expr}{ks:List (Option Expr)}{vs:List Expr}{tk tv:TE}{Ra:List (TE×TE)}(hk:PE X k tk)(hv:PE X v tv)(hr:Zy X pos ks vs Ra) :
  Zy X pos (some k::ks) (v::vs) ((tk,tv)::Ra):=λai s σ H Q I h=>
 pairTrees_cons_walk (aZ (hk ai s σ H _ I h) λu s1 ⟨x,H1,I1,rx,q1⟩=>aZ (hv ai s1 σ H1 _ I1 q1) λw2 s2 ⟨y,H2,I2,ry,q2⟩=>
  aZ (hr ai s2 σ H2 _ I2 q2) λws s3 ⟨ps,H3,I3,rel,q3⟩=>⟨(x,y)::ps,H3,I3,.cons ⟨rx,ry⟩ rel,q3⟩)
def j6 (kvs more:List (Key×V)):List (Key×V):=more.foldl (λacc kv=>putK acc kv.1 kv.2) kvs
theorem KV.merge:∀ {more:List (Key×V)}{rs:List (Key×Value)}{kvs:List (Key×V)}{vs:List (Key×Value)},KV more rs->KV kvs vs->KV (j6 kvs more) (merged vs rs):=by
 intro more rs kvs vs r;unfold KV at r;induction r generalizing kvs vs with
 | nil=>intro q;exact q
 | @cons p q ps qs h t ih=>
  intro r0;have e:KV (putK kvs p.1 p.2) (stored vs q.1 q.2):=by
   have:=r0.put p.1 h.2;rw [<-h.1];exact this
  exact ih e
theorem iI:∀ (more kvs:List (Key×V)),(j6 kvs more).length<=kvs.length + more.length
 | [],kvs=>by show kvs.length<=kvs.length + 0;omega
 | p::r,kvs=>by
  have h1:=iI r (putK kvs p.1 p.2);have h2:=eY kvs p.1 p.2;show (j6 (putK kvs p.1 p.2) r).length<=_;rw [zR];omega
theorem oq {P:Program}{w:World}:∀ {kvs:List (Key×V)}{ws:List (Value×Value)},VV (kvs.map λkv=>(kV kv.1,kv.2)) ws->∃ rs,Carries (aW P w) ws rs/\KV kvs rs
 | [],_,r=>by rw [yG] at r;cases r;exact ⟨[],True.intro,.nil⟩
 | p::kvs,_,r=>by
  rw [zZ] at r;cases r with
  | @cons a b as bs h t=>
   obtain ⟨rs,c,q⟩:=oq (P:=P) (w:=w) t;obtain ⟨b1,b2⟩:=b;exact ⟨(p.1,b2)::rs,⟨nF h.1,rfl,c⟩,.cons ⟨rfl,h.2⟩ q⟩
def We (Ra:List (TE×TE)):TE:=fun σ H Q=>∀ p,H p=none->uP Ra σ (upd H p (.dK [])) λps H2=>H2 p=some (.dK [])/\∃ kvs:List (Key×V),ps=kvs.map (λkv=>(kV kv.1,kv.2))/\kvs.length<=15/\Q (.ref p) (upd H2 p (.dK (j6 [] kvs)))
theorem RH {X:Cx}{pos:Pos}{keys:List (Option Expr)}{values:List Expr}{Ra:List (TE×TE)}(h:Zy X pos keys values Ra)(U1:keys.all (·.isSome)=true)(hl:keys.length=values.length)(h0:keys≠[])
  (h15:keys.length<=15):PE X (.Dict keys values pos) (We Ra):=by
 intro ai s σ H Q I q;have hn:=I.aR.fresh (zE s.heap.objs.size);have I1:=I.laid (a:=s.heap.objs.size) (o:=.dK []) (h':=s.heap.push { cls:=.type "dict", data:=.dict #[] }) (t':=s.toks) (λ_ _ q=>Heap.get?_push_of_some _ q) (zE _) (ug s.heap I.big);refine wpAny_Dict_walk (knd:=aW X.prog X.w) U1 hl h0 h15 (aZ (h ai _ σ _ _ I1 (q _ hn)) λws s2 ZH=>?_);obtain ⟨ps,H2,I2,rel,e,kvs,ep,lk,q2⟩:=ZH;subst ep;obtain ⟨rs,c,rk⟩:=oq (P:=X.prog) (w:=X.w) rel;obtain ⟨z,hd,vs0,r0,dd⟩:=uf I2.aR e;cases r0;refine ⟨rs,c,dd,λh' QX hs=>⟨.ref s.heap.objs.size,_,?_,rfl,q2⟩⟩;have hz:(j6 [] kvs).length<=sizeLine:=by
  have h1:=iI kvs [];rw [yT] at h1;rw [sizeLine_eq];omega
 have he:∃ q,h'.get? s.heap.objs.size=some q:=let ⟨q,_,_,hq,_⟩:=QX;⟨q,hq⟩;exact mz I2 (by rw [e];exact True.intro) hs he (vP hz hd (rk.merge .nil) QX)
section
variable {X:Cx}{ai:List (Addr×Obj)}{σ:St}{H:Hp}{s:Shared}{a:Addr}{y d:V}{u r:Value}{o:Option V}{A:Around}{E:Value->Shared->Prop}
theorem Vl {Q:Value->Shared->Prop}(hu:A.units + 1 < cLine)(I:Inv X ai σ H s)(g:jG H a y o)(ry:RelV y u)(h:∀ w' s',Inv X ai σ H s'->RelV (o.getD .bV) w'->Q w' s') :
  wpAny (model X.prog X.w) A (call (.builtin "dict.get") [.ref a,u]) Q E s:=by
 rcases g with ⟨kvs,k,e,ey,l⟩ | ⟨kvs,k,b,e,ey,eb,l⟩
 ·subst ey;obtain ⟨z,hd,vs,rel,dd⟩:=ue I.aR e;refine call_meetsIn PySem.F.slot_dict_get dd.typeIs PySem.F.entry_dict_get (PySem.F.args_dict_get_2 _ _) (meets_dict_get (aW X.prog X.w) a (nF ry) hd) ⟨_,dd.mapOf,h _ _ (I.tok _) ?_⟩;rw [l];exact (rel.val k).getD rfl
 ·subst ey;cases (show u=Value.ref b from ry);obtain ⟨z,hd,xs,rel,dd⟩:=ud I.aR e;refine call_meetsIn PySem.F.slot_dict_get dd.typeIs PySem.F.entry_dict_get (PySem.F.args_dict_get_2 _ _) (meetsH_dict_get (tupleKind (aW X.prog X.w)) a b hd) ⟨tupleKind_room_in1 hu,k,xs,nC I.aR eb,dd,h _ _ (I.tok _) ?_⟩;rw [l];exact (rel.val k).getD rfl
end
section
variable {X:Cx}{o e f:Expr}{apos o6:Pos}{td ty tx:TE}
end
section
variable {X:Cx}{ai:List (Addr×Obj)}{σ:St}{H:Hp}{s:Shared}{a:Addr}{kvs:List (Key×V)}{A:Around}{E:Value->Shared->Prop}
end
section
variable {X:Cx}{ai:List (Addr×Obj)}{σ:St}{H:Hp}{s:Shared}{a:Addr}{y:V}{u:Value}{A:Around}{E:Value->Shared->Prop}
end
end L2
namespace HT
open PySem PyProof.Rows
section
open PySem.SeqAt
open PySem.AutoSeq1 (wpAny_loadPart')
open PySem.MeetsSeq PySem.MeetsSeq2 PySem.MeetsSeq3
end
section
variable {prog:Program}{w:World}{A:Around}{E:Value->Shared->Prop}{s:Shared}
def cJ (n d:Nat):Option Int->Nat
 | none=>d
 | some v=>if v < 0 then (v + (n:Int)).toNat else min v.toNat n
theorem qU (n d k:Nat):cJ n d (some (k:Int))=min k n:=by show (if (k:Int) < 0 then ((k:Int) + (n:Int)).toNat else min (k:Int).toNat n)=min k n;rw [if_neg (by omega),zf]
theorem T7 (n d:Nat)(hd:d<=n)(o:Option Int):cJ n d o<=n:=by
 cases o with
 | none=>exact hd
 | some v=>
  show (if v < 0 then (v + (n:Int)).toNat else min v.toNat n)<=n;by_cases hv:v < 0
  ·rw [if_pos hv];omega
  ·rw [if_neg hv];exact Nat.min_le_right _ _
theorem MA (v:Int)(n d:Nat):(if v < 0 then max (v + (n:Int)) 0 else min v (n:Int))=((cJ n d (some v):Nat):Int):=by
 show (if v < 0 then max (v + (n:Int)) 0 else min v (n:Int))=(((if v < 0 then (v + (n:Int)).toNat else min v.toNat n):Nat):Int);by_cases hv:v < 0
 ·simp only [if_pos hv];omega
 ·simp only [if_neg hv];omega
theorem vZ (lo hi:Option Int)(n:Nat):Builtin.Slice.sliceAdjust lo hi 1 (n:Int)=(((cJ n 0 lo:Nat):Int),((cJ n n hi:Nat):Int)):=by
 have h1:¬ ((1:Int) < 0):=by omega
 unfold Builtin.Slice.sliceAdjust;simp only [h1,if_false];refine Prod.ext ?_ ?_
 ·cases lo with
  | none=>rfl
  | some v=>exact MA v n 0
 ·cases hi with
  | none=>rfl
  | some v=>exact MA v n n
theorem vg (i j:Nat):Builtin.Slice.slicePlaces (i:Int) (j:Int) 1=j - i:=by
 unfold Builtin.Slice.slicePlaces;have h1:(1:Int) > 0:=by omega
 simp only [h1,if_true,Int.ediv_one];split <;> omega
theorem mS {v:Value}{o:Option Int}{Q:Option Int->Shared->Prop}(p:IsPart v o)(h:Q o s):wpAny (model prog w) A (Builtin.Slice.slicePartIndex v) Q E s:=by
 cases p with
 | none=>exact slicePart_none h
 | int i t=>exact slicePart_int h
theorem jV {sl:Addr}{vl vu:Value}{lo hi:Option Int}{n:Nat}{Q:Int×Int×Nat->Shared->Prop}(hs:s.heap.IsSliceOf sl vl vu .none)(pl:IsPart vl lo)(pu:IsPart vu hi)
  (h:Q (((cJ n 0 lo:Nat):Int),1,cJ n n hi - cJ n 0 lo) s):wpAny (model prog w) A (Builtin.Slice.sliceApplied (.ref sl) (pure (n:Int))) Q E s:=by
 obtain ⟨os,Xx,hcs,Zh⟩:=id hs;unfold Builtin.Slice.sliceApplied Builtin.Slice.sliceFields;refine wpAny_bind (wpAny_bind (wpAny_field Xx Zh (x:=vl) rfl (wpAny_bind (wpAny_field Xx Zh (x:=vu) rfl (wpAny_bind (wpAny_field Xx Zh (x:=.none) rfl (wpAny_pure ?_)))))));refine wpAny_bind (slicePart_none ?_);show wpAny _ _ (if ((1:Int) == 0)=true then _ else _) _ _ s;rw [if_neg (by decide)];refine wpAny_bind (mS pl (wpAny_bind (mS pu (wpAny_bind (wpAny_pure ?_)))));show wpAny _ _ (match Builtin.Slice.sliceAdjust lo hi 1 (n:Int) with | (lo,hi)=>pure (lo,(1:Int),Builtin.Slice.slicePlaces lo hi 1)) _ _ s;rw [vZ lo hi n];show wpAny _ _ (pure (((cJ n 0 lo:Nat):Int),(1:Int),Builtin.Slice.slicePlaces ((cJ n 0 lo:Nat):Int) ((cJ n n hi:Nat):Int) 1)) _ _ s;rw [vg];exact wpAny_pure h
theorem OY (xs:Array Value)(i k:Nat):((List.range k).filterMap λ(m:Nat)=>xs[((i:Int) + (m:Int) * 1).toNat]?).toArray=((xs.toList.drop i).take k).toArray:=by
 have e:(λ(m:Nat)=>xs[((i:Int) + (m:Int) * 1).toNat]?)=λm=>xs[i + m]?:=by
  funext m;have:((i:Int) + (m:Int) * 1).toNat=i + m:=by omega
  rw [this]
 rw [e];have:=pick_run xs i k;rw [List.filterMap_map] at this;have e2:((λx=>xs[x]?) ∘ λx=>i + x)=λm=>xs[i + m]?:=rfl;rw [e2] at this;rw [this]
theorem jo {t sl:Addr}{items:Array Value}{vl vu:Value}{lo hi:Option Int}{Q:Value->Shared->Prop}(ht:IsTup s.heap t items)(hs:s.heap.IsSliceOf sl vl vu .none)(pl:IsPart vl lo)(pu:IsPart vu hi)
  (hw:¬ (cJ items.size 0 lo=0/\cJ items.size items.size hi=items.size))
  (h:Q (.ref s.heap.objs.size) { s with heap:=s.heap.push { cls:=.type "tuple", data:=.seq ((items.toList.drop (cJ items.size 0 lo)).take (cJ items.size items.size hi - cJ items.size 0 lo)).toArray } })
  (hsz:items.size<=sizeLine):wpAny (model prog w) A (getItem (.ref t) (.ref sl)) Q E s:=by
 have Mg:sizeOk (.seq ((items.toList.drop (cJ items.size 0 lo)).take (cJ items.size items.size hi - cJ items.size 0 lo)).toArray):=by
  show ((items.toList.drop (cJ items.size 0 lo)).take (cJ items.size items.size hi - cJ items.size 0 lo)).toArray.size<=sizeLine;rw [zM,z8,List.length_drop,Array.length_toList];omega
 have hj:cJ items.size items.size hi<=items.size:=T7 _ _ (zE _) hi;obtain ⟨os,Xx,hcs,Zh⟩:=id hs;have hTs:s.TypeIs (.ref sl) "slice" := ⟨os,Xx,hcs⟩;unfold getItem;try with_reducible refine wpAny_holding ?_
 first | refine wpAny_bind (wpAny_pure ?_) | skip
 refine wpAny_bind (wpAny_sequenceKey ht.typeIs (by decide) ?_);refine wpAny_bind (wpAny_callSpecial?_slot (name:=Str.ofString "__getitem__") ht.typeIs PyProof.Rows.slot_tuple_getitem
  (wpAny_call_entry PyProof.Rows.slot_tuple_getitem ht.typeIs entry_tuple_getitem ?_ (args_tuple_getitem _ _)))
 show wpAny _ _ (Builtin.Tuple.tupleItemsOf (.ref t) >>= _) _ _ s;refine wpAny_bind (tupleItemsOf_ ht ?_);refine wpAny_bind (wpAny_typeOf hTs ?_);rw [if_pos (by decide)];refine wpAny_bind (jV hs pl pu ?_);have hno:¬ ((((cJ items.size 0 lo:Nat):Int) == 0 && (1:Int) == 1 && (cJ items.size items.size hi - cJ items.size 0 lo) == items.size)=true):=by
  intro q;rw [zc,zc] at q;have q1:((cJ items.size 0 lo:Nat):Int)=0:=eq_of_beq q.1.1;have q2:cJ items.size items.size hi - cJ items.size 0 lo=items.size:=eq_of_beq q.2;exact hw ⟨by omega,by omega⟩
 show wpAny _ _ (if (((cJ items.size 0 lo:Nat):Int) == 0 && (1:Int) == 1 && (cJ items.size items.size hi - cJ items.size 0 lo) == items.size)=true then _ else _) _ _ s;rw [if_neg hno,OY]
 first
  | exact wpAny_bind (m:=Builtin.Tuple.tupleExact _) (wpAny_newObj_type (wpAny_pure ⟨_,rfl,wpAny_pure h⟩) Mg)
  | exact wpAny_bind (m:=Builtin.Tuple.tupleExact _) (wpAny_newObj_type (wpAny_bind (wpAny_pure (wpAny_pure ⟨_,rfl,wpAny_pure h⟩))) Mg)
  | exact wpAny_bind (wpAny_bind (m:=Builtin.Tuple.tupleExact _) (wpAny_newObj_type (wpAny_pure (wpAny_pure ⟨_,rfl,wpAny_pure h⟩)) Mg))
  | exact wpAny_bind (wpAny_bind (m:=Builtin.Tuple.tupleExact _) (wpAny_newObj_type (wpAny_pure ⟨_,rfl,wpAny_pure h⟩) Mg))
end
end HT
namespace L2
open PySem PySem.Spec PyProof.Rows
abbrev TO:=St->Hp->(Option Int->Hp->Prop)->Prop
def PO (X:Cx)(e:Option Expr)(t:TO):Prop:=
 ∀ (ai:List (Addr×Obj)) (s:Shared) (σ:St) (H:Hp) (Q:Option Int->Hp->Prop),Inv X ai σ H s->t σ H Q ->
  wpAny (model X.prog X.w) X.A (evalPart e X.env) (λu s'=>∃ o H',Inv X ai σ H' s'/\IsPart u o/\Q o H') X.xe s
def ja:TO:=λ_ H Q=>Q none H
def pK (t:TE):TO:=fun σ H Q=>t σ H λx H1=>∃ i,x=.int i/\Q (some i) H1
section
variable {X:Cx}{e:Expr}{te:TE}{lo hi:Option Expr}{tl th:TO} {pos p2:Pos}
theorem l5:PO X none ja:=by intro ai s σ H Q I h;rw [evalPart_none];exact wpAny_pure ⟨none,H,I,.none,h⟩
theorem fV (h:PE X e te):PO X (some e) (pK te):=by intro ai s σ H Q I hw;rw [evalPart_some];refine aZ (h ai s σ H _ I hw) λu s1 ZG=>?_;obtain ⟨x,H1,I1,r1,q1⟩:=ZG;obtain ⟨i,rfl,q⟩:=q1;obtain ⟨t,rfl⟩:=r1;exact ⟨some i,H1,I1,.int i t,q⟩
def Yy (X:Cx)(r:V->Option Int->Option Int->Hp->VK->Prop):Prop:=
 ∀ (ai:List (Addr×Obj)) (s:Shared) (σ:St) (H:Hp) (x:V) (v vl vu:Value) (lo hi:Option Int) (sl:Addr) (Q:VK),Inv X ai σ H s->RelV x v->s.heap.IsSliceOf sl vl vu .none->IsPart vl lo->IsPart vu hi->r x lo hi H Q ->
  ∃ T id,typeLookup (.type T) "__getitem__" = pure (some (.builtin id))/\s.TypeIs v T/\wpAny (model X.prog X.w) X.A (getItem v (.ref sl)) (EP X ai σ Q) X.xe s
def V8 (r:V->Option Int->Option Int->Hp->VK->Prop)(te:TE)(tl th:TO):TE:=fun σ H Q=>te σ H λx H1=>tl σ H1 λl H2=>th σ H2 λu H3=>r x l u H3 Q
theorem gO {r:V->Option Int->Option Int->Hp->VK->Prop}(hr:Yy X r)(he:PE X e te)(hl:PO X lo tl)(hu:PO X hi th):PE X (.Subscript e (.Slice lo hi none p2) pos) (V8 r te tl th):=by intro ai s σ H Q I h;refine Subscript_ (aZ (he ai s σ H _ I h) λv s1 ZF=>?_);obtain ⟨x,H1,I1,r1,q1⟩:=ZF;refine wpAny_Slice (aZ (hl ai s1 σ H1 _ I1 q1) λvl s2 ZE=>?_);obtain ⟨l,H2,I2,pl,q2⟩:=ZE;refine aZ (hu ai s2 σ H2 _ I2 q2) λvu s3 ZD=>?_;obtain ⟨u,H3,I3,pu,q3⟩:=ZD;rw [evalPart_none];refine wpAny_pure ?_;have I4:Inv X ai σ H3 { s3 with heap:=s3.heap.push { cls:=.type "slice", data:=.fields #[vl,vu,.none] } }:=I3.kept (t':=s3.toks) λb ob q=>Heap.get?_push_of_some _ q;obtain ⟨T,id,hT,ht,hg⟩:=hr ai { s3 with heap:=s3.heap.push { cls:=.type "slice", data:=.fields #[vl,vu,.none] } } σ H3 x v vl vu l u s3.heap.objs.size Q I4 r1 (Heap.IsSliceOf.new ..) pl pu q3;show wpAny (model X.prog X.w) X.A (subscriptTail e (.Slice lo hi none p2) v (.ref s3.heap.objs.size)) (EP X ai σ Q) X.xe { s3 with heap:=s3.heap.push { cls:=.type "slice", data:=.fields #[vl,vu,.none] } };exact tail_any (ops:=[.ref s3.heap.objs.size,v]) ht hT hg (by with_unfolding_all rfl)
def nZ (xs:List V)(lo hi:Option Int):List V:=(xs.drop (HT.cJ xs.length 0 lo)).take (HT.cJ xs.length xs.length hi - HT.cJ xs.length 0 lo)
theorem lI (xs:List V)(lo hi:Option Int):(nZ xs lo hi).length<=xs.length:=by unfold nZ;rw [z8,List.length_drop];omega
def WB (K:PySem.W.Frag):V->Option Int->Option Int->Hp->VK->Prop:=λx lo hi H Q=>∃ a xs,x=.ref a/\bT K H a xs /\
 ¬ (HT.cJ xs.length 0 lo=0/\HT.cJ xs.length xs.length hi=xs.length)/\∀ p,H p=none->Q (.ref p) (upd H p (.tup (nZ xs lo hi)))
theorem T6:Yy X (WB X.K):=by
 intro ai s σ H x v vl vu lo hi sl Q I rx hs pl pu h;obtain ⟨a,xs,rfl,hx,hw,q⟩:=h;cases rx;obtain ⟨az,r,ht,hz⟩:=I.tuple hx;have hlen:az.toArray.size=xs.length:=by rw [zM];exact r.length.symm
 refine ⟨"tuple", _,PyProof.Rows.slot_tuple_getitem.lookup,ht.typeIs,?_⟩;refine HT.jo ht hs pl pu (by rw [hlen];exact hw) ?_ (by rw [hlen];exact hz);rw [hlen];refine ⟨.ref s.heap.objs.size,_,I.laid (t':=s.toks) (o:=.tup (nZ xs lo hi)) (λb ob q=>Heap.get?_push_of_some _ q) (zE _) ?_,rfl,q _ (I.aR.fresh (zE _))⟩;exact ⟨⟨zi (lI xs lo hi) hz,nj⟩,_,(r.drop (HT.cJ xs.length 0 lo)).take (HT.cJ xs.length xs.length hi - HT.cJ xs.length 0 lo),IsTup.new _ _⟩
end
def uE (n:Nat)(i:Int):Option Nat:=if 0<=i then (if i < n then some i.toNat else none) else if -(n:Int)<=i then some (i + n).toNat else none
def dI {α:Type}(xs:List α)(i:Int):Option α:=(uE xs.length i).bind λj=>xs[j]?
theorem rE {n:Nat}{i:Int}{j:Nat}(h:uE n i=some j):seqIndex? i n=some j/\j < n/\-(n:Int)<=i/\i < n:=by
 unfold uE at h;by_cases h0:0<=i
 ·rw [if_pos h0] at h;by_cases h1:i < n
  ·rw [if_pos h1] at h;have e:i.toNat=j:=Option.some.inj h;exact ⟨by rw [seqIndex_of h0 h1,e],by omega,by omega,h1⟩
  ·rw [if_neg h1] at h;cases h
 ·rw [if_neg h0] at h;by_cases h1:-(n:Int)<=i
  ·rw [if_pos h1] at h;have e:(i + n).toNat=j:=Option.some.inj h;exact ⟨by rw [seqIndex_neg (by omega) h1,e],by omega,h1,by omega⟩
  ·rw [if_neg h1] at h;cases h
theorem MC {α:Type}{xs:List α}{i:Int}{v:α}(h:dI xs i=some v):∃ j,seqIndex? i xs.length=some j/\xs[j]?=some v/\j < xs.length/\-(xs.length:Int)<=i/\i < xs.length:=by
 unfold dI at h;cases e:uE xs.length i with
 | none=>rw [e] at h;cases h
 | some j=>
  rw [e] at h;obtain ⟨h1,h2,h3,h4⟩:=rE e;exact ⟨j,h1,h,h2,h3,h4⟩
theorem wB {α:Type}{xs:List α}{j:Nat}{v:α}(h:xs[j]?=some v):dI xs (j:Int)=some v:=by
 have hj:j < xs.length:=(zB.mp h).1;have e:uE xs.length (j:Int)=some j:=by
  unfold uE;rw [if_pos (by omega),if_pos (by omega)];simp
 unfold dI;rw [e];exact h
theorem oE {α:Type}(xs:List α)(v:α):dI (xs++[v]) (-1)=some v:=by
 have hl:(xs++[v]).length=xs.length + 1:=by simp
 have e:uE (xs++[v]).length (-1)=some xs.length:=by
  unfold uE;rw [hl,if_neg (by decide),if_pos (by omega)];congr 1;omega
 unfold dI;rw [e];show (xs++[v])[xs.length]?=some v;simp
def SH (b:Expr):Prop:=∀ o i,subscripted b false o i=operate [o,i] (getItem o i)
def YG (X:Cx)(r:R2):Prop:=
 ∀ (value slice:Expr) (ai:List (Addr×Obj)) (s:Shared) (σ:St) (H:Hp) (x y:V) (v u:Value) (Q:VK),Inv X ai σ H s->RelV x v->RelV y u->r x y H Q ->
  subscripted slice false v u=operate [v,u] (getItem v u)->wpAny (model X.prog X.w) X.A (subscriptTail value slice v u) (EP X ai σ Q) X.xe s
def YF (X:Cx)(id:String)(r:V->List V->Hp->VK->Prop):Prop:=
 ∀ (ai:List (Addr×Obj)) (s:Shared) (σ:St) (H:Hp) (x:V) (xs:List V) (v:Value) (us:List Value) (Q:VK),Inv X ai σ H s->RelV x v->Vals xs us->r x xs H Q ->
  wpAny (model X.prog X.w) X.A (call (.builtin id) (v::us)) (EP X ai σ Q) X.xe s
section
variable {X:Cx}{a b:Expr}{ta tb:TE}{pos:Pos}
theorem xu {r:R2}(hr:YG X r)(ha:PE X a ta)(hb:PE X b tb)(hs:SH b):PE X (.Subscript a b pos) (Rg r ta tb):=by intro ai s σ H Q I h;exact Subscript_ (Vp ha hb I h λv u s2 x y H2 I2 rx ry q=>hr a b ai s2 σ H2 x y v u Q I2 rx ry q (hs _ _))
def vf (K:PySem.W.Frag):R2:=λx y H Q=>∃ p xs i v,x=.ref p/\y=.int i/\aG K H p xs/\dI xs i=some v/\Q v H
def M3 (K:PySem.W.Frag):R2:=λx y H Q=>∃ p xs i v,x=.ref p/\y=.int i/\bT K H p xs/\dI xs i=some v/\Q v H
theorem R9:YG X (vf X.K):=by
 intro value slice ai s σ H x y v u Q I rx ry h hs;obtain ⟨p,xs,i,z,rfl,rfl,hq,he,q⟩:=h;cases rx;obtain ⟨t,rfl⟩:=ry;obtain ⟨az,r,pl,hz⟩:=I.list hq;obtain ⟨j,h1,h2,h3,h4,h5⟩:=MC he;obtain ⟨w,ew,u9⟩:=r.get h2;have hl:=r.length;have hn:=j7;have fin:EP X ai σ Q w s:=⟨z,H,I,u9,q⟩;by_cases h0:0<=i
 ·have hj:i.toNat=j:=by
   rw [seqIndex_of h0 h5] at h1;exact Option.some.inj h1
  exact item_listR pl.isList h0 (by omega) (by rw [hj];simpa using ew) fin hs
 ·have hj:(i + (az.toArray.size:Int)).toNat=j:=by
   rw [seqIndex_neg (by omega) h4] at h1;rw [zM,<- hl];exact Option.some.inj h1
  exact subscriptTail_builtinR (x:=w) pl.isList.typeIs slot_list_getitem.lookup
   (wpAny_getItem_list_neg (Q:=λr s'=>r=w/\EP X ai σ Q r s') pl.isList (by omega) (by rw [zM] <;> omega) (by omega) (by rw [hj];simpa using ew) ⟨rfl,fin⟩) hs
theorem UJ:YG X (M3 X.K):=by
 intro value slice ai s σ H x y v u Q I rx ry h hs;obtain ⟨p,xs,i,z,rfl,rfl,hq,he,q⟩:=h;cases rx;obtain ⟨t,rfl⟩:=ry;obtain ⟨az,r,pl,hz⟩:=I.tuple hq;obtain ⟨j,h1,h2,h3,h4,h5⟩:=MC he;obtain ⟨w,ew,u9⟩:=r.get h2;have hl:=r.length;have hn:=j7;have fin:EP X ai σ Q w s:=⟨z,H,I,u9,q⟩;exact subscriptTail_builtinR (x:=w) pl.typeIs slot_tuple_getitem.lookup
  (getItem_tuple (j:=j) (Q:=λr s'=>r=w/\EP X ai σ Q r s') pl (by omega) (by omega) (by rw [zM,<- hl];exact h1) (by simpa using ew) ⟨rfl,fin⟩) hs
theorem vo (az:List Value)(n j:Nat)(u:Value):Obj.mapSeq (·.setIfInBounds j u) { cls:=.type "list", data:=.seq az.toArray n }={ cls:=.type "list", data:=.seq (az.set j u).toArray n }:=by simp [Obj.mapSeq]
theorem Inv.lst {ai:List (Addr×Obj)}{σ:St}{H:Hp}{s:Shared}{p:Addr}{xs:List V}(I:Inv X ai σ H s)(h:H p=some (.lst xs)) :
  ∃ (az:List Value) (n:Nat),Vals xs az/\s.heap.get? p=some { cls:=.type "list", data:=.seq az.toArray n }/\xs.length<=sizeLine:=by
 obtain ⟨z,az,n,r,e⟩:=I.aR p _ h;exact ⟨az,n,r,e,z⟩
theorem Inv.Uv {ai:List (Addr×Obj)}{σ:St}{H:Hp}{s:Shared}{p:Addr}{xs ys:List V}{az its':List Value}{n n':Nat}{f:Obj->Obj}(I:Inv X ai σ H s)(h:H p=some (.lst xs))
  (ho:s.heap.get? p=some { cls:=.type "list", data:=.seq az.toArray n }) (hf:f { cls:=.type "list", data:=.seq az.toArray n }={ cls:=.type "list", data:=.seq its'.toArray n' }) (r:Vals ys its') (hz:ys.length<=sizeLine) (t:Nat) :
  Inv X ai σ (upd H p (.lst ys)) { s with heap:=s.heap.update p f,toks:=t }:=by
 have e:(s.heap.update p f).get? p=some { cls:=.type "list", data:=.seq its'.toArray n' }:=by
  rw [Heap.get?_update_self f ho (by rw [hf] <;> rfl),hf]
 refine I.write (x:=p) (e:=p) (by rw [h];trivial) (.inl rfl) (λb u hb q=>(Heap.get?_update_other _ _ (Ne.symm hb)).trans q) ⟨_,e⟩ ?_;exact ⟨hz,its',n',r,e⟩
def sX:V->V->V->Hp->(Hp->Prop)->Prop:=λo i v H Q=>∃ p xs k j,o=.ref p/\i=.int k/\H p=some (.lst xs)/\uE xs.length k=some j/\Q (upd H p (.lst (xs.set j v)))
theorem set_list:Vu X sX:=by
 intro ai s σ H o i v ov iv u Q I ro ri rv h;obtain ⟨p,xs,k,j,rfl,rfl,hp,hj,q⟩:=h;cases ro;obtain ⟨t,rfl⟩:=ri;obtain ⟨az,n,r,ho,hz⟩:=I.lst hp;obtain ⟨h1,h2,h3,h4⟩:=rE hj;have hl:=r.length;have hn:=j7;have I':Inv X ai σ (upd H p (.lst (xs.set j v))) { s with heap:=s.heap.update p (Obj.mapSeq (·.setIfInBounds j u)) }:=
  I.Uv hp ho (vo az n j u) (r.set rv j) (by rw [List.length_set];exact hz) s.toks
 by_cases h0:0<=k
 ·have hk:k.toNat=j:=by
   rw [seqIndex_of h0 h4] at h1;exact Option.some.inj h1
  exact PySem.W.ki_setAt ho h0 (by omega) (by rw [zM,<- hl];exact h4) (by rw [hk];exact ⟨_,I',q⟩)
 ·have hk:(k + (az.toArray.size:Int)).toNat=j:=by
   rw [seqIndex_neg (by omega) h3] at h1;rw [zM,<- hl];exact Option.some.inj h1
  exact PySem.W.ki_setBack ho (by omega) (by rw [zM,<- hl];exact h3) (by omega) (by rw [hk];exact ⟨_,I',q⟩)
theorem qx (lo hi:Option Int)(n:Nat):(sliceBounds lo hi none n).1=((HT.cJ n 0 lo:Nat):Int)/\(sliceBounds lo hi none n).2.1=((HT.cJ n n hi:Nat):Int)/\(sliceBounds lo hi none n).2.2=1:=by
 refine ⟨?_,?_,rfl⟩
 ·cases lo with
  | none=>simp [sliceBounds,HT.cJ]
  | some i=>
   simp only [sliceBounds,HT.cJ,Option.getD_none,show (1:Int) > 0 by decide,if_true];by_cases h:i < 0
   ·simp only [h,if_true] <;> omega
   ·simp only [h,if_false] <;> omega
 ·cases hi with
  | none=>simp [sliceBounds,HT.cJ]
  | some i=>
   simp only [sliceBounds,HT.cJ,Option.getD_none,show (1:Int) > 0 by decide,if_true];by_cases h:i < 0
   ·simp only [h,if_true] <;> omega
   ·simp only [h,if_false] <;> omega
theorem oU (az:List Value)(lo hi:Option Int):slicePick az.toArray lo hi none=((az.drop (HT.cJ az.length 0 lo)).take (HT.cJ az.length az.length hi - HT.cJ az.length 0 lo)).toArray:=by obtain ⟨h1,h2,h3⟩:=qx lo hi az.toArray.size;unfold slicePick;rw [h1,h2,h3];simp only [sliceRange_one,pick_run,zM] <;> rfl
def WC (K:PySem.W.Frag):V->Option Int->Option Int->Hp->VK->Prop:=λx lo hi H Q=>∃ a xs,x=.ref a/\aG K H a xs/\∀ p,H p=none->Q (.ref p) (upd H p (.lst (nZ xs lo hi)))
theorem Rw:Yy X (WC X.K):=by intro ai s σ H x v vl vu lo hi sl Q I rx hs pl pu h;obtain ⟨a,xs,rfl,hx,q⟩:=h;cases rx;obtain ⟨az,r,ht,hz⟩:=I.list hx;have hlen:=r.length;refine ⟨"list", _,slot_list_getitem.lookup,ht.isList.typeIs,?_⟩;refine wpAny_getItem_list_slice ht.isList hs pl pu .none (by simp) ?_ (by rw [zM] <;> omega);rw [oU,<- hlen];refine ⟨.ref s.heap.objs.size,_,I.laid (t':=s.toks) (o:=.lst (nZ xs lo hi)) (λb ob q=>Heap.get?_push_of_some _ q) (zE _) ?_,rfl,q _ (I.aR.fresh (zE _))⟩;exact ⟨zi (lI xs lo hi) hz,_,0,(r.drop (HT.cJ xs.length 0 lo)).take (HT.cJ xs.length xs.length hi - HT.cJ xs.length 0 lo),Heap.get?_push_size _ rfl⟩
def cH:V->Bool
 | .bV=>true
 | .bl _=>true
 | .int _=>true
 | .str _=>true
 | _=>false
def rL:V->V->Bool
 | .bV,.bV=>true
 | .bl a,.bl b=>a == b
 | .bl a,.int b=>(if a then 1 else 0) == b
 | .int a,.bl b=>a == (if b then 1 else 0)
 | .int a,.int b=>a == b
 | .str a,.str b=>a == b
 | _,_=>false
theorem vM {A:Around}{s:Shared}{y x:V}{u v:Value}(ry:RelV y u)(rx:RelV x v)(fy:cH y=true)(fx:cH x=true):SeqAt.EqAt A s u v (rL y x):=by
 cases y with
 | bV=>
  cases ry;cases x with
  | bV=>cases rx;exact SeqAt.EqAt.same _
  | bl b=>cases rx;exact SeqAt.EqAt.none_bool b
  | int b=>obtain ⟨t,rfl⟩:=rx;exact SeqAt.EqAt.none_int b t
  | str b=>obtain ⟨t,rfl⟩:=rx;exact SeqAt.EqAt.none_str b t
  | _=>exact absurd (show false=true from fx) zK
 | bl a=>
  cases ry;cases x with
  | bV=>cases rx;exact SeqAt.EqAt.bool_none a
  | bl b=>cases rx;exact SeqAt.EqAt.bool_bool a b
  | int b=>obtain ⟨t,rfl⟩:=rx;exact SeqAt.EqAt.bool_int a b t
  | str b=>obtain ⟨t,rfl⟩:=rx;exact SeqAt.EqAt.bool_str a b t
  | _=>exact absurd (show false=true from fx) zK
 | int a=>
  obtain ⟨t',rfl⟩:=ry;cases x with
  | bV=>cases rx;exact SeqAt.EqAt.int_none a t'
  | bl b=>cases rx;exact SeqAt.EqAt.int_bool a t' b
  | int b=>obtain ⟨t,rfl⟩:=rx;exact SeqAt.EqAt.int_int a t' b t
  | str b=>obtain ⟨t,rfl⟩:=rx;exact SeqAt.EqAt.int_str a t' b t
  | _=>exact absurd (show false=true from fx) zK
 | str a=>
  obtain ⟨t',rfl⟩:=ry;cases x with
  | bV=>cases rx;exact SeqAt.EqAt.str_none a t'
  | bl b=>cases rx;exact SeqAt.EqAt.str_bool a t' b
  | int b=>obtain ⟨t,rfl⟩:=rx;exact SeqAt.EqAt.str_int a t' b t
  | str b=>obtain ⟨t,rfl⟩:=rx;exact SeqAt.EqAt.str_str a t' b t
  | _=>exact absurd (show false=true from fx) zK
 | _=>exact absurd (show false=true from fy) zK
def vL (x:V)(u:Value):Bool:=match u with
 | .none=>rL .bV x
 | .bool b=>rL (.bl b) x
 | .int i _=>rL (.int i) x
 | .str z _=>rL (.str z) x
 | _=>false
theorem Qh {x y:V}{u:Value}(r:RelV y u)(f:cH y=true):vL x u=rL y x:=by
 cases y with
 | bV=>cases r;rfl
 | bl b=>cases r;rfl
 | int i=>obtain ⟨t,rfl⟩:=r;rfl
 | str z=>obtain ⟨t,rfl⟩:=r;rfl
 | _=>exact absurd (show false=true from f) zK
theorem jy {x:V}:∀ {xs:List V}{us:List Value},Vals xs us->xs.all cH=true->us.any (vL x)=xs.any λy=>rL y x
 | _,_,.nil,_=>rfl
 | y::xs,u::us,.cons r t,f=>by
  rw [List.all_cons,zc] at f;rw [xJ,xJ,Qh r f.1,jy t f.2]
theorem gQ {A:Around}{s:Shared}{x:V}{v:Value}(rx:RelV x v)(fx:cH x=true):∀ {xs:List V}{us:List Value},Vals xs us->xs.all cH=true->∀ u∈us,SeqAt.EqAt A s u v (vL x u)
 | _,_,.nil,_=>λu hu=>by cases hu
 | y::xs,u::us,.cons r t,f=>λu' hu=>by
  rw [List.all_cons,zc] at f;rcases zN.mp hu with rfl | hu
  ·rw [Qh r f.1];exact vM r rx f.1 fx
  ·exact gQ rx fx t f.2 u' hu
def vC (x:V)(xs:List V):Bool:=xs.any λy=>rL y x
def rIn (K:PySem.W.Frag)(neg:Bool):R2:=λx y H Q=>∃ p xs,y=.ref p/\(aG K H p xs\/bT K H p xs)/\cH x=true/\xs.all cH=true/\Q (.bl (if neg then !vC x xs else vC x xs)) H
theorem M9:gw X (compareOp .In) (rIn X.K false):=by
 intro ai s σ H x y v u Q I rx ry h;obtain ⟨p,xs,rfl,hq,fx,fs,q⟩:=h;cases ry;rcases hq with hq | hq
 ·obtain ⟨az,r,pl,hz⟩:=I.list hq;refine SeqAt.in_listAt (vL x) pl.isList (λw hw=>gQ rx fx r fs w (by simpa using hw)) ⟨.bl _,H,I,rfl,?_⟩;rw [show az.toArray.any (vL x)=az.any (vL x) by simp,jy r fs];exact q
 ·obtain ⟨az,r,pl,hz⟩:=I.tuple hq;refine SeqAt.in_tupleAt (vL x) pl (λw hw=>gQ rx fx r fs w (by simpa using hw)) ⟨.bl _,H,I,rfl,?_⟩;rw [show az.toArray.any (vL x)=az.any (vL x) by simp,jy r fs];exact q
theorem jh:gw X (compareOp .NotIn) (rIn X.K true):=by
 intro ai s σ H x y v u Q I rx ry h;obtain ⟨p,xs,rfl,hq,fx,fs,q⟩:=h;cases ry;rcases hq with hq | hq
 ·obtain ⟨az,r,pl,hz⟩:=I.list hq;refine SeqAt.notIn_listAt (vL x) pl.isList (λw hw=>gQ rx fx r fs w (by simpa using hw)) ⟨.bl _,H,I,rfl,?_⟩;rw [show az.toArray.any (vL x)=az.any (vL x) by simp,jy r fs];exact q
 ·obtain ⟨az,r,pl,hz⟩:=I.tuple hq;refine SeqAt.notIn_tupleAt (vL x) pl (λw hw=>gQ rx fx r fs w (by simpa using hw)) ⟨.bl _,H,I,rfl,?_⟩;rw [show az.toArray.any (vL x)=az.any (vL x) by simp,jy r fs];exact q
theorem rQ:fj X (.builtin "len") (λxs H Q=>∃ p ys,xs=[.ref p]/\(aG X.K H p ys\/bT X.K H p ys)/\Q (.int ys.length) H):=by
 intro ai s σ H xs us Q I r h;obtain ⟨p,ys,rfl,hq,q⟩:=h;obtain ⟨u,rfl,rx⟩:=vals1 r;cases rx;have hn:=j7;rcases hq with hq | hq
 ·obtain ⟨az,r',pl,hz⟩:=I.list hq;have hlen:=r'.length;exact Calls.call_len_list pl.isList (by simp only [zM] <;> omega) ⟨.int ys.length,H,I.tok _,⟨s.toks + 1,by rw [zM,hlen]⟩,q⟩
 ·obtain ⟨az,r',pl,hz⟩:=I.tuple hq;have hlen:=r'.length;exact len_tuple pl (by simp only [zM] <;> omega) ⟨.int ys.length,H,I.tok _,⟨s.toks + 1,by rw [zM,hlen]⟩,q⟩
theorem rP:fj X (.type "list") (λxs H Q=>∃ p ys,xs=[.ref p]/\(aG X.K H p ys\/bT X.K H p ys)/\∀ l,H l=none->Q (.ref l) (upd H l (.lst ys))):=by
 intro ai s σ H xs us Q I r h;obtain ⟨p,ys,rfl,hq,q⟩:=h;obtain ⟨u,rfl,rx⟩:=vals1 r;cases rx;have fin:∀ (az:List Value),Vals ys az->ys.length<=sizeLine->∀ (h':Heap) (c':Nat),(∀ b o',s.heap.get? b=some o'->h'.get? b=some o') ->
   h'.get? s.heap.objs.size=some { cls:=.type "list", dict:=none,data:=.seq az.toArray c',slots:=#[] }->EP X ai σ Q (.ref s.heap.objs.size) { s with heap:=h' }:=λaz r' hz h' c' kp e=>
  ⟨.ref s.heap.objs.size,_,I.laid (t':=s.toks) kp (zE _) (show bu X.prog X.w _ h' _ (.lst ys) from ⟨hz,az,c',r',e⟩),rfl,q _ (I.aR.fresh (zE _))⟩
 rcases hq with hq | hq
 ·obtain ⟨az,r',pl,hz⟩:=I.list hq;have hlen:=r'.length;obtain ⟨o,ho,hc,n,hd⟩:=pl.isList;exact call_list_seq p (.inl rfl) ho hc hd (λh' c' kp e=>fin az r' hz h' c' kp e) (by simp only [zM] <;> omega)
 ·obtain ⟨az,r',pl,hz⟩:=I.tuple hq;have hlen:=r'.length;obtain ⟨o,ho,hc,n,hd⟩:=pl;exact call_list_seq p (.inr rfl) ho hc hd (λh' c' kp e=>fin az r' hz h' c' kp e) (by simp only [zM] <;> omega)
theorem cT:fj X (.type "tuple") (λxs H Q=>∃ p ys,xs=[.ref p]/\((aG X.K H p ys/\∀ l,H l=none->Q (.ref l) (upd H l (.tup ys)))\/(bT X.K H p ys/\Q (.ref p) H))):=by
 intro ai s σ H xs us Q I r h;obtain ⟨p,ys,rfl,h⟩:=h;obtain ⟨u,rfl,rx⟩:=vals1 r;cases rx;rcases h with ⟨hq,q⟩ | ⟨hq,q⟩
 ·obtain ⟨az,r',pl,hz⟩:=I.list hq;have hlen:=r'.length;refine call_tuple_list pl.isList (λh' kp=>?_) (by simp only [zM] <;> omega);have I1:Inv X ai σ H { s with heap:=h' }:=I.kept (t':=s.toks) kp;have I2:Inv X ai σ (upd H h'.objs.size (.tup ys)) { s with heap:=h'.push { cls:=.type "tuple", data:=.seq az.toArray } }:=
   I1.laid (t':=s.toks) (λb o e=>Heap.get?_push_of_some _ e) (zE _) (show bu X.prog X.w _ _ _ (.tup ys) from ⟨⟨hz,nj⟩,az,r',IsTup.new _ _⟩)
  exact ⟨.ref h'.objs.size,_,I2,rfl,q _ (I1.aR.fresh (zE _))⟩
 ·obtain ⟨az,r',pl,hz⟩:=I.tuple hq;exact call_tuple_same pl ⟨.ref p,H,I,rfl,q⟩
def tyV (K:PySem.W.Frag)(T:String)(x:V)(H:Hp):Prop:=match x with
 | .str _=>T = "str"
 | .int _=>T = "int"
 | .ref p=>(T = "list" /\ ∃ xs,aG K H p xs)\/(T = "tuple" /\ ((∃ o,K.lookup p=some o/\o.cls=.type "tuple" /\ o.dict=none)\/∃ xs,H p=some (.tup xs))) \/
   (T = "dict" /\ ((∃ kvs,H p=some (.dK kvs))\/∃ kvs,H p=some (.dT kvs)))\/(T = "set" /\ ∃ S n,H p=some (.set S n))
 | _=>False
theorem Of {ai:List (Addr×Obj)}{σ:St}{H:Hp}{s:Shared}{T:String}{x:V}{v:Value}(I:Inv X ai σ H s)(r:RelV x v)(ty:tyV X.K T x H) :
  s.TypeIs v T/\∀ a,v=.ref a->∃ ob,s.heap.get? a=some ob/\ob.dict=none:=by
 cases x with
 | str z=>
  obtain ⟨t,rfl⟩:=r;cases (show T = "str" from ty);exact ⟨typeIs_str s z t,λ_ e=>nomatch e⟩
 | int i=>
  obtain ⟨t,rfl⟩:=r;cases (show T = "int" from ty);exact ⟨typeIs_int s i t,λ_ e=>nomatch e⟩
 | ref p=>
  cases r;rcases ty with ⟨rfl,xs,hq⟩ | ⟨rfl,⟨o,hk,hc,hd⟩ | ⟨xs,hk⟩⟩ | ⟨rfl,hk⟩ | ⟨rfl,S,n,hk⟩
  ·obtain ⟨az,_,pl,_⟩:=I.list hq;refine ⟨pl.isList.typeIs,λa e=>?_⟩;cases e;obtain ⟨o,n,e,c,hd,_⟩:=pl;exact ⟨o,e,hd⟩
  ·refine ⟨⟨o,I.kZ p o hk,hc⟩,λa e=>?_⟩;cases e;exact ⟨o,I.kZ _ o hk,hd⟩
  ·obtain ⟨nb,_,_,o,e,c,_⟩:=I.aR p _ hk;exact ⟨⟨o,e,c⟩,λa z=>by cases z;exact ⟨o,e,nb.2 o e⟩⟩
  ·have z:∃ o,s.heap.get? p=some o/\o.ExactDict:=by
    rcases hk with ⟨kvs,hk⟩ | ⟨kvs,hk⟩
    ·obtain ⟨_,_,_,_,o,_,_,e,ex,_⟩:=I.aR p _ hk;exact ⟨o,e,ex⟩
    ·obtain ⟨_,_,_,_,o,_,_,e,ex,_⟩:=I.aR p _ hk;exact ⟨o,e,ex⟩
   obtain ⟨o,e,ex⟩:=z;refine ⟨⟨o,e,ex.1⟩,λa e2=>?_⟩;cases e2;exact ⟨o,e,ex.2.1⟩
  ·obtain ⟨o,_,_,_,e,ex,_⟩:=I.aR p _ hk;refine ⟨⟨o,e,ex.1⟩,λa e2=>?_⟩;cases e2;exact ⟨o,e,ex.2.1⟩
 | _=>exact False.elim ty
def aaS (K:PySem.W.Frag)(T:String)(r:V->List V->Hp->VK->Prop)(to:TE):TE:=fun σ H Q=>to σ H λx H1=>tyV K T x H1/\r x [] H1 Q
def Wh (K:PySem.W.Frag)(T:String)(r:V->List V->Hp->VK->Prop)(to:TE)(t:TA):TE:=fun σ H Q=>to σ H λx H1=>tyV K T x H1/\t σ H1 λxs H2=>r x xs H2 Q
variable {o e:Expr}{es:List Expr}{to:TE}{t:TA}{name:Str}{apos o6:Pos}{T id:String}{r:V->List V->Hp->VK->Prop}
theorem O5 (pa:PlainAttrs T)(slot:Slot T name id)(hty:typeOf (.builtin id)=pure (.type "method_descriptor"))(hm:YF X id r)(ho:PE X o to)
  (P7:attributeBase o name X.env (eval o X.env)=eval o X.env:=by rfl) (P4:(apos.endLine == o6.line)=true:=by rfl):PE X (.Call (.Attribute o name apos) [] [] o6) (aaS X.K T r to):=by
 intro ai s σ H Q I h;refine wpAny_Call_method0_late P7 P4 (aZ (ho ai s σ H _ I h) λv s1 ZC=>?_);obtain ⟨x,H1,I1,r1,ty,q1⟩:=ZC;obtain ⟨h1,h2⟩:=Of I1 r1 ty;exact ⟨T,id,pa,slot,hty,h1,h2,Calls.callWith_builtin rfl (PySem.evalArgs_none (hm ai s1 σ H1 x [] v [] Q I1 r1 .nil q1))⟩
theorem qP (pa:PlainAttrs T)(slot:Slot T name id)(hty:typeOf (.builtin id)=pure (.type "method_descriptor"))(hm:YF X id r)(ho:PE X o to)(ha:PA X (e::es) t)
  (P7:attributeBase o name X.env (eval o X.env)=eval o X.env:=by rfl)
  (ach:((backTo o6 (starEach (e::es) X.env)).all (λx=>!x.1) && (backToKw o6 (keywordEach [] X.env)).all (λx=>x.1.isSome)
   && decide ((e::es).length + ([]:List Keyword).length + (if ([]:List Keyword).isEmpty then 0 else 1) < 30))=true:=by rfl)
  (P4:(apos.endLine == o6.line)=true:=by rfl) (hs:starEach (e::es) X.env=(false,eval e X.env)::starEach es X.env:=by rfl) (UP:(backTo o6 (starEach es X.env)).any (·.1)=false:=by rfl) :
  PE X (.Call (.Attribute o name apos) (e::es) [] o6) (Wh X.K T r to t):=by
 intro ai s σ H Q I h;refine wpAny_Call_method_late P7 ach P4 rfl (aZ (ho ai s σ H _ I h) λv s1 ZA=>?_);obtain ⟨x,H1,I1,r1,ty,q1⟩:=ZA;obtain ⟨h1,h2⟩:=Of I1 r1 ty;refine ⟨T,id,pa,slot,hty,h1,h2,?_⟩;have hA:=ha o6 ai s1 σ H1 _ I1 q1;rw [hs] at hA ⊢;refine Calls.callWith_builtin (by show (false || (backTo o6 (starEach es X.env)).any (·.1))=false;rw [UP] <;> rfl) (Calls.evalArgs_plain ?_);exact aZ hA λus s2 ⟨vs,H2,I2,r2,q2⟩=>hm ai s2 σ H2 x vs v us Q I2 r1 r2 q2
/- xs.append(e),list.index on a WV tuple .. are YF facts of 06m -/
end
def MtM (X:Cx)(id:String)(r:V->List V->Hp->VK->Prop):Prop:=
 ∀ (ai:List (Addr×Obj)) (s:Shared) (σ:St) (H:Hp) (x:V) (xs:List V) (v:Value) (us:List Value) (Q:VK),Inv X ai σ H s->RelV x v->Vals xs us->r x xs H Q ->
  wpAny (model X.prog X.w) X.A (call (.builtin id) (v::us)) (EP X ai σ Q) X.xe s
theorem Vals.one:∀ {x:V}{us:List Value},Vals [x] us->∃ u,us=[u]/\RelV x u
 | _,_,.cons r .nil=>⟨_,rfl,r⟩
theorem Vals.zero:∀ {us:List Value},Vals [] us->us=[]
 | _,.nil=>rfl
theorem Vals.dropLast {xs:List V}{us:List Value}(h:Vals xs us):Vals xs.dropLast us.dropLast:=by
 induction h with
 | nil=>exact .nil
 | cons r t ih=>
  cases t with
  | nil=>exact .nil
  | cons q t'=>exact .cons r ih
theorem Vals.eraseIdx:∀ {xs:List V}{us:List Value} (i:Nat),Vals xs us->Vals (xs.eraseIdx i) (us.eraseIdx i)
 | _,_,_,.nil=>.nil
 | _,_,0,.cons _ t=>t
 | _,_,i + 1,.cons r t=>.cons r (Vals.eraseIdx i t)
theorem Vals.reverse {xs:List V}{us:List Value}(h:Vals xs us):Vals xs.reverse us.reverse:=by
 induction h with
 | nil=>exact .nil
 | cons r t ih=>rw [yo,yo];exact Vals.append ih (.cons r .nil)
theorem Vals.rep {xs:List V}{us:List Value}(h:Vals xs us):∀ k:Nat,Vals (List.replicate k xs).flatten (List.replicate k us).flatten
 | 0=>.nil
 | k + 1=>by
  rw [yD,yD,yp,yp];exact Vals.append h (Vals.rep h k)
theorem vK {α:Type}(l:List α):l.eraseIdx (l.length - 1)=l.dropLast:=by
 induction l with
 | nil=>rfl
 | cons a r ih=>
  cases r with
  | nil=>rfl
  | cons b r=>
   have e:(a::b::r).length - 1=((b::r).length - 1) + 1:=by
    have h1:(a::b::r).length=r.length + 2:=rfl;have h2:(b::r).length=r.length + 1:=rfl;omega
   rw [e,List.eraseIdx_cons_succ,ih];all_goals rfl
theorem pX {α:Type}:∀ (l:List α) (i:Nat),(l.eraseIdx i).length<=l.length
 | [],_=>zE _
 | _::_,0=>zx _
 | _::r,i + 1=>yw (pX r i)
theorem foldl_rep (az:List Value):∀ (k:Nat) (acc:List Value),
  List.foldl (λx1 x2=>x1++x2) acc.toArray (List.replicate k az.toArray)=(acc++(List.replicate k az).flatten).toArray
 | 0,acc=>by simp
 | k + 1,acc=>by
  have e:acc.toArray++az.toArray=(acc++az).toArray:=by simp
  have e2:(acc++az)++(List.replicate k az).flatten=acc++(List.replicate (k + 1) az).flatten:=by
   rw [yD,yp,List.append_assoc]
  rw [<-e2,<- foldl_rep az k (acc++az),<- e,yD,List.foldl_cons]
section
variable {X:Cx}{ai:List (Addr×Obj)}{σ:St}{H:Hp}{s:Shared}{l b:Addr}{xs ys zs:List V}
theorem Inv.Ux {az its':List Value}{n:Nat}{f:Array Value->Array Value}{t':Nat}(I:Inv X ai σ H s)(hH:H l=some (.lst xs))
  (e:s.heap.get? l=some { cls:=.type "list", data:=.seq az.toArray n }) (hf:f az.toArray=its'.toArray) (hv:Vals ys its') (hz:ys.length<=sizeLine) :
  Inv X ai σ (upd H l (.lst ys)) { s with heap:=s.heap.update l (Obj.mapSeq f),toks:=t' }:=by
 have q:=PySem.IsL.update e f;rw [hf] at q;refine I.write (x:=l) (e:=l) (by rw [hH];exact trivial) (.inl rfl) (λb' u hb hu=>(Heap.get?_update_other s.heap (Obj.mapSeq f) (Ne.symm hb)).trans hu) ⟨_,q⟩ ?_;exact ⟨hz,its',_,hv,q⟩
theorem Inv.Uy {az:List Value}{t':Nat}(I:Inv X ai σ H s)(hv:Vals ys az)(hz:ys.length<=sizeLine) :
  Inv X ai σ (upd H s.heap.objs.size (.lst ys)) { s with heap:=s.heap.push { cls:=.type "list", data:=.seq az.toArray },toks:=t' }:=
 I.laid (λ_ _ q=>Heap.get?_push_of_some _ q) (zE _) ⟨hz,az,0,hv,Heap.get?_push_size _ rfl⟩
theorem Inv.fresh (I:Inv X ai σ H s):H s.heap.objs.size=none:=I.aR.fresh (zE _)
theorem Inv.tO (I:Inv X ai σ H s)(hH:H l=some (.lst xs)):xs.length<=sizeLine/\∃ (az:List Value) (n:Nat),Vals xs az/\xs.length=az.length/\s.heap.get? l=some { cls:=.type "list", data:=.seq az.toArray n }:=by obtain ⟨z,az,n,r,e⟩:=I.aR l _ hH;exact ⟨z,az,n,r,r.length,e⟩
theorem Pk {n:Nat}(h:n<=sizeLine):Builtin.List.listTooLong n=false:=by unfold Builtin.List.listTooLong;exact decide_eq_false (by omega)
end
section
variable {X:Cx}
def je:V->List V->Hp->VK->Prop:=λx vs H Q=>∃ l xs y,x=.ref l/\vs=[y]/\H l=some (.lst xs)/\xs.length < sizeLine/\Q .bV (upd H l (.lst (xs++[y])))
theorem wN:MtM X "list.append" je:=by intro ai s σ H x vs v us Q I rx rv h;obtain ⟨l,xs,y,rfl,rfl,hH,hz,q⟩:=h;cases rx;obtain ⟨u,rfl,ru⟩:=rv.one;obtain ⟨z,az,n,r,hl,e⟩:=I.tO hH;refine call_meets F.slot_list_append ⟨_,e,rfl⟩ F.entry_list_append (F.args_list_append_2 _ _) (PySem.list_append l az.toArray n u (by rw [zM];omega)) ⟨e,?_⟩;refine ⟨.bV,_,I.Ux (its':=az++[u]) hH e (by simp) (r.append (.cons ru .nil)) ?_,rfl,q⟩;rw [zL,yQ];omega
def aa7:V->List V->Hp->VK->Prop:=λx vs H Q=>∃ l xs y,x=.ref l/\vs=[]/\H l=some (.lst xs)/\xs[xs.length - 1]?=some y/\Q y (upd H l (.lst xs.dropLast))
theorem Ut:MtM X "list.pop" aa7:=by
 intro ai s σ H x vs v us Q I rx rv h;obtain ⟨l,xs,y,rfl,rfl,hH,hy,q⟩:=h;cases rx;have hus:=rv.zero;subst hus;obtain ⟨z,az,n,r,hl,e⟩:=I.tO hH;obtain ⟨u,hu,ru⟩:=r.get hy;have hy':az.toArray[az.toArray.size - 1]?=some u:=by
  show az.toArray[az.length - 1]?=some u;rw [<-Array.getElem?_toList,<- hl];exact hu
 refine call_meets F.slot_list_pop ⟨_,e,rfl⟩ F.entry_list_pop (F.args_list_pop_1 _) (MeetsSeq.list_pop_last l az.toArray n u hy' (by rw [zM];omega)) ⟨e,?_⟩;refine ⟨y,_,I.Ux (its':=az.dropLast) hH e ?_ r.dropLast ?_,ru,q⟩
 ·show az.toArray.eraseIdxIfInBounds (az.toArray.size - 1)=az.dropLast.toArray;rw [zM,List.eraseIdxIfInBounds_toArray,vK]
 ·rw [List.length_dropLast];omega
def Ua:V->List V->Hp->VK->Prop:=λx vs H Q=>∃ l xs i k y,x=.ref l/\vs=[.int i]/\H l=some (.lst xs)/\-(2 ^ 63)<=i/\i < 2 ^ 63/\seqIndex? i xs.length=some k/\xs[k]?=some y/\Q y (upd H l (.lst (xs.eraseIdx k)))
theorem Pu:MtM X "list.pop" Ua:=by
 intro ai s σ H x vs v us Q I rx rv h;obtain ⟨l,xs,i,k,y,rfl,rfl,hH,h1,h2,hk,hy,q⟩:=h;cases rx;obtain ⟨u,rfl,ru⟩:=rv.one;obtain ⟨t,rfl⟩:=ru;obtain ⟨z,az,n,r,hl,e⟩:=I.tO hH;obtain ⟨w,hw,u9⟩:=r.get hy;refine call_meets F.slot_list_pop ⟨_,e,rfl⟩ F.entry_list_pop (F.args_list_pop_2 _ _)
  (MeetsSeq.list_pop_at l az.toArray n i t k w (fitsIndex_both h1 h2) (by rw [zM,<- hl];exact hk) (by rw [<-Array.getElem?_toList];exact hw) (by rw [zM];omega)) ⟨e,?_⟩
 refine ⟨y,_,I.Ux (its':=az.eraseIdx k) hH e ?_ (r.eraseIdx k) ?_,u9,q⟩
 ·show az.toArray.eraseIdxIfInBounds k=(az.eraseIdx k).toArray;rw [List.eraseIdxIfInBounds_toArray]
 ·have:=pX xs k;omega
def aa9:R2:=λx y H Q=>∃ l b xs zs,x=.ref l/\y=.ref b/\H l=some (.lst xs)/\H b=some (.lst zs)/\xs.length + zs.length<=sizeLine/\∀ p,H p=none->Q (.ref p) (upd H p (.lst (xs++zs)))
theorem Pg:gw X (binaryOp .Add) aa9:=by
 intro ai s σ H x y v u Q I rx ry h;obtain ⟨l,b,xs,zs,rfl,rfl,hH,hB,hz,q⟩:=h;cases rx;cases ry;obtain ⟨z,az,n,r,hl,e⟩:=I.tO hH;obtain ⟨z2,dz,n2,r2,UW,e2⟩:=I.tO hB;refine PySem.P.add_list e e2 ?_ (by rw [zM,zM];omega);have ea:az.toArray++dz.toArray=(az++dz).toArray:=by simp
 rw [ea];exact ⟨.ref _,_,I.Uy (t':=s.toks) (r.append r2) (by rw [zL];omega),rfl,q _ I.fresh⟩
def aa6:R2:=λx y H Q=>∃ l k xs,x=.ref l/\y=.int k/\H l=some (.lst xs)/\-(2 ^ 63)<=k/\k < 2 ^ 63/\xs.length * k.toNat<=sizeLine /\
 ∀ p,H p=none->Q (.ref p) (upd H p (.lst (List.replicate k.toNat xs).flatten))
theorem len_rep {α:Type}(xs:List α)(k:Nat):(List.replicate k xs).flatten.length=k * xs.length:=by
 induction k with
 | zero=>simp
 | succ k ih=>rw [yD,yp,zL,ih,Nat.succ_mul,Nat.add_comm]
theorem Pb:gw X (binaryOp .Mult) aa6:=by
 intro ai s σ H x y v u Q I rx ry h;obtain ⟨l,k,xs,rfl,rfl,hH,h1,h2,hz,q⟩:=h;cases rx;obtain ⟨t,rfl⟩:=ry;obtain ⟨z,az,n,r,hl,e⟩:=I.tO hH;have hlen:az.toArray.size * k.toNat<=sizeLine:=by rw [zM,<- hl];exact hz
 have acn:¬ az.toArray.size * k.toNat > (2 ^ 63 - 1) / 8:=by
  have:(sizeLine:Nat)<=(2 ^ 63 - 1) / 8:=by decide
  omega
 have acg:¬ (!Builtin.List.listFitsIndex k)=true:=by
  rw [fitsIndex_both h1 h2];exact zK
 have XC:¬ Builtin.List.listTooLong (az.toArray.size * k.toNat)=true:=by
  rw [Pk hlen];exact zK
 have abX:List.foldl (λx1 x2=>x1++x2) #[] (List.replicate (if az.toArray.isEmpty=true then 0 else k.toNat) az.toArray)=(List.replicate k.toNat az).flatten.toArray:=by
  have f0:∀ m:Nat,List.foldl (λx1 x2=>x1++x2) #[] (List.replicate m az.toArray)=(List.replicate m az).flatten.toArray:=λm=>by
   have:=foldl_rep az m [];rw [xV] at this;exact this
  rw [f0];cases az with
  | nil=>simp
  | cons a r'=>rw [if_neg (by simp)]
 refine wpAny_binaryOp_repeat_ref (T := "list") (U := "int") (by decide) ⟨_,e,rfl⟩ (λs'=>typeIs_int s' k t) noFill_list_mul F.fills_int_mul F.slot_int_rmul repeat_list F.slot_int_index.lookup
  (call_meets F.slot_int_rmul (typeIs_int s k t) F.entry_int_rmul (F.args_int_rmul_2 _ _) (int___rmul___int_list k t l az.toArray n)
   ⟨e,rfl,⟨_,e,rfl⟩,call_meets F.slot_list_mul ⟨_,e,rfl⟩ F.entry_list_mul (F.args_list_mul_2 _ _) (AutoListH.list___mul___list_int_3 l az.toArray n k t acg acn XC) ⟨e,?_⟩⟩)
 rw [abX];exact ⟨.ref _,_,I.Uy (t':=s.toks) (r.rep k.toNat) (by rw [len_rep,Nat.mul_comm];exact hz),rfl,q _ I.fresh⟩
end
section
variable {prog:Program}{w:World}{A:Around}{E:Value->Shared->Prop}{s:Shared}
set_option maxRecDepth 100000 in
end
section
variable {X:Cx}
end
end L2
namespace Att
open PySem PySem.W PySem.Calls PyProof.Rows
theorem lQ {P:Params}{h:Heap}:∀ (ns:List Int) (vs:List Value),WellAll P h vs (ns.map WData.int)->IntsAre vs ns:=by
 intro ns;induction ns with
 | nil=>
  intro vs w;rw [yG] at w;cases w;exact .nil
 | cons n ns ih=>
  intro vs w;rw [zZ] at w;cases w with
  | cons a b=>
   cases a;exact .cons _ _ (ih _ b)
theorem MX {l:OpenLaw}{n:Nat}(hn:l.most=some n){P:Params}{h:Heap}{args:List WData}{vals:List Value}
  (Sg:l.row.toRowW.claim.pre args=true) (hwl:WellAll P h vals args) :
  ∃ a vs ns,vals=[Value.ref a]/\args=[WData.list (ns.map WData.int)]/\h.get? a=some { cls:=.type "list", data:=.seq vs.toArray }/\IntsAre vs ns/\ns.length<=n:=by
 have hsh:WShape.hasAll [] args [.list .int]=true:=(pre_splitW Sg).1;have hc:l.pre.holds [] { args:=args }=true:=(pre_splitW Sg).2;obtain ⟨d,r,rfl,h1,h2⟩:=hasAllW_cons hsh;obtain rfl:=hasAllW_nil h2;obtain ⟨xs,rfl,h3⟩:=hasW_list h1;obtain ⟨ns,rfl⟩:=items_int h3;have hlen:ns.length<=n:=by
  unfold OpenLaw.pre at hc;have h4:(WTm.not (.lt (.lit (.int (n:Int))) (.len (.arg 0)))).holds [] { args:=[.list (ns.map .int)] }=true:=by
   have h4:=(holds_andW hc).1;rw [hn] at h4;exact h4
  have h5:=condW_of h4 (w_not (w_lt w_lit (w_len_list (w_arg rfl))));rw [zA] at h5;refine xP λq=>?_;have q':(n:Int) < ((ns.length:Nat):Int):=by omega
  first
   | (rw [decide_eq_true q'] at h5;exact absurd h5 (by decide))
   | (simp at h5;omega)
 cases hwl with
 | cons w1 w2=>
  cases w2;cases w1 with
  | list ho U1=>exact ⟨_,_,ns,rfl,rfl,ho,lQ ns _ U1,hlen⟩
theorem M5 (l:OpenLaw)(args:List WData):l.row.toRowW.claim.post args (.bool true) args=true:=
 postW_of (r:=l.row.toRowW) (X:=(true == true))
  (show WShape.has [] (.bool true) .bool=true by first | rfl | decide | simp [WShape.has,WShape.arms,WShape.armsAll])
  (show (WTm.eq .res (.lit (.bool true))).value [] { args:=args,res:=some (.bool true),after:=args }=some (.bool (true == true)) from w_eq_bool (w_res rfl) w_lit) rfl
theorem uy {l:OpenLaw}{n:Nat}{q:Program}{loose:List Str}{XP:(Str->Option Value)->Heap->Prop}{YP:World->Heap->Prop}{d:DefRec}
  (hn:l.most=some n) (XR:d.params.defaults=[])
  (call:∀ (w:World) (cI aS:Shared) (mg mb:Str->Option Value) (fa:Addr) (o:Obj) (pm cd doc:Value) (a:Addr) (vs:List Value) (ns:List Int),
   Ground q loose [] XP w cI mg mb aS.heap->YP w aS.heap ->
   aS.heap.get? fa=some o->o.data=.func (docDef d.name d.params d.body d.scope pm cd doc)->aS.heap.CodeRec cd d.name->mg d.name=some (.ref fa) ->
   aS.heap.get? a=some { cls:=.type "list", data:=.seq vs.toArray }->IntsAre vs ns->ns.length<=n->aS.gens=#[] ->
   codeAny (model l.prog w) callerA (.call (.ref fa) ⟨[.ref a],[]⟩) (λr s'=>r=.ok (.ret (.bool true))/\OldK aS.heap s'.heap/\s'.os=aS.os/\AllBare s'.gens) aS) :
  WalkO q loose XP YP l.row.toRowW d [] (λf vs=>PySem.call f vs):=by
 intro w cI aS mg mb G Y fa o pm cd doc dV kV ho hd tZ hD hmg hg args vals as Sg ag6 hrd hwl hlo;obtain rfl:dV=.none:=Dflts.none hD XR;obtain rfl:kV=.none:=Dflts.noKw hD;obtain ⟨a,vs,ns,rfl,rfl,US,hints,hlen⟩:=MX hn Sg hwl;refine enter_call (codeAny_mono (call w cI aS mg mb fa o pm cd doc a vs ns G Y ho (fd_plain hd) tZ hmg US hints hlen hg) λr s' hq=>?_);obtain ⟨rfl,h2,h3,h4⟩:=hq;exact ⟨.inl ⟨.bool true,.bool true,[],rfl,λ_=>rfl,.bool true,M5 l _,λ_=>⟨List.Pairwise.nil,λ_ hm=>(nomatch hm)⟩⟩,h2,h3,h4⟩
section
variable {prog:Program}{w:World}{A:Around}{E:Value->Shared->Prop}{s:Shared}{K:Frag}
def ledger (h:Heap)(L d:Addr):List (Addr×Obj):=(List.range h.objs.size).filterMap λa=>if a=L\/a=d then none else (h.get? a).map λo=>(a,o)
end
end Att
namespace L2
open PySem PySem.Spec PyProof.Rows
theorem pD:∀ {vs:List Value}{ns:List Int},IntsAre vs ns->Vals (ns.map V.int) vs
 | _,_,.nil=>.nil
 | _,_,.cons n t h=>.cons ⟨t,rfl⟩ (pD h)
def inClass (s:Stmt)(j:Nat):Stmt:=match s with
 | .ClassDef _ _ _ body _ _ _ _ _ _ _=>body.getD j (.Pass ⟨0,0,0,0⟩)
 | _=>.Pass ⟨0,0,0,0⟩
def ju (s:Stmt):Arguments:=match s with
 | .FunctionDef _ a _ _ _ _ _ _ _ _=>a
 | _=>{ posonlyargs:=[],args:=[],vararg:=none,kwonlyargs:=[],kw_defaults:=[],kwarg:=none,defaults:=[] }
def ak (s:Stmt):List Stmt:=match s with
 | .FunctionDef _ _ b _ _ _ _ _ _ _=>b
 | _=>[]
def aq (s:Stmt):Scope:=match s with
 | .FunctionDef _ _ _ _ _ _ sc _ _ _=>sc
 | _=>{ kind:=.function,names:=[],isGenerator:=false,isCoroutine:=false }
abbrev mD:N8:=λ_ _ _ _ _ _=>False
abbrev E0:XK:=λ_ _ _=>False
theorem eX {X:Cx}:Passes mD X E0:=λ_ _ _ _ _ _ _ h=>h.elim
structure bR (K:PySem.W.Frag) (x qual:Str) (st:Stmt) (f:Addr) (fd:FuncData):Prop where
 ex:∃ (oc:Value) (od:Option Addr) (kV doc pm:Value) (an:Option Addr) (bP ct:Value) (RN:Array (Option Value)),
  fd=xN x qual (ju st) (ak st) (aq st) .none kV doc pm an bP ct/\K.lookup f=some ⟨oc,od,.func fd,RN⟩/\PySem.W.codeIn K bP qual=true
 kp:zj K (.ref f)=true
section
variable {P:Program}{w:World}{K:PySem.W.Frag}{mg:Str->Option Value}{base:Heap}
theorem bR.ok {x qual:Str}{st:Stmt}{f:Addr}{fd:FuncData}{N ps:List Str}{k:Nat}{sp:Sp}(F:bR K x qual st f fd)(S:au N ps (aq st))(len:∀ vs H Q E,sp vs H Q E->vs.length=ps.length)
  (jm:∀ (bP:Value) (A:Around) (outer:List Env) (s:Shared) (H:Hp) (vs:List V) (Q:VK) (E:XK),cB k (A.deeper (envOfC qual (aq st) s.heap.objs.size f bP))->sp vs H Q E ->
   ∃ t,qk (nY mD P w K mg base N qual (aq st) f bP A outer s H E).Pj (ak st) t/\t { nx:=λ_ H'=>Q .bV H',rt:=Q } (start N vs) H):cF P w K mg base mD (k + 1) f fd ps sp:=by
 obtain ⟨oc,od,kV,doc,pm,an,bP,ct,RN,rfl,lk,tZ⟩:=F.ex;refine S9 lk tZ S len λA outer s H vs Q E hr QK=>?_;obtain ⟨t,h,q⟩:=jm bP A outer s H vs Q E hr QK;exact ⟨t,h.Pj,q⟩
theorem bR.binds {x qual:Str}{st:Stmt}{f:Addr}{fd:FuncData}{ps:List Str}(F:bR K x qual st f fd)
  (h:∀ (kV doc pm:Value) (an:Option Addr) (bP ct:Value) (us:List Value),us.length=ps.length->bindArgs (xN x qual (ju st) (ak st) (aq st) .none kV doc pm an bP ct) ⟨us,[]⟩=pure (ps.zip us)):Binds K fd ps []:=by
 obtain ⟨oc,od,kV,doc,pm,an,bP,ct,RN,rfl,lk,tZ⟩:=F.ex;exact .all (h kV doc pm an bP ct)
theorem fun_mk {x qual:Str}{st:Stmt}{f:Addr}{oc:Value}{od an:Option Addr}{RN:Array (Option Value)}{kV doc pm bP ct:Value}(l:K.lookup f=some ⟨oc,od,.func (xN x qual (ju st) (ak st) (aq st) .none kV doc pm an bP ct),RN⟩)
  (c:PySem.W.codeIn K bP qual=true) (k:zj K (.ref f)=true):bR K x qual st f (xN x qual (ju st) (ak st) (aq st) .none kV doc pm an bP ct):=⟨⟨oc,od,kV,doc,pm,an,bP,ct,RN,rfl,l,c⟩,k⟩
end
section
variable {X:Cx}
theorem pv (i:Nat){x:Str}{pos:Pos}(hN:X.N[i]?=some x:=by rfl)(hv:Tj X.env.scope x=true:=by rfl)(hd:(x == ("__debug__" : Str))=false:=by decide)
  (tZ:(x == ("__classdict__" : Str))=false:=by decide):PE X (.Name x pos) (uO i):=Ud hN (Q5 hv) hd tZ
end
theorem abD {A B:Prop}(h:B):if false=true then A else B:=by rw [if_neg zK];exact h
theorem Xd {c A B:Prop}[Decidable c](hc:c)(h:B):if (!decide c)=true then A else B:=by rw [decide_eq_true hc];exact abD h
def ay (H H':Hp):Prop:=∀ b o,H b=some o->H' b=some o
theorem ay.refl (H:Hp):ay H H:=λ_ _ h=>h
theorem ay.trans {H H1 H2:Hp}(a:ay H H1)(b:ay H1 H2):ay H H2:=λc o h=>b c o (a c o h)
theorem ay.free {H H':Hp}(e:ay H H'){l:Addr}(h:H' l=Option.none):H l=Option.none:=by
 cases q:H l with
 | none=>rfl
 | some o=>
  rw [e l o q] at h;cases h
theorem ay.seq {K:PySem.W.Frag}{H H':Hp}{a:Addr}{xs:List V}(e:ay H H')(h:aG K H a xs):aG K H' a xs:=by
 rcases h with (h | ⟨o,h⟩) | h
 ·exact .inl (.inl (e _ _ h))
 ·exact .inl (.inr ⟨o,e _ _ h⟩)
 ·exact .inr h
theorem Nj {prog:Program}{w:World}{A:Around}{R:Result->Shared->Prop}{s:Shared}{elt target iter:Expr}{ifs:List Expr}{scope:Scope}{pos:Pos}{it acc:Value}{env:Env}(I:Nat->Shared->Prop)
  (turn:∀ n s,I n s->wpAny (model prog w) A (pyNext it) (λr aS=>match r with
   | none=>R (.ok .next) aS
   | some v=>wpAny (model prog w) A (letOwnedTupleGo target it v) (λ_ SN=>wpAny (model prog w) A (assign target env v) (λ_ mP=>
     wpAny (model prog w) A (forIn ifs true λc r=>if r=true then do let ok <- isTrue c env (eval c env);pure (ForInStep.yield ok) else pure (ForInStep.yield r)) (λok MM=>
      if ok=true then wpAny (model prog w) A (eval elt env) (λx Wj=>
       wpAny (model prog w) A (call (.builtin "list.append") [acc,x]) (λ_ Wi=>∃ m,m < n/\I m Wi) (λ_ _=>False) Wj) (λ_ _=>False) MM
      else ∃ m,m < n/\I m MM) (λ_ _=>False) mP) (λ_ _=>False) SN) (λ_ _=>False) aS) (λ_ _=>False) s)
  (n:Nat) (h:I n s) :
  codeAny (model prog w) A (.compLoop (.ListComp elt [⟨target,iter,ifs,0⟩] scope pos) 0 it acc env) R s:=by
 refine codeAny_loop rfl I (λn s hI=>?_) n h;show wpAny _ A ((compTurn (.ListComp elt [⟨target,iter,ifs,0⟩] scope pos) 0 it acc env).onRaise (λx=>do noteFrame x env;theTreesLotGoes x)) _ _ s;refine wpAny_noted ?_;rw [compTurn_list];refine wpAny_bind (wpAny_standAt (wpAny_bind (wpAny_mono (turn n s hI) (λr aS nM=>?_) λ_ _ h'=>h'.elim)));cases r with
 | none=>exact wpAny_pure nM
 | some v=>
  refine wpAny_bind (wpAny_mono nM (λ_ SN Xj=>?_) λ_ _ h'=>h'.elim);refine wpAny_bind (wpAny_mono Xj (λ_ mP P1=>wpAny_bind (wpAny_mono P1 (λok MM Sd=>?_) λ_ _ h'=>h'.elim)) λ_ _ h'=>h'.elim);cases ok with
  | false=>exact wpAny_pure ⟨rfl,Sd⟩
  | true=>
   exact wpAny_bind (wpAny_bind (wpAny_mono Sd (λx Wj abH=>wpAny_bind (wpAny_mono abH (λ_ Wi abG=>wpAny_pure (wpAny_pure ⟨rfl,abG⟩)) λ_ _ h'=>h'.elim)) λ_ _ h'=>h'.elim))
def fO (names:List (Str×NameKind))(env:Env)(cs:List (Str×Addr)):List (Str×Addr):=
 names.foldl (λcs p=>if p.2=.free then (match env.cells.lookup p.1 with | some c=>(p.1,c)::cs | none=>cs) else cs) cs
theorem jx {env:Env}:∀ (names:List (Str×NameKind)) (cs:List (Str×Addr)),(∀ y∈names,y.2=.free->∃ c,env.cells.lookup y.1=some c) ->
  (forIn names cs λx r=>(if (x.2 == NameKind.free)=true then do let a <- cellOf env x.1;pure (ForInStep.yield ((x.1,a)::r)) else pure (ForInStep.yield r):Sem _))=pure (fO names env cs)
 | [],cs,_=>by simp [fO]
 | (n,k)::r,cs,h=>by
  have ih:=λcs=>jx r cs λy hy=>h y (zp _ hy);simp only [List.forIn_cons];by_cases hk:k=.free
  ·subst hk;obtain ⟨c,e⟩:=h (n,.free) xB rfl;have e':env.cells.lookup n=some c:=e;have ec:cellOf env n=pure c:=by unfold cellOf;rw [e']
   simp only [beq_self_eq_true,if_true,ec,pure_bind];rw [ih];simp [fO,e']
  ·have hb:(k == NameKind.free)=false:=by simpa using hk
   simp only [hb,Bool.false_eq_true,if_false,pure_bind];rw [ih];simp [fO,hk]
theorem iK {scope:Scope}{env:Env}(h:∀ y∈scope.names,y.2=.free->∃ c,env.cells.lookup y.1=some c):closureFor scope env=pure (fO scope.names env []):=by unfold closureFor;have:=jx scope.names [] h;simp only [bind_pure];exact this
theorem uq {env:Env}:∀ (names:List (Str×NameKind)) (cs:List (Str×Addr)) (x:Str) (c:Addr),(x,c)∈fO names env cs->(x,c)∈cs\/env.cells.lookup x=some c
 | [],cs,x,c,h=>.inl h
 | (n,k)::r,cs,x,c,h=>by
  have h':(x,c)∈fO r env (if k=.free then (match env.cells.lookup n with | some c=>(n,c)::cs | none=>cs) else cs):=h;rcases uq r _ x c h' with q | q
  ·split at q
   ·cases e:env.cells.lookup n with
    | none=>rw [e] at q;exact .inl q
    | some d=>
     rw [e] at q;rcases zN.mp q with z | z
     ·cases z;exact .inr e
     ·exact .inl z
   ·exact .inl q
  ·exact .inr q
theorem qe {env:Env}:∀ (names:List (Str×NameKind)) (cs:List (Str×Addr)) (x:Str),(∃ c,(x,c)∈cs)->∃ c,(x,c)∈fO names env cs
 | [],cs,x,h=>h
 | (n,k)::r,cs,x,⟨c,h⟩=>by
  refine qe r _ x ?_;dsimp only;split
  ·split
   ·exact ⟨c,zp _ h⟩
   ·exact ⟨c,h⟩
  ·exact ⟨c,h⟩
theorem ur {env:Env}:∀ (names:List (Str×NameKind)) (cs:List (Str×Addr)) (x:Str),(x,NameKind.free)∈names->(∃ c,env.cells.lookup x=some c)->∃ c,(x,c)∈fO names env cs
 | [],_,_,h,_=>by simp at h
 | (n,k)::r,cs,x,h,⟨c,e⟩=>by
  rcases zN.mp h with z | z
  ·have e1:x=n:=congrArg Prod.fst z;have e2:NameKind.free=k:=congrArg Prod.snd z;subst e1 e2;refine qe r _ x ⟨c,?_⟩;dsimp only;rw [if_pos rfl,e];exact xB
  ·exact ur r _ x z ⟨c,e⟩
theorem iH {β:Type}:∀ (l:List (Str×β)) (x:Str) (c:β),(x,c)∈l->∃ d,l.lookup x=some d
 | (n,d)::r,x,c,h=>by
  cases hx:x == n with
  | true=>exact ⟨d,by simp [yf,hx]⟩
  | false=>
   simp only [yf,hx];rcases zN.mp h with z | z
   ·cases z;simp at hx
   ·exact iH r x c z
theorem wR {names:List (Str×NameKind)}{env:Env}{x:Str}{c:Addr}(h:(fO names env []).lookup x=some c):env.cells.lookup x=some c:=by
 rcases uq names [] x c (zn h) with q | q
 ·simp at q
 ·exact q
theorem ig {names:List (Str×NameKind)}{env:Env}{x:Str}{c:Addr}(h:(x,NameKind.free)∈names)(e:env.cells.lookup x=some c):(fO names env []).lookup x=some c:=by obtain ⟨d,hd⟩:=ur names [] x h ⟨c,e⟩;obtain ⟨d',NC⟩:=iH _ _ _ hd;have:=wR NC;rw [e] at this;cases this;exact NC
theorem di {env:Env}:∀ {names:List (Str×NameKind)}{x:Str},names.lookup x=some .free ->
  (names.map λ(n,k)=>if (k == NameKind.free && env.scope.kind == .function && env.kindOf n == some .cell) then (n,NameKind.cell) else (n,k)).lookup x=some .cell \/
  (names.map λ(n,k)=>if (k == NameKind.free && env.scope.kind == .function && env.kindOf n == some .cell) then (n,NameKind.cell) else (n,k)).lookup x=some .free
 | [],_,h=>by simp at h
 | (n,k)::r,x,h=>by
  have ih:=@di env r x;show xA x ((if (k == NameKind.free && env.scope.kind == .function && env.kindOf n == some .cell)=true then (n,NameKind.cell) else (n,k))::_)=_\/xA x ((if (k == NameKind.free && env.scope.kind == .function && env.kindOf n == some .cell)=true then (n,NameKind.cell) else (n,k))::_)=_;by_cases hc:(k == NameKind.free && env.scope.kind == .function && env.kindOf n == some .cell)=true
  ·rw [if_pos hc];cases hx:x == n with
   | true=>left;simp [yf,hx]
   | false=>
    simp only [yf,hx] at h ⊢;exact ih h
  ·rw [if_neg hc];cases hx:x == n with
   | true=>
    simp only [yf,hx] at h;cases h;right;simp [yf,hx]
   | false=>
    simp only [yf,hx] at h ⊢;exact ih h
structure aI (own:List Str) (caps:List Nat) (N:List Str) (sc scope:Scope):Prop where
 kind:scope.kind=.function
 j5:∀ y∈scope.names,y.2≠.cell
 loc:∀ y∈scope.names,y.2=.local->scope.names.lookup y.1=some .local
 fr:∀ y∈scope.names,y.2=.free->sc.names.lookup y.1=some .cell\/sc.names.lookup y.1=some .free
 cap:∀ i∈caps,i < N.length/\scope.names.lookup ((N[i]?).getD Str.empty)=some .free
def dX (X:Cx)(own:List Str)(caps:List Nat)(scope:Scope)(s:Shared)(H:Hp)(fp:List Addr)(C:Addr):Cx:=
 { X with N:=own++caps.map (λi=>(X.N[i]?).getD Str.empty),cI:=s,LJ:=H,env:=compEnvC scope (fO scope.names X.env []) C X.env,outer:=X.stack,ex:=fp,fn:=λ_=>false,pn:=[],xe:=λ_ _=>False }
def lM (n:Nat)(caps:List Nat)(σ:St):St:=List.replicate n none++caps.map λi=>(σ[i]?).join
section
variable {X:Cx}{ai:List (Addr×Obj)}{σ:St}{H:Hp}{s:Shared}
theorem jr {scope:Scope}{env:Env}(nc:∀ y∈scope.names,y.2≠.cell){x:Str}{k:NameKind}(hk:k=.cell\/k=.free)(h:(relabel scope env).names.lookup x=some k):(x,NameKind.free)∈scope.names:=by
 have hm:=zn h;obtain ⟨⟨n,k0⟩,hy,e⟩:=zO.mp hm;dsimp only at e;split at e
 ·rename_i hc;simp only [zc,beq_iff_eq] at hc;have e1:n=x:=congrArg Prod.fst e;subst e1;rw [hc.1.1] at hy;exact hy
 ·cases e;rcases hk with z | z
  ·subst z;exact absurd rfl (nc _ hy)
  ·subst z;exact hy
theorem PZ {own:List Str}{caps:List Nat}{scope:Scope}{fp:List Addr}{D C:Addr}{o:Obj}{h1:Heap}{tk:Nat}(I:Inv X ai σ H s)(S:aI own caps X.N X.env.scope scope)
  (f:∀ b∈fp,iY X ai H b) (fl:∀ b∈fp,b < s.heap.objs.size) (hD:s.heap.objs.size<=D) (hC:s.heap.objs.size<=C) (XZ:D≠C) (keep:∀ b o,s.heap.get? b=some o->h1.get? b=some o)
  (QL:h1.Ns C λ_=>none) (U3:h1.get? D=some o) (ho:∀ v,o.data≠.cell v) :
  Inv (dX X own caps scope s H fp C) [(D,o)] (lM own.length caps σ) H { s with heap:=h1,toks:=tk }:=by
 have sub:∀ b∈sf X.stack,b < s.heap.objs.size:=λb hb=>by
  rcases zN.mp (I.jS b hb) with e | hb
  ·rw [e];exact I.lt
  ·by_cases q:b < s.heap.objs.size
   ·exact q
   ·exact absurd hb (I.WQ (xP q))
 refine ⟨⟨I.ok.mod,S.kind,I.ok.glob,I.ok.blt,hC,λx y c h1 h2=>I.ok.inj x y c (wR h1) (wR h2),λx hx=>?_,λx c z _=>absurd (show false=true from z) zK,I.ok.hd,I.ok.frames,.inl rfl,
   λb hb=>⟨za (zW (fl b hb) hC),λx c e=>(f b hb).2.2.2.2.1 x c (wR e)⟩,I.bs,zi I.ok.N7 I.sz,λb ob e hb=>?_,λb hb hs=>?_,I.stack,I.qt⟩,
  rfl,I.bare,Un.kept keep,⟨_,QL,λi x v e1 e2 e3=>?_⟩,λx c e=>?_,I.aR.fresh hC,λx c e=>I.gX x c (wR e),λp hp=>?_,I.aR.kept keep,?_⟩
 ·have hm:(x,NameKind.free)∈scope.names:=by
   rcases hx with hx | hx
   ·exact jr S.j5 (.inl rfl) hx
   ·exact jr S.j5 (.inr rfl) hx
  obtain ⟨c,hc⟩:=I.ok.has x (S.fr _ hm rfl);exact ⟨c,ig hm hc⟩
 ·rcases (f b hb).2.2.2.1 with z | z
  ·exact I.ok.Pn b ob e z
  ·exact absurd (zW (Heap.lt_size e) (zi I.ok.N7 z)) (z6 _)
 ·rcases zN.mp (I.jS b hs) with e | e
  ·exact (f b hb).2.1 e
  ·exact (f b hb).2.2.1 e
 ·have Ms:(List.replicate own.length (none:Option V)++caps.map λi=>(σ[i]?).join)[i]?=some (some v):=e2;have Mt:(own++caps.map (λi=>(X.N[i]?).getD Str.empty))[i]?=some x:=e1;have hi:own.length<=i:=by
   by_cases q:i < own.length
   ·rw [zl (by simpa using q),List.getElem?_replicate,if_pos q] at Ms;cases Ms
   ·exact xP q
  rw [zb (by simpa using hi),yg,zF] at Ms;rw [zb hi,zF] at Mt;cases ek:caps[i - own.length]? with
  | none=>rw [ek] at Mt;cases Mt
  | some k=>
   rw [ek] at Mt Ms;have ex:(X.N[k]?).getD Str.empty=x:=Option.some.inj Mt;have ev:(σ[k]?).join=some v:=Option.some.inj Ms;have ev':σ[k]?=some (some v):=by
    cases q:σ[k]? with
    | none=>rw [q] at ev;cases ev
    | some y=>rw [q] at ev;exact congrArg some ev
   obtain ⟨hl,hf⟩:=S.cap k (zC ek);have eN:X.N[k]?=some x:=by
    rw [zG hl] at ex ⊢;exact congrArg some ex
   rw [ex] at hf;have hm:=zn hf;have XN:=S.fr _ hm rfl;obtain ⟨m,_,XF⟩:=I.loc;obtain ⟨u,ru,lk⟩:=XF k x v eN ev' (.inr XN);refine ⟨u,ru,.inr ⟨di hf,?_⟩⟩;rcases lk with ⟨kl,_⟩ | ⟨_,c,hc,ob,Sh,hd⟩
   ·have R7:X.env.scope.names.lookup x=some .local:=kl;rcases XN with z | z
    ·have z':X.env.scope.names.lookup x=some .cell:=z;rw [z'] at R7;cases R7
    ·have z':X.env.scope.names.lookup x=some .free:=z;rw [z'] at R7;cases R7
   ·exact ⟨c,ig hm hc,ob,keep c ob Sh,hd⟩
 ·obtain ⟨v,ob,Sh,hd⟩:=I.cell x c (wR e);exact ⟨v,ob,keep c ob Sh,hd⟩
 ·have e:p=(D,o):=by simpa using (show p∈[]++[(D,o)] from hp)
  subst e;refine ⟨U3,I.aR.fresh hD,XZ,λz=>?_,ho⟩;exact absurd (zW (sub D z) hD) (z6 _)
 ·show (lM own.length caps σ).length=(own++caps.map (λi=>(X.N[i]?).getD Str.empty)).length;simp [lM]
def YA (X:Cx)(ifs:List Expr)(t:TT):Prop:=
 ∀ (ai:List (Addr×Obj)) (s:Shared) (σ:St) (H:Hp) (Q:Bool->Hp->Prop),Inv X ai σ H s->t σ H Q ->
  wpAny (model X.prog X.w) X.A (forIn ifs true λc r=>if r=true then do let ok <- isTrue c X.env (eval c X.env);pure (ForInStep.yield ok) else pure (ForInStep.yield r)) (TP X ai σ Q) X.xe s
def Ol:TT:=λ_ H Q=>Q true H
theorem qG:YA X [] Ol:=λ_ s σ H Q I h=>wpAny_tests_nil ⟨H,I,h⟩
theorem lZ {c:Expr}{t:TT}(h:PT X c t):YA X [c] t:=λai s σ H Q I q=>wpAny_tests_one (h ai s σ H Q I q)
def Ov (n:Nat)(caps:List Nat)(wi:TI)(g:TG)(tc:TT)(te:TE):TE:=fun σ H Q=>wi σ H λJ H1=>∃ W:Nat->Nat->St->List V->Hp->Prop,(∃ m,W 0 m (lM n caps σ) [] H1)/\∀ i m τ acc H,W i m τ acc H ->
 (J.stop i H/\acc.length<=sizeLine/\∀ p,H p=none->Q (.ref p) (upd H p (.lst acc))) \/
 (J.go i H/\acc.length < sizeLine/\∀ x H',J.LL i H x H'->g x τ H' fun eU H2=>tc eU H2 λb H3=>if b=true then te eU H3 λy H4=>∃ m',m' < m/\W (i + 1) m' eU (acc++[y]) H4 else ∃ m',m' < m/\W (i + 1) m' eU acc H3)
theorem gZ.V4 {P:Program}{w:World}{H:Hp}{h:Heap}{a:Addr}{o:HO}(x:gZ P w H h)(hn:H a=none)(new:bu P w (upd H a o) h a o):gZ P w (upd H a o) h:=λb u e=>by
 by_cases hb:b=a
 ·subst hb;rw [xa] at e;cases e;exact new
 ·rw [xl hb] at e;exact (x b u e).dN (λc v _ q=>q) (λc q=>by rw [xl (xg q hn)];exact q) λc xs q=>by rw [xl (xg q hn)];exact q
theorem qd {own:List Str}{caps:List Nat}{elt tg iter:Expr}{ifs:List Expr}{scope:Scope}{pos:Pos}{wi:TI}{g:TG}{tc:TT}{te:TE}{use:Option (Value->Sem Unit)}{QV:Value->Shared->Prop}{Q:VK}(hc:X.calm=true)(S:aI own caps X.N X.env.scope scope)(hi:PI X tg iter wi)
  (hg:∀ s H fp C,PG (dX X own caps scope s H fp C) tg g) (ht:∀ s H fp C,YA (dX X own caps scope s H fp C) ifs tc) (he:∀ s H fp C,PE (dX X own caps scope s H fp C) elt te)
  (hs:∀ x,foldedSetIterable iter X.env x=pure x) (I:Inv X ai σ H s) (h:Ov own.length caps wi g tc te σ H Q)
  (fin:∀ (s6:Shared) (D C:Addr) (H6:Hp) (m6:Str->Option Value) (f:Flow),Inv X ai σ H6 s6->iY X ai H6 C->s6.heap.Ns C m6->Q (.ref D) H6->compPost (model X.prog X.w) X.A X.xe use QV (.ref D) C (.ok f) s6) :
  wpAny (model X.prog X.w) X.A (comprehension (.ListComp elt [⟨tg,iter,ifs,0⟩] scope pos) scope X.env (firstIterPos [⟨tg,iter,ifs,0⟩] pos) (newList []) false (eval iter X.env) use) QV X.xe s:=by
 refine wpAny_comprehension_free (use:=use) (cl:=fO scope.names X.env []) rfl hs (iK λy hy e=>I.ok.has y.1 (S.fr y hy e)) S.kind S.loc
  (wpAny_mono (hi ai s σ H _ I h) (λv s1 h1=>aZ h1 λitv s2 h2=>?_) λ_ _ e=>e)
 obtain ⟨it,fp,tn,J,H2,e,I2,T,YR,f2,W,⟨m0,w0⟩,turn⟩:=h2;subst e;refine wpAny_newObj_type (wpAny_newFunctionEnv S.j5 (by intro y hy;simp at hy) (λnM vF rF=>?_) S.kind);dsimp only at vF rF ⊢;generalize hH2:s2.heap.push { cls:=.type "list", dict:=none,data:=.seq ([]:List Value).toArray }=G at vF rF ⊢;have hG:G.objs.size=s2.heap.objs.size + 1:=by rw [<-hH2,Heap.size_push]
 have XZ:s2.heap.objs.size≠G.objs.size:=by rw [hG];exact za (yu _)
 have X0:s2.heap.objs.size<=G.objs.size:=by rw [hG];exact zx _
 have below:∀ b,b < s2.heap.objs.size->b≠G.objs.size:=λb hb=>by rw [hG];exact za (xL hb)
 have old:∀ b o,s2.heap.get? b=some o->nM.get? b=some o:=λb o e=>rF.extBut b o (below b (Heap.lt_size e)) (Heap.get?_push_of_some _ (hH2 ▸ Heap.get?_push_of_some _ e));have U3:nM.get? s2.heap.objs.size=some { cls:=.type "list", dict:=none,data:=.seq ([]:List Value).toArray }:=rF.extBut _ _ XZ (Heap.get?_push_of_some _ (hH2 ▸ Heap.get?_push_size _ rfl));have fl:∀ b∈fp,b < s2.heap.objs.size:=λb hb=>let ⟨o,e,_⟩:=T.obj _ _ YR b hb;Heap.lt_size e;have Si:nM.Ns G.objs.size λ_=>none:=vF;have I4:=PZ (tk:=s2.toks + ([]:List (Str×Value)).length) I2 S f2 fl (zE _) X0 XZ old Si U3 (λv z=>nomatch z);have st4:tn 0 nM:=T.keep _ _ _ YR λb _ o e=>old b o e;generalize hs4:({ s2 with heap:=nM,toks:=s2.toks + ([]:List (Str×Value)).length }:Shared)=s4 at I4 ⊢;have e4:s4.heap=nM:=by rw [<-hs4]
 rw [<-e4] at st4
 -- VC loop
 have loop:codeAny (model X.prog X.w) X.A (.compLoop (.ListComp elt [⟨tg,iter,ifs,0⟩] scope pos) 0 (.ref it) (.ref s2.heap.objs.size) (compEnvC scope (fO scope.names X.env []) G.objs.size X.env))
   (compPost (model X.prog X.w) X.A X.xe use QV (.ref s2.heap.objs.size) G.objs.size) s4:=by
  let Y:=dX X own caps scope s2 H2 fp G.objs.size
  have uR:∀ {H':Hp}{az:List Value}{n:Nat},(∀ b∈fp,H' b=none)->∀ b∈fp,iY Y [(s2.heap.objs.size,({ cls:=.type "list", data:=.seq az.toArray n }:Obj))] H' b:=λ{H' az n} hn b hb=>by
   refine ⟨hn b hb,below b (fl b hb),λz=>?_,.inl hb,λx c e=>(f2 b hb).2.2.2.2.1 x c (wR e),λp hp=>?_⟩
   ·rcases zN.mp (I2.jS b z) with e | e
    ·exact (f2 b hb).2.1 e
    ·exact (f2 b hb).2.2.1 e
   ·have e:p=(s2.heap.objs.size,({ cls:=.type "list", data:=.seq az.toArray n }:Obj)):=by simpa using (show p∈[]++[_] from hp)
    subst e;exact ym (fl b hb)
  refine Nj (λn s'=>∃ i τ acc az k H',Inv Y [(s2.heap.objs.size,({ cls:=.type "list", data:=.seq az.toArray k }:Obj))] τ H' s'/\tn i s'.heap/\(∀ b∈fp,H' b=none)/\Vals acc az/\W i n τ acc H') ?_ m0
   ⟨0,_,[],[],0,H2,I4,st4,λb hb=>(f2 b hb).1,.nil,w0⟩
  rintro n s5 ⟨i,τ,acc,az,k,H5,I5,VE,Zp,YW,w5⟩;rcases turn i n τ acc H5 w5 with ⟨stop,hz,q⟩ | ⟨go,hz,step⟩
  ·refine aZ (T.done Y rfl rfl rfl hc i _ s5 τ H5 (λ_ _=>False) I5 (uR Zp) VE stop) λr s6 ⟨hr,I6⟩=>?_;subst hr;obtain ⟨eD,nD,_,_,_⟩:=I6.pin _ (zI _ (zJ.mpr rfl));obtain ⟨m6,hm6,_⟩:=I6.loc;have hC6:H5 G.objs.size=none:=I6.free;have abU:gZ X.prog X.w H5 s6.heap:=I6.aR;have ub:=I6.base;have IX:Inv X ai σ (upd H5 s2.heap.objs.size (.lst acc)) s6:=by
    refine I2.Yn (ch:=fp) (s':=s6) I6.os ⟨λb o e n' hb hx=>ub.keep b o e n' hb hx,λb o e n' hb hx=>?_,λb o e n' hx=>?_,λb o e hx=>?_,λb xs e=>?_,λb o u e=>?_,λb ps e=>?_⟩
     (abU.V4 nD ⟨hz,az,k,YW,eD⟩) I6.bare λb hb=>⟨(f2 b hb).2.2.2.1,(f2 b hb).2.1,(f2 b hb).2.2.2.2.1,(f2 b hb).2.2.2.2.2⟩
    ·exact ub.slot b o e n' hb hx
    ·rw [xl (za (Heap.lt_size e))];exact ub.free b o e n' hx
    ·exact ub.there b o e hx
    ·have z:=ub.aT b xs e;rw [xl (xg z nD)];exact z
    ·have z:=ub.jq b o u e;rw [xl (xg z nD)];exact z
    ·obtain ⟨more,z⟩:=ub.i8 b ps e;exact ⟨more,by rw [xl (xg z nD)];exact z⟩
   have X3:(upd H5 s2.heap.objs.size (.lst acc)) G.objs.size=none:=by rw [xl (Ne.symm XZ)];exact hC6
   have fC:iY X ai (upd H5 s2.heap.objs.size (.lst acc)) G.objs.size:=I2.rJ X0 X3;exact fin s6 _ _ _ m6 _ IX fC hm6 (q _ nD)
  ·refine aZ (T.item Y rfl rfl rfl hc i _ s5 τ H5 (λ_ _=>False) I5 (uR Zp) VE go) λr s6 ⟨u,hr,h6⟩=>?_;subst hr;refine aZ h6 λ_ s7 ⟨x,H7,I7,r7,y7,st7,fr7⟩=>?_;have I7':=I7.pinned (uR fr7) (T.obj _ _ st7);refine aZ (hg s2 H2 fp G.objs.size _ s7 τ H7 x u _ I7' r7 (step x H7 y7)) λ_ s8 ⟨VZ,H8,I8,q8⟩=>?_;refine aZ (ht s2 H2 fp G.objs.size _ s8 VZ H8 _ I8 q8) λok s9 ⟨H9,I9,q9⟩=>?_
   -- VC vA state behind VC turn
   have back:∀ {s':Shared}{τ':St}{H':Hp},Inv Y ([(s2.heap.objs.size,({ cls:=.type "list", data:=.seq az.toArray k }:Obj))]++m5 fp s7.heap) τ' H' s'->(tn (i + 1) s'.heap/\∀ b∈fp,H' b=none):=λ{s' τ' H'} Ib=>
    ⟨T.keep _ _ _ st7 λb hb o e=>(Ib.pin (b,o) (zI _ (zI _ (dR hb e)))).1,λb hb=>by
     obtain ⟨o,e,d⟩:=T.obj _ _ st7 b hb;exact (Ib.pin (b,o) (zI _ (zI _ (dR hb e)))).2.1⟩
   cases ok with
   | false=>
    obtain ⟨m',oR,w'⟩:=q9;obtain ⟨sb,fb⟩:=back I9;exact ⟨m',oR,i + 1,VZ,acc,az,k,H9,I9.gF,sb,fb,YW,w'⟩
   | true=>
    refine aZ (he s2 H2 fp G.objs.size _ s9 VZ H9 _ I9 q9) λy MZ ⟨yv,VY,I10,r10,q10⟩=>?_;obtain ⟨m',oR,w'⟩:=q10;obtain ⟨sb,fb⟩:=back I10;obtain ⟨eD,nD,SY,nfD,_⟩:=I10.pin (s2.heap.objs.size,_) (zI _ (zY _ (zJ.mpr rfl)));have hl:acc.length=az.length:=YW.length;refine call_meets F.slot_list_append ⟨_,eD,rfl⟩ F.entry_list_append (F.args_list_append_2 _ _) (PySem.list_append s2.heap.objs.size az.toArray k y (by rw [zM];omega)) ⟨eD,?_⟩;have q:=PySem.IsL.update eD (λa:Array Value=>a.push y);have Iu:Inv Y [] VZ VY MZ:=I10.cS λp hp=>nomatch hp;have It:=Iu.turned (t':=MZ.toks) (it:=s2.heap.objs.size) (h':=MZ.heap.update s2.heap.objs.size (Obj.mapSeq (λa:Array Value=>a.push y))) (λb o hb e=>(Heap.get?_update_other MZ.heap _ (Ne.symm hb)).trans e) nD SY (.inr (zE _))
     (λx c e z=>by
      obtain ⟨v,ob,Sh,_⟩:=I2.cell x c (wR e);exact absurd (Heap.lt_size Sh) (by rw [z];exact z6 _)) (λp hp=>nomatch hp)
    have It':=It.cS (gf:=[(s2.heap.objs.size,({ cls:=.type "list", data:=.seq (az++[y]).toArray (k + 1) }:Obj))]) λp hp=>by
     have e:p=_:=zJ.mp hp;subst e;exact ⟨by simpa using q,nD,SY,nfD,λv z=>nomatch z⟩
    refine ⟨m',oR,i + 1,VZ,acc++[yv],az++[y],_,VY,It',T.keep _ _ _ sb λb hb o e=>(Heap.get?_update_other MZ.heap _ (ym (fl b hb))).trans e,fb,YW.append (.cons r10 .nil),w'⟩
 exact codeAny_compStart_list loop (T.self _ 0 s4 _ _ st4 loop)
theorem wy {own:List Str}{caps:List Nat}{elt tg iter:Expr}{ifs:List Expr}{scope:Scope}{pos:Pos}{wi:TI}{g:TG}{tc:TT}{te:TE}(hc:X.calm=true)(S:aI own caps X.N X.env.scope scope)(hi:PI X tg iter wi)
  (hg:∀ s H fp C,PG (dX X own caps scope s H fp C) tg g) (ht:∀ s H fp C,YA (dX X own caps scope s H fp C) ifs tc) (he:∀ s H fp C,PE (dX X own caps scope s H fp C) elt te)
  (hs:∀ x,foldedSetIterable iter X.env x=pure x:=by intro _;rfl):PE X (.ListComp elt [⟨tg,iter,ifs,0⟩] scope pos) (Ov own.length caps wi g tc te):=by
 intro ai s σ H Q I h;rw [eval_ListComp];exact qd hc S hi hg ht he hs I h λs6 D C H6 m6 _ IX fC hm q=>⟨m6,hm,λh' S4=>⟨.ref D,H6,IX.turned (t':=s6.toks) (λb o hb e=>S4.extBut b o hb e) fC.1 fC.2.1 fC.2.2.2.1 fC.2.2.2.2.1 fC.2.2.2.2.2,rfl,q⟩⟩
end
open AutoSeq1 (wpAny_loadPart')
section
variable {prog:Program}{w:World}{A:Around}{E:Value->Shared->Prop}{s:Shared}
theorem Um {it t:Addr}{i:Nat}{items}{x:Value}{Q:Value->Shared->Prop}(hit:s.heap.IsTupleIter it t i)(ht:s.heap.IsTuple t items)(hx:items[i]?=some x)
  (hQ:∀ h',h'.IsTupleIter it t (i + 1)->Heap.SameBut it s.heap h'->Q x { s with heap:=h' }):wpAny (model prog w) A (Builtin.SmallTypes.nextOf (.ref it)) Q E s:=by
 have ty:=hit.typeIs (s:=s);obtain ⟨o,ho,hc,hd⟩:=hit;obtain ⟨ot,hot,_,n,hdt⟩:=ht;have new:=hQ _ ⟨_,Heap.get?_update_self (Obj.mapFields (·.set! 1 (rawInt (i + 1)))) ho (Obj.isFreed_of_fields (Obj.data_mapFields hd _)),(Obj.cls_mapFields ..).trans hc,by rw [Obj.data_mapFields hd];simp [rawInt]⟩ (Heap.SameBut.update ..);unfold Builtin.SmallTypes.nextOf;refine wpAny_bind (wpAny_callSpecial?_slot ty F.slot_tuple_iterator_next (wpAny_call_entry F.slot_tuple_iterator_next ty F.entry_tuple_iterator_next ?_ (F.args_tuple_iterator_next_1 _)));unfold Builtin.«tuple_iterator.__next__»;wp_walk using wpAny_field ho hd (x:=.ref t) rfl,wpAny_field ho hd (x:=.int i 0) rfl,wpAny_seqItems hot hdt;simp only [zf,hx];wp_walk using wpAny_setField ho hd (by simp);exact ⟨x,rfl,wpAny_pure new⟩
theorem Mc {it t:Addr}{i:Nat}{items}{Q:Value->Shared->Prop}(hh:A.handled=none)(hit:s.heap.IsTupleIter it t i)(ht:s.heap.IsTuple t items)(hx:items[i]?=none)
  (hE:∀ h' e,Heap.ExtBut it s.heap h'->(∃ o,h'.get? e=some o/\o.cls=.type "StopIteration")->E (.ref e) { s with heap:=h' }):wpAny (model prog w) A (Builtin.SmallTypes.nextOf (.ref it)) Q E s:=by
 have ty:=hit.typeIs (s:=s);obtain ⟨o,ho,hc,hd⟩:=hit;obtain ⟨ot,hot,_,n,hdt⟩:=ht;have hh1:A.in1.handled=none:=hh;unfold Builtin.SmallTypes.nextOf;refine wpAny_bind (wpAny_callSpecial?_slot ty F.slot_tuple_iterator_next (wpAny_call_entry F.slot_tuple_iterator_next ty F.entry_tuple_iterator_next ?_ (F.args_tuple_iterator_next_1 _)));unfold Builtin.«tuple_iterator.__next__»;wp_walk using wpAny_field ho hd (x:=.ref t) rfl,wpAny_field ho hd (x:=.int i 0) rfl,wpAny_seqItems hot hdt;simp only [zf,hx];wp_walk using wpAny_setField ho hd (by simp);simp only [raiseNew];refine wpAny_bind (wpAny_handled ?_);rw [hh1];exact wpAny_bind (wpAny_pure (wpAny_throw (hE _ _ (((Heap.SameBut.update ..).extBut.push _).push _) ⟨_,Heap.get?_push_size _ rfl,rfl⟩)))
end
theorem Vj {prog:Program}{w:World}{A:Around}(hh:A.handled=none)(it t:Addr)(oY:t≠it)(items:Array Value) :
  Draws prog w A it [it,t] items.size (λi v=>items[i]?=some v) (λi h=>h.IsTupleIter it t i/\h.IsTuple t items) where
 live:=λ_ _ st=>let ⟨⟨o,ho,_⟩,_⟩:=st;⟨o,ho⟩
 frame:=λ_ _ _ st hk=>let ⟨⟨o,ho,r⟩,o',rG,r'⟩:=st;⟨⟨o,hk it (by simp) o ho,r⟩,o',hk t (by simp) o' rG,r'⟩
 item:=λi s Q E hi st hQ=>Um st.1 st.2 (Array.getElem?_eq_getElem hi) λh' a b=>hQ _ h' s.toks (Array.getElem?_eq_getElem hi) ⟨a,st.2.extBut b.extBut oY⟩ b
 done:=λs Q E st hE=>Mc hh st.1 st.2 (Array.getElem?_eq_none (zE _)) hE
theorem Vk {prog:Program}{w:World}{A:Around}(hh:A.handled=none)(it t:Addr)(items:Array Value) :
  Draws prog w A it [it,t] 0 (λ_ _=>False) (λ_ h=>∃ j,h.IsTupleIter it t j/\h.IsTuple t items/\items[j]?=none) where
 live:=λ_ _ st=>let ⟨_,⟨o,ho,_⟩,_⟩:=st;⟨o,ho⟩
 frame:=λ_ _ _ st hk=>let ⟨j,⟨o,ho,r⟩,⟨o',rG,r'⟩,z⟩:=st;⟨j,⟨o,hk it (by simp) o ho,r⟩,⟨o',hk t (by simp) o' rG,r'⟩,z⟩
 item:=λi s Q E hi _ _=>absurd hi (yI _)
 done:=λs Q E st hE=>let ⟨_,a,b,c⟩:=st;Mc hh a b c hE
section
variable {prog:Program}{w:World}{A:Around}{E:Value->Shared->Prop}{s:Shared}
theorem NK (l:Addr)(items:Array Value)(o:Obj) :
  Meets (Builtin.«enumerate.__new__» ⟨[.type "enumerate", .ref l],[]⟩) (λ_ R s=>(s.heap.get? l=some o/\s.heap.IsTuple l items) /\
   R (.ok (.ret (.ref (s.heap.push { cls:=.type "tuple_iterator", data:=.fields #[.ref l,.int 0 0] }).objs.size)))
    { s with heap:=(s.heap.push { cls:=.type "tuple_iterator", data:=.fields #[.ref l,.int 0 0] }).push { cls:=.type "enumerate", data:=.fields #[.none,.bool false,.ref s.heap.objs.size,rawInt 0,.none,.none] } }):=
 .of_wp λprog w A R s ⟨⟨hl,hL⟩,h⟩=>by
  obtain ⟨hp,g,d,tk,os⟩:=s;have agT:=sub_enumerate;wp_walk using wpAny_loadPart' hl;refine wpAny_stack_any λst=>wpAny_pure ?_;split
  ·rename_i c _ _ _ _ _;cases (c == Value.type "enumerate") <;> (wp_walk using wpAny_loadPart' hl,wpAny_pyIter_tuple hL) <;> exact ⟨_,rfl,h⟩
  ·wp_walk using wpAny_loadPart' hl,wpAny_pyIter_tuple hL;exact ⟨_,rfl,h⟩
theorem vR {l:Addr}{items:Array Value}{Q:Value->Shared->Prop}(hL:s.heap.IsTuple l items)
  (h:∀ h',IsEnum h' (s.heap.objs.size + 1) s.heap.objs.size 0 .none->h'.IsTupleIter s.heap.objs.size l 0 ->
   (∀ b o,s.heap.get? b=some o->h'.get? b=some o)->Q (.ref (s.heap.objs.size + 1)) { s with heap:=h' }) :
  wpAny (model prog w) A (call (.type "enumerate") [.ref l]) Q E s:=by
 obtain ⟨o,hl,_⟩:=id hL;refine callType_new F.called_enumerate (by decide) (F.typeCall_enumerate_1 _) (F.newCall_enumerate_1 _) (λobj=>F.args_object_init_2 obj _) F.entry_enumerate_new (NK l items o) ⟨⟨hl,hL⟩,?_⟩;generalize hG:s.heap.push { cls:=.type "tuple_iterator", data:=.fields #[.ref l,.int 0 0] }=G;have hz:G.objs.size=s.heap.objs.size + 1:=by rw [<-hG,Heap.size_push]
 have hi:G.get? s.heap.objs.size=some { cls:=.type "tuple_iterator", data:=.fields #[.ref l,.int 0 0] }:=by rw [<-hG];exact Heap.get?_push_size _ rfl
 have he:=Heap.get?_push_size G (o:={ cls:=.type "enumerate", data:=.fields #[.none,.bool false,.ref s.heap.objs.size,rawInt 0,.none,.none] }) rfl;rw [hz] at he;show _/\_;rw [hz];exact ⟨⟨_,he,rfl⟩,h _ he ⟨_,Heap.get?_push_of_some _ hi,rfl,rfl⟩ λb o x=>Heap.get?_push_of_some _ (by rw [<-hG];exact Heap.get?_push_of_some _ x)⟩
end
def QD (K:PySem.W.Frag)(a:Addr):It:=
 ⟨λi H=>∃ xs x,bT K H a xs/\xs[i]?=some x,λi H y H'=>∃ p x,H p=none/\y=.ref p/\H'=upd H p (.tup [.int i,x])/\∀ xs,bT K H a xs->xs[i]?=some x,λi H=>∃ xs,bT K H a xs/\xs.length<=i⟩
theorem uM {P:Program}{w:World}{K:PySem.W.Frag}{es:List Expr}{k:Nat}{pos:Pos}(a e it:Addr)(oY:e≠it) :
  Turn P w K (.Tuple es k pos) (QD K a) [e,it] e (λi h=>(∃ old,IsEnum h e it i old)/\h.IsTupleIter it a i) where
 mem:=by simp
 obj:=λi h st b hb=>by
  obtain ⟨⟨old,he⟩,o,hi,c,d⟩:=st;rcases zN.mp hb with z | z
  ·subst z;exact ⟨_,he,λv q=>nomatch q⟩
  ·have z':b=it:=by simpa using z
   subst z';exact ⟨o,hi,λv q=>by rw [d] at q;cases q⟩
 keep:=λi h h' st q=>by
  obtain ⟨⟨old,he⟩,o,hi,r⟩:=st;exact ⟨⟨old,q e (by simp) _ he⟩,o,q it (by simp) o hi,r⟩
 item:=by
  intro X hP hw hK hc i ai s σ H E I hf st hg;subst hP hw hK;obtain ⟨xs,x,hq,hx⟩:=hg;obtain ⟨az,rv,p,hz⟩:=I.tuple hq;obtain ⟨u,hu,ru⟩:=rv.get hx;obtain ⟨⟨old,he⟩,hi⟩:=st;obtain ⟨e0,e1,e2,e3,e4,e5⟩:=hf e (by simp);obtain ⟨f0,f1,f2,f3,f4,f5⟩:=hf it (by simp);have el:e < s.heap.objs.size:=Heap.lt_size he;have il:it < s.heap.objs.size:=let ⟨_,z,_⟩:=hi;Heap.lt_size z;have ht:s.heap.IsTuple a az.toArray:=p;have hal:a < s.heap.objs.size:=let ⟨_,z,_⟩:=ht;Heap.lt_size z;have hai:a≠it:=λz=>by
   obtain ⟨o1,z1,c1,_⟩:=ht;obtain ⟨o2,z2,c2,_⟩:=hi;rw [z,z2] at z1;cases z1;rw [c2] at c1;exact absurd (Value.type.inj c1) (by decide)
  have hae:e ∉ [it,a]:=λz=>by
   rcases zN.mp z with z | z
   ·exact oY z
   ·have z':e=a:=by simpa using z
    obtain ⟨o1,z1,c1,_⟩:=ht;rw [<-z',he] at z1;cases z1;exact absurd (Value.type.inj c1) (by decide)
  refine wpAny_pyNext_enum_itemD (Vj (A:=X.A.in1) (I.ok.hd hc) it a hai az.toArray) he ⟨hi,ht⟩ (by simpa using (zB.mp hu).1) oY hae λu1 h1 tk hu1 ho abR hT hsz hk=>?_;have eu:u=u1:=by
   have q:az.toArray[i]?=some u:=by simpa using hu
   have Xp:az.toArray[i]?=some u1:=hu1;rw [q] at Xp;exact Option.some.inj Xp
  subst eu;have hi1:=abR.1;refine ⟨_,rfl,?_⟩;refine wpAny_letOwnedTupleGo_enum ho λh2 he2 N3=>?_;have vD:Heap.SameBut e h1 h2:=N3;have m7:∀ b o,b≠e->b≠it->s.heap.get? b=some o->h2.get? b=some o:=λb o hb lU q=>vD.extBut b o hb (hk b o hb lU q);have XX:h2.get? s.heap.objs.size=some { cls:=.type "tuple", data:=.seq #[.int i tk,u] }:=vD.extBut _ _ (ym el) hT;have nT:H s.heap.objs.size=none:=I.aR.fresh (zE _);refine ⟨.ref s.heap.objs.size,upd H s.heap.objs.size (.tup [.int i,x]),?_,rfl,⟨_,x,nT,rfl,rfl,λys hy=>by rw [I.pG hy hq];exact hx⟩,⟨⟨u,by simpa using he2⟩,?_⟩,λb hb=>?_⟩
  ·have qY:∀ b,b ∉ [e,it]->b≠e/\b≠it:=λb hb=>⟨λz=>hb (by simp [z]),λz=>hb (by simp [z])⟩;refine Inv.step (s:=s) (h':=h2) (g':=s.gens) (d':=s.drawn) (t':=tk + 1) (ch:=[e,it]) I (λb hb=>?_) (λb o _ _ hb q _=>m7 b o (qY b hb).1 (qY b hb).2 q) (λb o _ _ hb q _=>⟨o.slots,m7 b o (qY b hb).1 (qY b hb).2 q⟩)
    (λb o _ q n=>by rw [xl (za (Heap.lt_size q))];exact n) (λb o hb q=>⟨o,m7 b o (qY b hb).1 (qY b hb).2 q⟩)
    (λb ys q=>by rw [xl (xg q nT)];exact q) (λb o v q=>by rw [xl (xg q nT)];exact q) (λb ps q=>⟨#[],by rw [xl (xg q nT),q];simp⟩)
    (λm hm=>by
     obtain ⟨o,Vg,ep,q,r⟩:=hm;exact ⟨o,Vg,ep,m7 _ o (Ne.symm e1) (Ne.symm f1) q,r⟩) (λb v q=>?_) I.bare
   ·rcases zN.mp hb with z | z
    ·subst z;exact ⟨e3,e1,e4,e5⟩
    ·have z':b=it:=by simpa using z
     subst z';exact ⟨f3,f1,f4,f5⟩
   ·by_cases hb:b=s.heap.objs.size
    ·subst hb;rw [xa] at q;cases q;exact ⟨⟨by show 2<=sizeLine;rw [sizeLine_eq];decide,λob e=>by rw [XX] at e;cases e;rfl⟩,[.int i tk,u],.cons ⟨_,rfl⟩ (.cons ru .nil),⟨_,XX,rfl,_,rfl⟩⟩
    ·rw [xl hb] at q;refine (I.aR b v q).dN (λc ob hc qc=>m7 c ob ?_ ?_ qc) (λc qc=>by rw [xl (xg qc nT)];exact qc) λc ys qc=>by rw [xl (xg qc nT)];exact qc
     ·rcases hc with z | z
      ·subst z;exact xg q e0
      ·exact xg z e0
     ·rcases hc with z | z
      ·subst z;exact xg q f0
      ·exact xg z f0
  ·obtain ⟨o,q,r⟩:=hi1;exact ⟨o,vD.extBut it o (Ne.symm oY) q,r⟩
  ·rcases zN.mp hb with z | z
   ·subst z;rw [xl (za el)];exact e0
   ·have z':b=it:=by simpa using z
    subst z';rw [xl (za il)];exact f0
 done:=by
  intro X hP hw hK hc i ai s σ H E I hf st hg;subst hP hw hK;obtain ⟨xs,hq,hx⟩:=hg;obtain ⟨az,rv,p,hz⟩:=I.tuple hq;obtain ⟨⟨old,he⟩,hi⟩:=st;obtain ⟨f0,f1,f2,f3,f4,f5⟩:=hf it (by simp);have hl:=rv.length;have ht:s.heap.IsTuple a az.toArray:=p;have hai:a≠it:=λz=>by
   obtain ⟨o1,z1,c1,_⟩:=ht;obtain ⟨o2,z2,c2,_⟩:=hi;rw [z,z2] at z1;cases z1;rw [c2] at c1;exact absurd (Value.type.inj c1) (by decide)
  exact wpAny_pyNext_enum_endD (Vk (A:=X.A.in1) (I.ok.hd hc) it a az.toArray) he ⟨i,hi,ht,by simp;omega⟩ λh' eb=>⟨rfl,I.turned (t':=s.toks) (λb o hb e=>eb b o hb e) f0 f1 f3 f4 f5⟩
 self:=λ_ _ _ _ _ st h=>let ⟨⟨_,he⟩,_⟩:=st;wpAny_pyIter_enum he h
def UN (K:PySem.W.Frag)(ta:TA):TI:=fun σ H R=>ta σ H λvs H1=>∃ a,vs=[.ref a]/\(∃ xs,bT K H1 a xs)/\R (QD K a) H1
theorem O0 {X:Cx}{a:Expr}{ta:TA}{p pos qV:Pos}{es:List Expr}{k:Nat}{K:PySem.W.Frag}(hK:X.K=K)(hg:Gl X "enumerate")(hm:X.mg "enumerate" = none)(ha:PA X [a] ta)(hs:starEach [a] X.env=[(false,eval a X.env)]:=by rfl) :
  PI X (.Tuple es k qV) (.Call (.Name "enumerate" p) [a] [] pos) (UN K ta):=by
 subst hK;intro ai s σ H R I h;refine Call_ (fE I hg hm boot_enumerate (zu (aZ (ha pos ai s σ H _ I h) λus s1 ⟨vs,H1,I1,r1,q1⟩=>?_) hs rfl));obtain ⟨l,e,⟨xs,hq⟩,q⟩:=q1;subst e;cases r1 with
 | cons r rr=>
  cases rr;cases r;obtain ⟨az,rv,p,hz⟩:=I1.tuple hq;refine vR (show s1.heap.IsTuple l az.toArray from p) λh' he hi hk=>?_;refine wpAny_pyIter_enum he ?_;have I2:Inv X ai σ H1 { s1 with heap:=h' }:=I1.kept (t':=s1.toks) hk;refine ⟨s1.heap.objs.size + 1,[s1.heap.objs.size + 1,s1.heap.objs.size],_,_,H1,rfl,I2,uM l _ _ (Nat.succ_ne_self _),⟨⟨_,he⟩,hi⟩,λb hb=>?_,q⟩;have lU:s1.heap.objs.size<=b:=by
   rcases zN.mp hb with z | z
   ·subst z;exact zx _
   ·have z':b=s1.heap.objs.size:=by simpa using z
    subst z';exact zE _
  exact I1.rJ lU (I1.aR.fresh lU)
def QE (K:PySem.W.Frag)(a:Addr):It:=
 ⟨λi H=>∃ xs x,aG K H a xs/\xs[i]?=some x,λi H y H'=>∃ p x,H p=none/\y=.ref p/\H'=upd H p (.tup [.int i,x])/\∀ xs,aG K H a xs->xs[i]?=some x,λi H=>∃ xs,aG K H a xs/\xs.length<=i⟩
theorem uN {P:Program}{w:World}{K:PySem.W.Frag}{es:List Expr}{k:Nat}{pos:Pos}(a e it:Addr)(oY:e≠it) :
  Turn P w K (.Tuple es k pos) (QE K a) [e,it] e (λi h=>(∃ old,IsEnum h e it i old)/\h.IsListIter it a i) where
 mem:=by simp
 obj:=λi h st b hb=>by
  obtain ⟨⟨old,he⟩,o,hi,c,d⟩:=st;rcases zN.mp hb with z | z
  ·subst z;exact ⟨_,he,λv q=>nomatch q⟩
  ·have z':b=it:=by simpa using z
   subst z';exact ⟨o,hi,λv q=>by rw [d] at q;cases q⟩
 keep:=λi h h' st q=>by
  obtain ⟨⟨old,he⟩,o,hi,r⟩:=st;exact ⟨⟨old,q e (by simp) _ he⟩,o,q it (by simp) o hi,r⟩
 item:=by
  intro X hP hw hK hc i ai s σ H E I hf st hg;subst hP hw hK;obtain ⟨xs,x,hq,hx⟩:=hg;obtain ⟨az,rv,p,hz⟩:=I.list hq;obtain ⟨u,hu,ru⟩:=rv.get hx;obtain ⟨⟨old,he⟩,hi⟩:=st;obtain ⟨e0,e1,e2,e3,e4,e5⟩:=hf e (by simp);obtain ⟨f0,f1,f2,f3,f4,f5⟩:=hf it (by simp);have el:e < s.heap.objs.size:=Heap.lt_size he;have il:it < s.heap.objs.size:=let ⟨_,z,_⟩:=hi;Heap.lt_size z;refine wpAny_pyNext_enum_item he hi p.isList (x:=u) (by simpa using hu) oY λh1 ho hi1 hT hsz hk=>?_;obtain ⟨tk,Zd⟩:∃ tk,tk=s.toks:=⟨_,rfl⟩;rw [<-Zd] at hT ⊢;refine ⟨_,rfl,?_⟩;refine wpAny_letOwnedTupleGo_enum ho λh2 he2 N3=>?_;have vD:Heap.SameBut e h1 h2:=N3;have m7:∀ b o,b≠e->b≠it->s.heap.get? b=some o->h2.get? b=some o:=λb o hb lU q=>vD.extBut b o hb (hk b o hb lU q);have XX:h2.get? s.heap.objs.size=some { cls:=.type "tuple", data:=.seq #[.int i tk,u] }:=vD.extBut _ _ (ym el) hT;have nT:H s.heap.objs.size=none:=I.aR.fresh (zE _);refine ⟨.ref s.heap.objs.size,upd H s.heap.objs.size (.tup [.int i,x]),?_,rfl,⟨_,x,nT,rfl,rfl,λys hy=>by rw [I.tR hy hq];exact hx⟩,⟨⟨u,by simpa using he2⟩,?_⟩,λb hb=>?_⟩
  ·have qY:∀ b,b ∉ [e,it]->b≠e/\b≠it:=λb hb=>⟨λz=>hb (by simp [z]),λz=>hb (by simp [z])⟩;refine Inv.step (s:=s) (h':=h2) (g':=s.gens) (d':=s.drawn) (t':=tk + 1) (ch:=[e,it]) I (λb hb=>?_) (λb o _ _ hb q _=>m7 b o (qY b hb).1 (qY b hb).2 q) (λb o _ _ hb q _=>⟨o.slots,m7 b o (qY b hb).1 (qY b hb).2 q⟩)
    (λb o _ q n=>by rw [xl (za (Heap.lt_size q))];exact n) (λb o hb q=>⟨o,m7 b o (qY b hb).1 (qY b hb).2 q⟩)
    (λb ys q=>by rw [xl (xg q nT)];exact q) (λb o v q=>by rw [xl (xg q nT)];exact q) (λb ps q=>⟨#[],by rw [xl (xg q nT),q];simp⟩)
    (λm hm=>by
     obtain ⟨o,Vg,ep,q,r⟩:=hm;exact ⟨o,Vg,ep,m7 _ o (Ne.symm e1) (Ne.symm f1) q,r⟩) (λb v q=>?_) I.bare
   ·rcases zN.mp hb with z | z
    ·subst z;exact ⟨e3,e1,e4,e5⟩
    ·have z':b=it:=by simpa using z
     subst z';exact ⟨f3,f1,f4,f5⟩
   ·by_cases hb:b=s.heap.objs.size
    ·subst hb;rw [xa] at q;cases q;exact ⟨⟨by show 2<=sizeLine;rw [sizeLine_eq];decide,λob e=>by rw [XX] at e;cases e;rfl⟩,[.int i tk,u],.cons ⟨_,rfl⟩ (.cons ru .nil),⟨_,XX,rfl,_,rfl⟩⟩
    ·rw [xl hb] at q;refine (I.aR b v q).dN (λc ob hc qc=>m7 c ob ?_ ?_ qc) (λc qc=>by rw [xl (xg qc nT)];exact qc) λc ys qc=>by rw [xl (xg qc nT)];exact qc
     ·rcases hc with z | z
      ·subst z;exact xg q e0
      ·exact xg z e0
     ·rcases hc with z | z
      ·subst z;exact xg q f0
      ·exact xg z f0
  ·obtain ⟨o,q,r⟩:=hi1;exact ⟨o,vD.extBut it o (Ne.symm oY) q,r⟩
  ·rcases zN.mp hb with z | z
   ·subst z;rw [xl (za el)];exact e0
   ·have z':b=it:=by simpa using z
    subst z';rw [xl (za il)];exact f0
 done:=by
  intro X hP hw hK hc i ai s σ H E I hf st hg;subst hP hw hK;obtain ⟨xs,hq,hx⟩:=hg;obtain ⟨az,rv,p,hz⟩:=I.list hq;obtain ⟨⟨old,he⟩,hi⟩:=st;obtain ⟨f0,f1,f2,f3,f4,f5⟩:=hf it (by simp);have hl:=rv.length;exact wpAny_pyNext_enum_end (I.ok.hd hc) he hi p.isList (by simp;omega) λh' eb=>⟨rfl,I.turned (t':=s.toks) (λb o hb e=>eb b o hb e) f0 f1 f3 f4 f5⟩
 self:=λ_ _ _ _ _ st h=>let ⟨⟨_,he⟩,_⟩:=st;wpAny_pyIter_enum he h
def UO (K:PySem.W.Frag)(ta:TA):TI:=fun σ H R=>ta σ H λvs H1=>∃ a,vs=[.ref a]/\(∃ xs,aG K H1 a xs)/\R (QE K a) H1
theorem gK {X:Cx}{a:Expr}{ta:TA}{p pos qV:Pos}{es:List Expr}{k:Nat}{K:PySem.W.Frag}(hK:X.K=K)(hg:Gl X "enumerate")(hm:X.mg "enumerate" = none)(ha:PA X [a] ta)(hs:starEach [a] X.env=[(false,eval a X.env)]:=by rfl) :
  PI X (.Tuple es k qV) (.Call (.Name "enumerate" p) [a] [] pos) (UO K ta):=by
 subst hK;intro ai s σ H R I h;refine Call_ (fE I hg hm boot_enumerate (zu (aZ (ha pos ai s σ H _ I h) λus s1 ⟨vs,H1,I1,r1,q1⟩=>?_) hs rfl));obtain ⟨l,e,⟨xs,hq⟩,q⟩:=q1;subst e;cases r1 with
 | cons r rr=>
  cases rr;cases r;obtain ⟨az,rv,p,hz⟩:=I1.list hq;refine call_enumerate_list p.isList λh' he hi hsz hk=>?_;refine wpAny_pyIter_enum he ?_;have I2:Inv X ai σ H1 { s1 with heap:=h' }:=I1.kept (t':=s1.toks) hk;refine ⟨s1.heap.objs.size + 1,[s1.heap.objs.size + 1,s1.heap.objs.size],_,_,H1,rfl,I2,uN l _ _ (Nat.succ_ne_self _),⟨⟨_,he⟩,hi⟩,λb hb=>?_,q⟩;have lU:s1.heap.objs.size<=b:=by
   rcases zN.mp hb with z | z
   ·subst z;exact zx _
   ·have z':b=s1.heap.objs.size:=by simpa using z
    subst z';exact zE _
  exact I1.rJ lU (I1.aR.fresh lU)
def qq (H:Hp):V->Option String
 | .bV=>some "NoneType"
 | .bl _=>some "bool"
 | .int _=>some "int"
 | .str _=>some "str"
 | .ref a=>match H a with
  | some (.lst _)=>some "list"
  | some (.o4 _ (.lst _))=>some "list"
  | some (.tup _)=>some "tuple"
  | some (.dK _)=>some "dict"
  | _=>none
 | _=>none
theorem Tp {K:PySem.W.Frag}{H:Hp}{x:V}{t:String}(h:qq H x=some t):kN K H x (.type t):=by
 cases x with
 | bV=>cases h;exact .bV
 | bl b=>cases h;exact .bl b
 | int i=>cases h;exact .int i
 | str x=>cases h;exact .str x
 | ref a=>
  unfold qq at h;dsimp only at h;split at h
  ·rename_i e;cases h;exact .lst e
  ·rename_i e;cases h;exact .o4 e
  ·rename_i e;cases h;exact .tup e
  ·rename_i e;cases h;exact .dK e
  ·cases h
 | _=>cases h
theorem qp {H:Hp}{x:V}{t:String}(h:qq H x=some t):t = "NoneType" \/ t = "bool" \/ t = "int" \/ t = "str" \/ t = "list" \/ t = "tuple" \/ t = "dict" := by
 cases x with
 | ref a=>
  unfold qq at h;dsimp only at h;split at h <;> cases h <;> simp
 | _=>cases h <;> simp
def PV (t T:String):Bool:=t == T || (t == "bool" && T == "int")
theorem UD {K:PySem.W.Frag}{t T:String}(h:t = "NoneType" \/ t = "bool" \/ t = "int" \/ t = "str" \/ t = "list" \/ t = "tuple" \/ t = "dict")(hT:T = "int" \/ T = "bool" \/ T = "list" \/ T = "tuple"):PySem.W.kitOne K (.type t) (.type T)=some (PV t T):=by rcases h with rfl | rfl | rfl | rfl | rfl | rfl | rfl <;> rcases hT with rfl | rfl | rfl | rfl <;> first | rfl | decide +kernel
section
variable {X:Cx}
theorem fc:fj X (.builtin "isinstance") (λxs H Q=>∃ x t T,xs=[x,.ty T]/\qq H x=some t/\(T = "int" \/ T = "bool" \/ T = "list" \/ T = "tuple")/\Q (.bl (PV t T)) H):=by intro ai s σ H xs us Q I r h;obtain ⟨x,t,T,rfl,ht,hT,q⟩:=h;obtain ⟨u,w',rfl,r1,r2⟩:=vals2 r;cases r2;exact Nu I r1 (Tp ht) (UD (qp ht) hT) λtk=>⟨.bl _,H,I.tok tk,rfl,q⟩
theorem cV:gw X (binaryOp .FloorDiv) (rI (λ_ j=>0 < j/\j < 2 ^ 200) λi j=>.int (i / j)):=WJ λi j _ _ _ _ _ hc q=>by
 have e:i.fdiv j=i / j:=Int.fdiv_eq_ediv_of_nonneg _ (by omega);rw [<-e] at q;refine floordiv_int (by omega) q (.inl (PyProof.noPylong_of_log2 ?_));have h0:j.natAbs≠0:=by omega
 have h1:j.natAbs < 2 ^ 200:=by omega
 have:=(Nat.log2_lt h0).mpr h1;omega
theorem Pc (hu:X.A.units + 64 < cLine):gw X (compareOp .NotEq) (λx y H Q=>∃ a b xs,x=.ref a/\y=.ref b/\aG X.K H a xs/\aG X.K H b []/\Q (.bl (!xs.isEmpty)) H):=by
 intro ai s σ H x y v u Q I rx ry h;obtain ⟨a,b,xs,rfl,rfl,ha,hb,q⟩:=h;cases rx;cases ry;obtain ⟨az,r,p,_⟩:=I.list ha;obtain ⟨dz,r2,p2,_⟩:=I.list hb;cases r2;cases r with
 | nil=>exact SeqAt.RcNeAt.lists (e:=λ_=>true) p.isList p2.isList rfl (by omega) (λj h1=>absurd h1 (yI _)) _ _ _ _ ⟨.bl _,H,I,rfl,q⟩
 | cons r1 rr=>exact SeqAt.RcNeAt.lists_lengths p.isList p2.isList (by simp) (by omega) _ _ _ _ ⟨.bl _,H,I,rfl,q⟩
theorem Na (hu:X.A.units + 64 < cLine):gw X (compareOp .Eq) (λx y H Q=>∃ a b xs,x=.ref a/\y=.ref b/\bT X.K H a xs/\bT X.K H b []/\Q (.bl xs.isEmpty) H):=by
 intro ai s σ H x y v u Q I rx ry h;obtain ⟨a,b,xs,rfl,rfl,ha,hb,q⟩:=h;cases rx;cases ry;obtain ⟨az,r,p,_⟩:=I.tuple ha;obtain ⟨dz,r2,p2,_⟩:=I.tuple hb;cases r2;have q':Q (.bl ((List.range (min az.toArray.size ([]:List Value).toArray.size)).all (λ_=>true) && az.toArray.size == ([]:List Value).toArray.size)) H:=by
  cases r with
  | nil=>simpa using q
  | cons r1 rr=>simpa using q
 exact SeqAt.RcAt.tuples (e:=λ_=>true) p p2 (by omega) (λj h1 h2=>absurd h2 (yI _)) _ _ _ _ ⟨.bl _,H,I,rfl,q'⟩
variable {K:PySem.W.Frag}
theorem wE {es:List Expr}{k:Nat}{t:Td}{n:Nat}{pos:Pos}(hK:X.K=K)(hc:X.calm=true)(h:YB X es t)
  (hn:(assignEach es X.env).length=n:=by rfl) (Xr:(assignEach es X.env).findIdx? (·.1)=none:=by rfl):PG X (.Tuple es k pos) (NF K n t):=by subst hK;exact Uc hc h hn Xr
theorem wX {tg l:Expr}{tl:TE}(hK:X.K=K)(hl:PE X l tl):PI X tg l (S2 K tl):=by subst hK;exact RE hl
theorem gJ {tg l:Expr}{tl:TE}(hK:X.K=K)(hl:PE X l tl):PI X tg l (Xf K tl):=by subst hK;exact Ub hl
theorem xp (hK:X.K=K):YG X (vf K):=by subst hK;exact R9
theorem wC (hK:X.K=K):YG X (M3 K):=by subst hK;exact UJ
theorem mT (hK:X.K=K):Yy X (WC K):=by subst hK;exact Rw
theorem LQ (hK:X.K=K):Yy X (WB K):=by subst hK;exact T6
theorem fW (hK:X.K=K):gw X (compareOp .In) (rIn K false):=by subst hK;exact M9
theorem xq (hK:X.K=K):fj X (.builtin "len") (λxs H Q=>∃ p ys,xs=[.ref p]/\(aG K H p ys\/bT K H p ys)/\Q (.int ys.length) H):=by subst hK;exact rQ
theorem fG (hK:X.K=K):fj X (.type "list") (λxs H Q=>∃ p ys,xs=[.ref p]/\(aG K H p ys\/bT K H p ys)/\∀ l,H l=none->Q (.ref l) (upd H l (.lst ys))):=by subst hK;exact rP
end
theorem t7 {X:Cx}{K:PySem.W.Frag}(hK:X.K=K):YC X (λo i H Q=>∃ p xs v,∃ k:Nat,o=.ref p/\i=.int k/\aG K H p xs/\xs[k]?=some v/\Q v H):=by subst hK;intro ai s σ H o i ov iv Q I ro ri h;obtain ⟨p,xs,v,k,rfl,rfl,hq,hv,q⟩:=h;cases ro;obtain ⟨t,rfl⟩:=ri;obtain ⟨az,r,pl,hz⟩:=I.list hq;obtain ⟨w,ew,u9⟩:=r.get hv;have hk:k < xs.length:=(zB.mp hv).1;have hn:=j7;exact wpAny_getItem_list pl.isList (by omega) (by omega) (by simpa using ew) ⟨v,H,I,u9,q⟩
end L2
namespace aQ
open PySem PySem.W PyProof.Rows
def gu {α:Type}(n:Nat)(c:Nat->Nat->Bool):KasT α->(α->Prop)->Prop
 | .ret a,P=>P a
 | .ask i j k,P=>i < n/\j < n/\gu n c (k (c i j)) P
theorem gu.bind {α β:Type}{n:Nat}{c:Nat->Nat->Bool}{f:α->KasT β}{P:β->Prop}:∀ (t:KasT α),gu n c t (λa=>gu n c (f a) P)->gu n c (t.bind f) P
 | .ret a,h=>h
 | .ask i j k,h=>⟨h.1,h.2.1,gu.bind (k (c i j)) h.2.2⟩
theorem gu.mono {α:Type}{n:Nat}{c:Nat->Nat->Bool}{P P':α->Prop}(hp:∀ a,P a->P' a):∀ (t:KasT α),gu n c t P->gu n c t P'
 | .ret a,h=>hp a h
 | .ask i j k,h=>⟨h.1,h.2.1,gu.mono hp (k (c i j)) h.2.2⟩
theorem gu.wp {α:Type}{n:Nat}{c:Nat->Nat->Bool}{P:α->Prop}{Q:α->Shared->Prop}{cmp:Nat->Nat->(Bool->Shared->Prop)->Shared->Prop}{s:Shared}
  (hc:∀ i j C,i < n->j < n->C (c i j) s->cmp i j C s) (hq:∀ a,P a->Q a s):∀ (t:KasT α),gu n c t P->t.kasWp cmp Q s
 | .ret a,h=>hq a h
 | .ask i j k,h=>hc i j _ h.1 h.2.1 (gu.wp hc hq (k (c i j)) h.2.2)
section
variable {n:Nat}{f:Nat->Int}
def at' (p:Array Nat)(i:Nat):Nat:=(p[i]?).getD 0
theorem getD_at (p:Array Nat)(i:Nat):p.getD i 0=at' p i:=by unfold at';simp
def g (f:Nat->Int)(p:Array Nat)(i:Nat):Int:=f (at' p i)
def Pm (n:Nat)(p:Array Nat):Prop:=p.Perm (List.toArray (List.range n))
theorem Pm.size {p:Array Nat}(h:Pm n p):p.size=n:=by rw [Array.Perm.size_eq h];simp
theorem Pm.lt {p:Array Nat}(h:Pm n p){i:Nat}(hi:i < n):at' p i < n:=by
 have hs:=h.size;have e:at' p i=p[i]'(by omega):=by unfold at';simp [hs,hi]
 have hm:p[i]'(by omega)∈p:=Array.getElem_mem _;have oR:=(Array.Perm.mem_iff h).mp hm;rw [e];simpa using oR
theorem Pm.rev {p:Array Nat}(h:Pm n p)(i j:Nat):Pm n (kas_rev p i j):=(mirror_perm p i j _).trans h
theorem Pm.bub {p:Array Nat}(h:Pm n p)(k d:Nat):Pm n (bubble p k d):=(bubble_perm p k d).trans h
theorem Mn {p:Array Nat}{i j:Nat}(hj:j<=p.size)(k:Nat):g f (kas_rev p i j) k=if i<=k/\k < j then g f p (i + j - 1 - k) else g f p k:=by unfold g at' kas_rev;rw [getElem?_mirror_all hj k];split <;> rfl
theorem S8 {p:Array Nat}{src d:Nat}(hs:src < p.size)(hd:d<=src)(k:Nat):g f (bubble p src d) k=if k=src - d then g f p src else if src - d < k/\k<=src then g f p (k - 1) else g f p k:=by
 unfold g at';rw [getElem?_bubble hs d hd k];split
 ·rfl
 ·split <;> rfl
def Up (f:Nat->Int)(p:Array Nat)(k:Nat):Prop:=∀ i j,i<=j->j < k->g f p i<=g f p j
def Dn (f:Nat->Int)(p:Array Nat)(k:Nat):Prop:=∀ i j,i<=j->j < k->g f p j<=g f p i
def cf (f:Nat->Int)(i j:Nat):Bool:=decide (f i < f j)
theorem vX {p:Array Nat}(hp:Pm n p):∀ (q m:Nat),1<=m->m + q<=n->Up f p m->gu n (cf f) (kas_asc p q m) (λm'=>m<=m'/\m'<=m + q/\Up f p m'/\(m' < m + q->g f p m' < g f p (m' - 1)))
 | 0,m,_,_,hu=>⟨zE _,zE _,hu,λh=>absurd h (z6 _)⟩
 | q + 1,m,h1,h2,hu=>by
  unfold kas_asc;refine ⟨by rw [getD_at];exact hp.lt (by omega),by rw [getD_at];exact hp.lt (by omega),?_⟩;rw [getD_at,getD_at];by_cases hc:g f p m < g f p (m - 1)
  ·have e:cf f (at' p m) (at' p (m - 1))=true:=decide_eq_true hc;rw [e];dsimp only;rw [if_pos rfl];exact ⟨zE _,by omega,hu,λ_=>hc⟩
  ·have e:cf f (at' p m) (at' p (m - 1))=false:=decide_eq_false hc;rw [e];dsimp only;rw [if_neg zK];refine gu.mono (λm' h=>⟨by omega,by omega,h.2.2.1,λz=>h.2.2.2 (by omega)⟩) _ (vX hp q (m + 1) (by omega) (by omega) λi j rH hj=>?_);by_cases UX:j < m
   ·exact hu i j rH UX
   ·have ej:j=m:=by omega
    subst ej;by_cases hi:i=j
    ·subst hi;omega
    ·have:=hu i (j - 1) (by omega) (by omega);omega
def Zz (f:Nat->Int)(p:Array Nat)(m q:Nat):Prop:=∀ i,m<=i + (q + 1)->i < m->g f p i=g f p (m - 1)
theorem mX {p:Array Nat}(hp:Pm n p){m q:Nat}(hm:m<=n)(hq:q + 1<=m)(hb:Zz f p m q)(k:Nat):g f (kas_rev p (m - (q + 1)) m) k=g f p k:=by
 rw [Mn (by rw [hp.size];exact hm)];split
 ·rename_i h;rw [hb _ (by omega) (by omega),hb k (by omega) (by omega)]
 ·rfl
theorem rM:∀ (t:Nat) (p:Array Nat) (m q:Nat),Pm n p->1<=m->m + t<=n->q + 1<=m->Dn f p m->Zz f p m q ->
  gu n (cf f) (kas_desc t p m q) (λr=>Pm n r.1/\m<=r.2.1/\r.2.1<=n/\r.2.2 + 1<=r.2.1/\Dn f r.1 r.2.1/\Zz f r.1 r.2.1 r.2.2)
 | 0,p,m,q,hp,h1,h2,h3,hd,hb=>⟨hp,zE _,by simpa using h2,h3,hd,hb⟩
 | t + 1,p,m,q,hp,h1,h2,h3,hd,hb=>by
  unfold kas_desc;refine ⟨by rw [getD_at];exact hp.lt (by omega),by rw [getD_at];exact hp.lt (by omega),?_⟩;rw [getD_at,getD_at];by_cases hc:g f p m < g f p (m - 1)
  ·have e:cf f (at' p m) (at' p (m - 1))=true:=decide_eq_true hc;rw [e];dsimp only;rw [if_pos rfl];have step:∀ p':Array Nat,Pm n p'->(∀ k,g f p' k=g f p k)->gu n (cf f) (kas_desc t p' (m + 1) 0) (λr=>Pm n r.1/\m<=r.2.1/\r.2.1<=n/\r.2.2 + 1<=r.2.1/\Dn f r.1 r.2.1/\Zz f r.1 r.2.1 r.2.2):=λp' VN hg=>by
    refine gu.mono (λr h=>⟨h.1,by omega,h.2.2⟩) _ (rM t p' (m + 1) 0 VN (by omega) (by omega) (by omega) (λi j rH hj=>?_) λi hi lS=>?_)
    ·rw [hg,hg];by_cases UX:j < m
     ·exact hd i j rH UX
     ·have ej:j=m:=by omega
      subst ej;by_cases hi:i=j
      ·subst hi;omega
      ·have:=hd i (j - 1) (by omega) (by omega);omega
    ·have:i=m + 1 - 1:=by omega
     rw [this]
   split
   ·exact step _ (hp.rev _ _) (mX hp (by omega) h3 hb)
   ·exact step _ hp λ_=>rfl
  ·have e:cf f (at' p m) (at' p (m - 1))=false:=decide_eq_false hc;rw [e];dsimp only;rw [if_neg zK];refine ⟨hp.lt (by omega),hp.lt (by omega),?_⟩;by_cases VQ:g f p (m - 1) < g f p m
   ·have e2:cf f (at' p (m - 1)) (at' p m)=true:=decide_eq_true VQ;rw [e2];dsimp only;rw [if_pos rfl];exact ⟨hp,zE _,by show m<=n;omega,h3,hd,hb⟩
   ·have e2:cf f (at' p (m - 1)) (at' p m)=false:=decide_eq_false VQ;rw [e2];dsimp only;rw [if_neg zK];have eq:g f p m=g f p (m - 1):=by omega
    refine gu.mono (λr h=>⟨h.1,by omega,h.2.2⟩) _ (rM t p (m + 1) (q + 1) hp (by omega) (by omega) (by omega) (λi j rH hj=>?_) λi hi lS=>?_)
    ·by_cases UX:j < m
     ·exact hd i j rH UX
     ·have ej:j=m:=by omega
      subst ej;by_cases hi:i=j
      ·subst hi;omega
      ·have:=hd i (j - 1) (by omega) (by omega);omega
    ·rw [show m + 1 - 1=m from rfl];by_cases Zg:i=m
     ·rw [Zg]
     ·rw [hb i (by omega) (by omega),eq]
theorem sL {p:Array Nat}{m:Nat}(hp:Pm n p)(h1:1<=m)(hm:m<=n)(hd:Dn f p m):gu n (cf f) (kas_tail3 m n p) (λr=>Pm n r.2/\r.1<=n/\1<=r.1/\Up f r.2 r.1):=by unfold kas_tail3;have VN:=hp.rev 0 m;refine gu.bind _ (gu.mono (λm' h=>⟨VN,by omega,by omega,h.2.2.1⟩) _ (vX VN (n - m) m h1 (by omega) λi j rH hj=>?_));rw [Mn (by rw [hp.size];exact hm),Mn (by rw [hp.size];exact hm),if_pos ⟨by omega,by omega⟩,if_pos ⟨by omega,by omega⟩];exact hd _ _ (by omega) (by omega)
theorem lF {p:Array Nat}{m:Nat}(hp:Pm n p)(h1:1<=m)(hm:m < n)(hd:Dn f p (m + 1)):gu n (cf f) (kas_descPart m n p) (λr=>Pm n r.2/\r.1<=n/\1<=r.1/\Up f r.2 r.1):=by
 unfold kas_descPart;refine gu.bind _ (gu.mono (λr h=>?_) _ (rM (n - (m + 1)) p (m + 1) 0 hp (by omega) (by omega) (by omega) hd λi hi lS=>by rw [show i=m + 1 - 1 by omega]));obtain ⟨a1,a2,a3,a4,a5,a6⟩:=h;split
 ·exact sL (a1.rev _ _) (by omega) a3 λi j rH hj=>by
   rw [mX a1 a3 a4 a6,mX a1 a3 a4 a6];exact a5 i j rH hj
 ·exact sL a1 (by omega) a3 a5
theorem Qo {p:Array Nat}(hn:1<=n)(hp:Pm n p):gu n (cf f) (kas_count n p) (λr=>Pm n r.2/\r.1<=n/\1<=r.1/\Up f r.2 r.1):=by
 unfold kas_count;refine gu.bind _ (gu.mono (λm h=>?_) _ (vX hp (n - 1) 1 (zE _) (by omega) λi j rH hj=>by rw [show i=j by omega];omega));obtain ⟨a1,a2,a3,a4⟩:=h;split
 ·exact ⟨hp,by omega,a1,a3⟩
 ·rename_i oY;have dU:m < n:=by
   have:¬ m=n:=by simpa using oY
   omega
  have a4':=a4 (by omega);split
  ·rename_i hm1;refine ⟨by rw [getD_at];exact hp.lt (by omega),by rw [getD_at];exact hp.lt (by omega),?_⟩;rw [getD_at,getD_at];by_cases hc:g f p 0 < g f p (m - 1)
   ·have e:cf f (at' p 0) (at' p (m - 1))=true:=decide_eq_true hc;rw [e];dsimp only;rw [if_pos rfl];exact ⟨hp,by omega,a1,a3⟩
   ·have e:cf f (at' p 0) (at' p (m - 1))=false:=decide_eq_false hc;rw [e];dsimp only;rw [if_neg zK];have all:∀ k,k < m->g f p k=g f p 0:=λk hk=>by
     have:=a3 0 k (by omega) hk;have:=a3 k (m - 1) (by omega) (by omega);omega
    have gr:∀ k,g f (kas_rev p 0 m) k=g f p k:=λk=>by
     rw [Mn (by rw [hp.size];omega)];split
     ·rw [all _ (by omega),all k (by omega)]
     ·rfl
    refine lF (hp.rev _ _) a1 dU λi j rH hj=>?_;rw [gr,gr];by_cases UX:j < m
    ·rw [all i (by omega),all j UX];omega
    ·have ej:j=m:=by omega
     subst ej;by_cases hi:i=j
     ·subst hi;omega
     ·have:=all i (by omega);have:=all (j - 1) (by omega);omega
  ·refine lF hp a1 dU λi j rH hj=>?_;have em:m=1:=by omega
   subst em;by_cases hi:i=j
   ·subst hi;omega
   ·have e1:i=0:=by omega
    have e2:j=1:=by omega
    subst e1 e2;have:g f p 1 < g f p 0:=a4';omega
theorem mZ {p:Array Nat}{k:Nat}(hp:Pm n p)(hk:k < n)(hu:Up f p k):∀ (t l r:Nat),l<=r->r<=k->r<=l + t->(∀ i,i < l->g f p i<=g f p k)->(∀ i,r<=i->i < k->g f p k < g f p i) ->
  gu n (cf f) (kas_place p k t l r) (λl'=>l'<=k/\(∀ i,i < l'->g f p i<=g f p k)/\∀ i,l'<=i->i < k->g f p k < g f p i)
 | 0,l,r,h1,h2,h3,ha,hb=>⟨by omega,ha,λi hi lS=>hb i (by omega) lS⟩
 | t + 1,l,r,h1,h2,h3,ha,hb=>by
  unfold kas_place;split
  ·exact ⟨by omega,ha,λi hi lS=>hb i (by omega) lS⟩
  ·rename_i N5;refine ⟨by rw [getD_at];exact hp.lt hk,by rw [getD_at];exact hp.lt (by omega),?_⟩;rw [getD_at,getD_at];by_cases hc:g f p k < g f p ((l + r) / 2)
   ·have e:cf f (at' p k) (at' p ((l + r) / 2))=true:=decide_eq_true hc;rw [e];dsimp only;rw [if_pos rfl];refine mZ hp hk hu t l ((l + r) / 2) (by omega) (by omega) (by omega) ha λi hi lS=>?_;have:=hu ((l + r) / 2) i (by omega) lS;omega
   ·have e:cf f (at' p k) (at' p ((l + r) / 2))=false:=decide_eq_false hc;rw [e];dsimp only;rw [if_neg zK];refine mZ hp hk hu t ((l + r) / 2 + 1) r (by omega) (by omega) (by omega) (λi hi=>?_) hb;have:=hu i ((l + r) / 2) (by omega) (by omega);omega
theorem Qv:∀ (t:Nat) (p:Array Nat) (k:Nat),Pm n p->k + t=n->Up f p k->gu n (cf f) (kas_bin t p k) (λp'=>Pm n p'/\Up f p' n)
 | 0,p,k,hp,hk,hu=>⟨hp,by rw [<-hk];exact hu⟩
 | t + 1,p,k,hp,hk,hu=>by
  unfold kas_bin;refine gu.bind _ (gu.mono (λl h=>?_) _ (mZ hp (by omega) hu k 0 k (by omega) (by omega) (by omega) (λi hi=>absurd hi (yI _)) λi hi lS=>absurd lS (by omega)));obtain ⟨a1,a2,a3⟩:=h;refine Qv t _ (k + 1) (hp.bub _ _) (by omega) λi j rH hj=>?_;have hs:k < p.size:=by rw [hp.size];omega
  rw [S8 hs (by omega),S8 hs (by omega)];have el:k - (k - l)=l:=by omega
  rw [el];by_cases hil:i=l
  ·rw [if_pos hil];by_cases XI:j=l
   ·rw [if_pos XI];omega
   ·rw [if_neg XI,if_pos ⟨by omega,by omega⟩];have:=a3 (j - 1) (by omega) (by omega);omega
  ·rw [if_neg hil];by_cases Zg:l < i/\i<=k
   ·rw [if_pos Zg];rw [if_neg (by omega),if_pos ⟨by omega,by omega⟩];exact hu _ _ (by omega) (by omega)
   ·rw [if_neg Zg];have hi3:i < l:=by omega
    by_cases XI:j=l
    ·rw [if_pos XI];exact a2 i hi3
    ·rw [if_neg XI];by_cases hj2:l < j/\j<=k
     ·rw [if_pos hj2];exact hu _ _ (by omega) (by omega)
     ·rw [if_neg hj2];exact hu _ _ rH (by omega)
theorem LP (hn:1<=n):gu n (cf f) (kas_sort n) (λp=>Pm n p/\Up f p n):=by
 unfold kas_sort;refine gu.bind _ (gu.mono (λr h=>?_) _ (Qo hn (show Pm n (List.toArray (List.range n)) from Array.Perm.refl _)));obtain ⟨a1,a2,a3,a4⟩:=h;split
 ·have e:max r.1 1=r.1:=by omega
  rw [e];exact Qv _ _ _ a1 (by omega) a4
 ·have e:r.1=n:=by omega
  exact ⟨a1,by rw [<-e];exact a4⟩
end
end aQ
namespace aQ
def lx:List Int->List Int->Bool
 | [],[]=>false
 | [],_::_=>true
 | _::_,[]=>false
 | x::xs,y::ys=>if x=y then lx xs ys else decide (x < y)
theorem PB:∀ r:List Int,lx r r=false
 | []=>rfl
 | x::xs=>by unfold lx;rw [if_pos rfl];exact PB xs
theorem Pz:∀ {a b c:List Int},lx a b=true->lx b c=true->lx a c=true
 | [],[],_,h,_=>by cases h
 | [],_::_,[],_,h=>by cases h
 | [],_::_,_::_,_,_=>rfl
 | _::_,[],_,h,_=>by cases h
 | _::_,_::_,[],_,h=>by cases h
 | x::xs,y::ys,z::zs,h,h'=>by
  unfold lx at h h' ⊢;split at h
  ·split at h'
   ·rename_i e1 e2;rw [if_pos (e1.trans e2)];exact Pz h h'
   ·rename_i e1 e2;simp only [decide_eq_true_eq] at h';rw [if_neg (by omega)];simp only [decide_eq_true_eq];omega
  ·simp only [decide_eq_true_eq] at h;split at h'
   ·rename_i e1 e2;rw [if_neg (by omega)];simp only [decide_eq_true_eq];omega
   ·simp only [decide_eq_true_eq] at h';rw [if_neg (by omega)];simp only [decide_eq_true_eq];omega
theorem vt:∀ {a b:List Int},lx a b=false->lx b a=false->a=b
 | [],[],_,_=>rfl
 | [],_::_,h,_=>by cases h
 | _::_,[],_,h=>by cases h
 | x::xs,y::ys,h,h'=>by
  unfold lx at h h';split at h
  ·rename_i e;subst e;rw [if_pos rfl] at h';rw [vt h h']
  ·rename_i e;rw [if_neg λz=>e z.symm] at h';simp only [decide_eq_false_iff_not] at h h';omega
def rk (rs:List (List Int))(r:List Int):Int:=((rs.countP λx=>lx x r:Nat):Int)
theorem ku {α:Type}{p q:α->Bool}{a:α}:∀ {l:List α},(∀ x,p x=true->q x=true)->a∈l->p a=false->q a=true->l.countP p < l.countP q
 | [],_,h,_,_=>by cases h
 | x::l,hpq,h,h1,h2=>by
  have hm:l.countP p<=l.countP q:=List.countP_mono_left λx _=>hpq x;rcases zN.mp h with rfl | h
  ·rw [List.countP_cons_of_neg (by rw [h1];exact zK),List.countP_cons_of_pos h2];omega
  ·have:=ku hpq h h1 h2;rw [List.countP_cons,List.countP_cons];cases e:p x with
   | true=>rw [hpq x e];simp;omega
   | false=>cases e2:q x <;> simp <;> omega
theorem pN {rs:List (List Int)}{a b:List Int}(ha:a∈rs):decide (rk rs a < rk rs b)=lx a b:=by
 unfold rk;cases h:lx a b with
 | true=>
  have:=ku (p:=λx=>lx x a) (q:=λx=>lx x b) (λx hx=>Pz hx h) ha (PB a) h;simp only [decide_eq_true_eq];omega
 | false=>
  have hm:rs.countP (λx=>lx x b)<=rs.countP (λx=>lx x a):=List.countP_mono_left λx _ hx=>by
   cases h':lx b a with
   | true=>exact Pz hx h'
   | false=>rw [vt h h'];exact hx
  simp only [decide_eq_false_iff_not];omega
end aQ
namespace L2
open PySem PySem.Spec PyProof.Rows PySem.W aQ
theorem bu.at {P:Program}{w:World}{H:Hp}{h:Heap}{a:Addr}{o:HO}(x:bu P w H h a o):∃ ob,h.get? a=some ob:=by
 cases o with
 | lst xs=>obtain ⟨_,_,_,_,e⟩:=x;exact ⟨_,e⟩
 | tup xs=>obtain ⟨_,_,_,ob,e,_⟩:=x;exact ⟨_,e⟩
 | dK kvs=>obtain ⟨_,_,_,_,o,_,_,e,_⟩:=x;exact ⟨_,e⟩
 | dT kvs=>obtain ⟨_,_,_,_,o,_,_,e,_⟩:=x;exact ⟨_,e⟩
 | set S n=>obtain ⟨o,_,_,_,e,_⟩:=x;exact ⟨_,e⟩
 | ins C dx fs=>obtain ⟨_,_,_,e,_⟩:=x;exact ⟨_,e⟩
 | own y=>obtain ⟨_,e⟩:=x;exact ⟨_,e⟩
 | xd fs=>obtain ⟨_,⟨_,_,_,e,_⟩,_⟩:=x;exact ⟨_,e⟩
 | YX lo hi=>obtain ⟨_,_,_,e⟩:=x;exact ⟨_,e⟩
 | o4 ob u=>obtain ⟨e,_⟩:=x;exact ⟨_,e⟩
 | jQ ps=>exact ⟨_,(show h.get? a=some _ from x)⟩
 | met f y=>exact ⟨_,(show h.get? a=some _ from x)⟩
 | ext φ=>obtain ⟨_,⟨_,e⟩,_⟩:=x;exact ⟨_,e⟩
section
variable {X:Cx}{ai:List (Addr×Obj)}{σ:St}{H:Hp}{s:Shared}
theorem Inv.ON {m:Str->Option Value}{h':Heap}{D:Addr}{az:List Value}{c:Nat}{xs:List V}(I:Inv X ai σ H s)(F0:Fr X.base X.env.locals s.heap m)(F:Fr X.base X.env.locals h' m)
  (N:News X.base X.env.locals h' ((D,listOf az.toArray c)::fZ X.base s.heap X.env.locals)) (lt:∀ q∈fZ X.base s.heap X.env.locals,q.1 < D) (hv:Vals xs az) (hz:xs.length<=sizeLine) :
  Inv X ai σ (upd H D (.lst xs)) { s with heap:=h' }/\H D=none:=by
 obtain ⟨eD,nL,nb⟩:=N (D,listOf az.toArray c) (.head _);have WL:s.heap.get? D=none:=by
  cases q:s.heap.get? D with
  | none=>rfl
  | some o=>exact absurd (lt (D,o) (cW nL nb q)) (z6 _)
 have hD:H D=none:=by
  cases q:H D with
  | none=>rfl
  | some u=>
   obtain ⟨ob,e⟩:=(I.aR D u q).at;rw [WL] at e;cases e
 have keep:∀ b o,b≠X.env.locals->s.heap.get? b=some o->h'.get? b=some o:=λb o hb e=>by
  cases q:X.base.get? b with
  | some u=>
   have:=I.bk b u q;rw [e] at this;cases this;exact F.keep b _ q
  | none=>exact (N (b,o) (.tail _ (cW hb q e))).1
 have SY:∀ b o,s.heap.get? b=some o->b≠D:=λb o e z=>by rw [z,WL] at e;cases e
 have neT:∀ b u,H b=some u->b≠D:=λb u e z=>by rw [z,hD] at e;cases e
 refine ⟨I.step (g':=s.gens) (t':=s.toks) (d':=s.drawn) (ch:=[]) (λ_ z=>nomatch z) (λb o hb _ _ e _=>keep b o hb e) (λb o hb _ _ e _=>⟨o.slots,keep b o hb e⟩) (λb o _ e n=>by rw [xl (SY b o e)];exact n) (λb o _ e=>?_)
  (λb ys e=>by rw [xl (neT b _ e)];exact e) (λb o u e=>by rw [xl (neT b _ e)];exact e) (λb ps e=>⟨#[],by rw [xl (neT b _ e),e,Array.append_empty]⟩) (λm' hm=>?_) (λb u e=>?_) I.bare,hD⟩
 ·by_cases hb:b=X.env.locals
  ·obtain ⟨o',_,_,q,_⟩:=F.ns;exact ⟨o',by rw [hb];exact q⟩
  ·exact ⟨o,keep b o hb e⟩
 ·obtain ⟨o1,es1,ep1,e1,d1,k1,f1⟩:=hm;obtain ⟨o2,es2,ep2,e2,d2,k2,f2⟩:=F0.ns;rw [e1] at e2;cases e2;rw [d1] at d2;cases d2;obtain ⟨o3,Ye,Yg,e3,d3,k3,f3⟩:=F.ns;exact ⟨o3,Ye,Yg,e3,d3,k3,λname=>(f3 name).trans ((f2 name).symm.trans (f1 name))⟩
 ·by_cases hb:b=D
  ·subst hb;rw [xa] at e;cases e;exact ⟨hz,az,c,hv,eD⟩
  ·rw [xl hb] at e;refine (I.aR b u e).dN (λc v hc q=>keep c v (λz=>?_) q) (λc q=>by rw [xl (neT c _ q)];exact q) λc ys q=>by rw [xl (neT c _ q)];exact q
   rcases hc with rfl | hc
   ·rw [z,I.free] at e;cases e
   ·rw [z,I.free] at hc;cases hc
end
section
variable {prog:Program}{w:World}{A:Around}{E:Value->Shared->Prop}{s:Shared}
theorem u0 {az:List Value}(lC:az.length < 2):(az.toArray.zip az.toArray).map (·.2)=az.toArray:=by
 rcases az with _ | ⟨x,_ | ⟨y,r⟩⟩
 ·simp
 ·simp
 ·exact absurd lC (by simp)
theorem mR {a:Addr}{az:List Value}{k:Nat}{P:PySem.Fin->Shared->Prop}(hx:s.heap.get? a=some (seqObj "list" az.toArray k))(lC:az.length < 2)
  (done:P (.done (.ret .none)) { s with heap:=sortedHeap s.heap a az az.toArray }):wpAny (model prog w) A (Builtin.«list.sort» ⟨[.ref a],[]⟩) P E s:=by
 have here:a < s.heap.objs.size:=Heap.lt_size hx;have line:az.length<=sizeLine:=by rw [sizeLine_eq];omega
 rw [list_sort_plain];obtain ⟨e1,rS⟩:∃ e1,(s.heap.update a (Obj.mapSeq λ_=>(#[]:Array Value))).get? a=some (seqObj "list" #[] e1):=⟨_,get?_update_seq hx (λ_=>#[])⟩;refine wpAny_bind (listItems_at hx rfl (wpAny_bind (listUpdate_at hx rfl (wpAny_bind (seqEpoch_at rS rfl (wpAny_bind (wpAny_newTuple (wpAny_bind (wpAny_newList (wpAny_holding ?_) (zX _))) line))))
  (by rw [zM];exact line) (zX _))))
 have at2:(((s.heap.update a (Obj.mapSeq λ_=>(#[]:Array Value))).push (seqObj "tuple" az.toArray 0)).push (seqObj "list" #[] 0)).get? a=some (seqObj "list" #[] e1):=
  Heap.get?_push_of_some _ (Heap.get?_push_of_some _ rS)
 show wpAny (model prog w) A _ P E { s with heap:=((s.heap.update a (Obj.mapSeq λ_=>(#[]:Array Value))).push (seqObj "tuple" az.toArray 0)).push (seqObj "list" #[] 0) };have less:az.toArray.size < 2:=by rw [zM];exact lC
 have Wo:(arrOf (SortSt.mk' general' (az.toArray.zip az.toArray) #[] 7 none)).map (·.2)=az.toArray:=by
  show (az.toArray.zip az.toArray).map (·.2)=az.toArray;exact u0 lC
 dsimp only;rw [if_pos less,if_pos less];refine wpAny_bind (wpAny_pure ?_);rw [StateT.run_pure];refine wpAny_bind (wpAny_pure ?_);dsimp only;refine wpAny_bind (seqEpoch_at at2 rfl (wpAny_bind (listUpdate_at at2 rfl ?_ (zX _) (by rw [Wo,zM];omega))));simp only [bne_self_eq_false,Bool.false_eq_true,if_false];rw [Wo];exact wpAny_pure done
theorem qw {l:Addr}{az:List Value}{Q:Value->Shared->Prop}(hl:s.heap.IsList l az.toArray)(lC:az.length < 2)
  (done:Q (.ref (s.heap.objs.size + 1)) { s with heap:=sortedAll s.heap az az.toArray }):wpAny (model prog w) A (call (.builtin "sorted") [.ref l]) Q E s:=by
 have line:az.length<=sizeLine:=by rw [sizeLine_eq];omega
 refine Calls.call_function_entry kind_sorted plain_sorted entry_sorted (args_sorted1 _) ?_;unfold Builtin.«sorted»;refine wpAny_bind (m:=checkCount "sorted" 1 1 _) (wpAny_pure (wpAny_bind (collect_list hl (wpAny_bind (wpAny_newList ?_ line)) line)));have sz:((s.heap.push (seqObj "list" #[] 0)).update s.heap.objs.size (Obj.mapSeq (·++az.toArray))).objs.size=s.heap.objs.size + 1:=by rw [Heap.size_update,size_push']
 have atL:(((s.heap.push (seqObj "list" #[] 0)).update s.heap.objs.size (Obj.mapSeq (·++az.toArray))).push (seqObj "list" az.toArray 0)).get? (s.heap.objs.size + 1)=some (seqObj "list" az.toArray 0):=by
  rw [<-sz];exact Heap.get?_push_size _ rfl
 show wpAny _ _ _ _ _ { s with heap:=((s.heap.push (seqObj "list" #[] 0)).update s.heap.objs.size (Obj.mapSeq (·++az.toArray))).push (seqObj "list" az.toArray 0) };rw [sz];exact wpAny_bind (wpAny_holding (wpAny_call_entry slot_list_sort ⟨_,atL,rfl⟩ entry_list_sort (mR atL lC ⟨_,rfl,wpAny_pure ⟨_,rfl,done⟩⟩) (args_list_sort _)))
end
section
variable {X:Cx}
theorem jP:∀ {ps:List (Addr×List Int)}{us:List Value},Vals (ps.map λa=>V.ref a.1) us->us=ps.map λa=>Value.ref a.1
 | [],us,r=>by cases r;rfl
 | a::ps,us,r=>by
  cases r with
  | cons x y=>rw [jP y];cases x;rfl
def QA (h:Heap)(a:Addr)(r:List Int):Prop:=∃ o items n,h.get? a=some o/\o.cls=.type "tuple" /\ o.data=.seq items n/\Vals (r.map V.int) items.toList
theorem mJ {prog:Program}{w:World}{A:Around}{s:Shared}{b fin:Bool}{Q:Bool->Shared->Prop}:∀ {r r':List Int}{us To:List Value}{i:Nat},Vals (r.map V.int) us->Vals (r'.map V.int) To->fin=decide (us.length < To.length)->Q (lx r r') s ->
  KatLex prog w A b fin Q (us.zip To) i s
 | [],[],us,To,i,ru,OS,hf,q=>by cases ru;cases OS;exact kat_nil (by rw [hf];exact q)
 | [],_::_,us,To,i,ru,OS,hf,q=>by
  cases ru;cases OS with
  | cons _ _=>exact kat_nil (by rw [hf];simpa [lx] using q)
 | _::_,[],us,To,i,ru,OS,hf,q=>by
  cases OS;cases ru with
  | cons _ _=>exact kat_nil (by rw [hf];simpa [lx] using q)
 | x::r,y::r',us,To,i,ru,OS,hf,q=>by
  cases ru with
  | cons rx ru=>
  cases OS with
  | cons ry OS=>
  obtain ⟨t,rfl⟩:=rx;obtain ⟨t',rfl⟩:=ry;refine kat_cons (wpAny_eqBool_int ?_);unfold lx at q;by_cases e:x=y
  ·subst e;rw [if_pos rfl] at q;rw [show (x == x)=true from by simp];exact kat_yes (mJ ru OS (by rw [hf];simp) q)
  ·rw [if_neg e] at q;rw [show (x == y)=false from by simpa using e];refine kat_no ?_;cases (b && i == 0) with
   | true=>exact oneLt_int q
   | false=>exact kat_one _ _ (lt_int q)
theorem nE {h:Heap}:∀ {ps:List (Addr×List Int)},(∀ a∈ps,QA h a.1 a.2/\a.2≠[])->∃ fs,KatTups h (ps.map λa=>Value.ref a.1) fs/\fs.length=ps.length/\∀ v∈fs,∃ i t,v=Value.int i t
 | [],_=>⟨[],KatTups.nil,rfl,λ_ z=>nomatch z⟩
 | (a,r)::ps,hp=>by
  obtain ⟨fs,k,l,f⟩:=nE λa ha=>hp a (.tail _ ha);obtain ⟨⟨o,items,n,ho,hc,hd,hv⟩,hn⟩:=hp (a,r) (.head _)
  match r,hn,hv with
  | x::r,_,hv=>
   obtain ⟨u,hu,t,e⟩:=Vals.get (i:=0) hv rfl;refine ⟨u::fs,KatTups.cons ho hc hd (by rw [<-hu];simp) k,by simp [l],λv hv=>?_⟩;rcases zN.mp hv with rfl | hv
   ·exact ⟨x,t,e⟩
   ·exact f v hv
theorem pP {α:Type}(d:α)(l:List α):(List.range l.length).map (λi=>l.getD i d)=l:=by
 apply List.ext_getElem
 ·simp
 ·intro i h1 h2;simp [List.getD,h2]
theorem dm:∀ (ps:List (Addr×List Int)),Vals (ps.map λa=>V.ref a.1) (ps.map λa=>Value.ref a.1)
 | []=>.nil
 | _::ps=>.cons rfl (dm ps)
theorem ou:fj X (.builtin "sorted") (λxs H Q=>∃ p,∃ ps:List (Addr×List Int),xs=[.ref p]/\aG X.K H p (ps.map λa=>V.ref a.1)/\ps.length < 64/\(∀ a∈ps,H a.1=some (.tup (a.2.map V.int))/\a.2≠[]) /\
  ∀ l qs,H l=none->List.Perm qs ps->qs.Pairwise (λa b=>lx b.2 a.2=false)->Q (.ref l) (upd H l (.lst (qs.map λa=>V.ref a.1)))):=by
 intro ai s σ H xs us Q I r h;obtain ⟨p,ps,rfl,hq,X4,cD,q⟩:=h;obtain ⟨u,rfl,rx⟩:=vals1 r;cases rx;obtain ⟨az,r',pl,hz⟩:=I.list hq;have ei:=jP r';subst ei;have hlen:(ps.map λa=>Value.ref a.1).length=ps.length:=by simp
 by_cases h2:ps.length < 2
 ·refine qw pl.isList (by omega) ?_;have sz:((s.heap.push (seqObj "list" #[] 0)).update s.heap.objs.size (Obj.mapSeq (·++(ps.map λa=>Value.ref a.1).toArray))).objs.size=s.heap.objs.size + 1:=by rw [Heap.size_update,size_push']
  have kp:∀ b o,s.heap.get? b=some o->(sortedAll s.heap (ps.map λa=>Value.ref a.1) (ps.map λa=>Value.ref a.1).toArray).get? b=some o:=λb o e=>by
   have lb:b < s.heap.objs.size:=Heap.lt_size e;unfold sortedAll sortedHeap;rw [Heap.get?_update_ne _ _ _ _ (za (xL lb))];refine Heap.get?_push_of_some _ (Heap.get?_push_of_some _ ?_);rw [Heap.get?_update_ne _ _ _ _ (za (xL lb))];refine Heap.get?_push_of_some _ ?_;rw [Heap.get?_update_ne _ _ _ _ (za lb)];exact Heap.get?_push_of_some _ e
  obtain ⟨c,ec⟩:∃ c,(sortedAll s.heap (ps.map λa=>Value.ref a.1) (ps.map λa=>Value.ref a.1).toArray).get? (s.heap.objs.size + 1)=some (seqObj "list" (ps.map λa=>Value.ref a.1).toArray c):=by
   have e0:=Heap.get?_push_size ((s.heap.push (seqObj "list" #[] 0)).update s.heap.objs.size (Obj.mapSeq (·++(ps.map λa=>Value.ref a.1).toArray))) (o:=seqObj "list" (ps.map λa=>Value.ref a.1).toArray 0) rfl;rw [sz] at e0;unfold sortedAll sortedHeap;have e1:=get?_update_seq e0 (λ_=>(#[]:Array Value));exact ⟨_,get?_update_seq (Heap.get?_push_of_some _ (Heap.get?_push_of_some _ e1)) _⟩
  refine ⟨.ref (s.heap.objs.size + 1),_,I.laid (t':=s.toks) kp (zx _) (show bu X.prog X.w _ _ _ (.lst (ps.map λa=>V.ref a.1)) from ⟨hz,_,c,r',ec⟩),rfl,q _ ps (I.aR.fresh (zx _)) (List.Perm.refl _) ?_⟩
  match ps,h2 with
  | [],_=>exact .nil
  | [_],_=>exact List.pairwise_singleton _ _
 ·obtain ⟨m,F⟩:=I.fr;refine kat_sorted F (ni (g:=X.base) (h:=s.heap)) pl.isList (by omega) (by omega) λD e1 h' F' N' lt=>?_;have keep:∀ b o,b≠X.env.locals->s.heap.get? b=some o->h'.get? b=some o:=λb o hb e=>by
   cases q:X.base.get? b with
   | some u=>
    have:=I.bk b u q;rw [e] at this;cases this;exact F'.keep b _ q
   | none=>exact (N' (b,o) (.tail _ (cW hb q e))).1
  have rowAt:∀ a∈ps,QA h' a.1 a.2/\a.2≠[]:=λa ha=>by
   obtain ⟨ht,hn⟩:=cD a ha;obtain ⟨_,az,rv,o,e,c,n,d⟩:=I.aR a.1 _ ht;refine ⟨⟨o,_,n,keep a.1 o (λz=>?_) e,c,d,rv⟩,hn⟩;rw [z,I.free] at ht;cases ht
  obtain ⟨fs,kt,lf,hf⟩:=nE rowAt;refine kat_kind (T:=.type "int") kt (by omega) (λv hv=>?_) (by decide) ?_
  ·obtain ⟨i,t,rfl⟩:=hf v hv;exact Looks.now
  have n1:1<=(ps.map λa=>Value.ref a.1).length:=by omega
  refine gu.wp (c:=cf λi=>rk (ps.map (·.2)) ((ps.map (·.2)).getD i [])) (λi j C hi hj hC=>?_) (λpp hp=>?_) _ (LP (f:=λi=>rk (ps.map (·.2)) ((ps.map (·.2)).getD i [])) n1)
  ·have lS:i < ps.length:=by omega
   have r9:j < ps.length:=by omega
   obtain ⟨⟨o,items,n,ho,hc,hd,hv⟩,hn⟩:=rowAt ps[i] (zh lS);obtain ⟨⟨o',UK,n',rG,VR,NC,Sf⟩,hn'⟩:=rowAt ps[j] (zh r9);unfold kas_ask;have ei:(ps.map λa=>Value.ref a.1).getD i Value.none=.ref ps[i].1:=by simp [lS]
   have ej:(ps.map λa=>Value.ref a.1).getD j Value.none=.ref ps[j].1:=by simp [r9]
   rw [ei,ej];refine kat_lt ho hd rG NC (mJ hv Sf (by simp) ?_);have e:cf (λi=>rk (ps.map (·.2)) ((ps.map (·.2)).getD i [])) i j=lx ps[i].2 ps[j].2:=by
    unfold cf;have e1:(ps.map (·.2)).getD i []=ps[i].2:=by simp [lS]
    have e2:(ps.map (·.2)).getD j []=ps[j].2:=by simp [r9]
    simp only [e1,e2];exact pN (zO.mpr ⟨ps[i],zh lS,rfl⟩)
   rw [e] at hC;exact hC
  ·obtain ⟨pm,up⟩:=hp;refine KasFin.intro F' N' (UpdF.head λx hx=>za (lt x hx)) λh2' c F2 N2=>?_;have pl:pp.toList.Perm (List.range ps.length):=by
    have:=pm.toList;rw [hlen] at this;simpa using this
   have eo:(pp.toList.map λi=>(ps.map λa=>Value.ref a.1).getD i Value.none)=(pp.toList.map λi=>ps.getD i (0,[])).map λa=>Value.ref a.1:=by
    rw [zg];refine yN λi hi=>?_;have lS:i < ps.length:=zo.mp (pl.mem_iff.mp hi);simp [lS]
   have perm:(pp.toList.map λi=>ps.getD i (0,[])).Perm ps:=by
    have:=pl.map λi=>ps.getD i (0,[]);rwa [pP] at this
   rw [eo] at N2;have hzz:((pp.toList.map λi=>ps.getD i (0,[])).map λa=>V.ref a.1).length<=sizeLine:=by
    rw [zA,perm.length_eq,sizeLine_eq];omega
   obtain ⟨I2,hD⟩:=I.ON F F2 N2 lt (dm _) hzz;refine ⟨.ref D,_,I2,rfl,q D _ hD perm ?_⟩;rw [z4];intro i j hi hj rH;simp only [zA,Array.length_toList] at hi hj;simp only [yx,Array.getElem_toList];have hn:pp.size=ps.length:=by rw [pm.size];exact hlen
   have key:=up i j (yl rH) (by omega);have a1:pp[i] < ps.length:=zo.mp (pl.mem_iff.mp (by simp));have a2:pp[j] < ps.length:=zo.mp (pl.mem_iff.mp (by simp));unfold g at'  at key;simp only [hi,hj,getElem?_pos,Option.getD_some] at key;have e1:(ps.map (·.2)).getD pp[i] []=ps[pp[i]].2:=by simp [a1]
   have e2:(ps.map (·.2)).getD pp[j] []=ps[pp[j]].2:=by simp [a2]
   rw [e1,e2] at key;have e3:ps.getD pp[i] (0,[])=ps[pp[i]]:=by simp [a1]
   have e4:ps.getD pp[j] (0,[])=ps[pp[j]]:=by simp [a2]
   rw [e3,e4];have:=pN (rs:=ps.map (·.2)) (a:=ps[pp[j]].2) (b:=ps[pp[i]].2) (zO.mpr ⟨_,zh a2,rfl⟩);rw [<-this];simp only [decide_eq_false_iff_not];omega
end
end L2
namespace L2
open PySem PySem.Spec PyProof.Rows
def notStar:Expr->Bool
 | .Starred _ _=>false
 | _=>true
theorem jT {e:Expr}{es:List Expr}{env:Env}(h:notStar e=true):starEach (e::es) env=(false,eval e env)::starEach es env:=by cases e <;> first | rfl | cases h
@[irreducible] def Vw (X:Cx) (es:List Expr) (t:TA):Prop:=PA X es t
theorem xb {X:Cx}{es:List Expr}{t:TA}(h:Vw X es t):PA X es t:=by unfold Vw at h;exact h
theorem SW {X:Cx}{es:List Expr}{t:TA}(h:PA X es t):Vw X es t:=by unfold Vw;exact h
theorem xo {X:Cx}:Vw X [] sO:=SW wu
theorem xc {X:Cx}{e:Expr}{es:List Expr}{te:TE}{t:TA}(ha:PE X e te)(hr:Vw X es t)(hn:notStar e=true):Vw X (e::es) (mO te t):=SW (RL ha (xb hr) (jT hn))
@[irreducible] def uB (X:Cx) (es:List Stmt) (t:TS):Prop:=qk X es t
theorem xf {X:Cx}{es:List Stmt}{t:TS}(h:uB X es t):qk X es t:=by unfold uB at h;exact h
theorem Qu {X:Cx}{es:List Stmt}{t:TS}(h:qk X es t):uB X es t:=by unfold uB;exact h
theorem xy {X:Cx}{a:Stmt}{t:TS}(h:PS X a t):uB X [a] t:=Qu (RB h)
theorem xr {X:Cx}{a b:Stmt}{rest:List Stmt}{t u:TS}(h:PS X a t)(hr:uB X (b::rest) u):uB X (a::b::rest) (sM t u):=Qu (OW h (xf hr))
section
variable {K:PySem.W.Frag}{a:Addr}{xs:List V}{n:Nat}{caps:List Nat}{g:TG}{tc:TT}{te:TE}{σ:St}{H:Hp}{Qf:Addr->Hp->List V->Prop}
theorem rO {J:It}(Pv:Nat->St->List V->Hp->Prop)(len:Nat)(h0:Pv 0 (lM n caps σ) [] H)(hn:len<=1000)(hl:∀ i τ acc H,Pv i τ acc H->acc.length<=i)
  (hgo:∀ i τ acc H,i < len->Pv i τ acc H->J.go i H) (Xq:∀ τ acc H,Pv len τ acc H->J.stop len H)
  (hs:∀ i τ acc H (C:St->List V->Hp->Prop),i < len->Pv i τ acc H->(∀ τ acc H,Pv (i + 1) τ acc H->C τ acc H)->∀ x H',J.LL i H x H'->g x τ H' fun eU H2=>tc eU H2 λb H3=>if b=true then te eU H3 λy H4=>C eU (acc++[y]) H4 else C eU acc H3)
  (hd:∀ τ acc H,Pv len τ acc H->∀ p,H p=none->Qf p H acc) :
  ∃ W:Nat->Nat->St->List V->Hp->Prop,(∃ m,W 0 m (lM n caps σ) [] H)/\∀ i m τ acc H,W i m τ acc H ->
   (J.stop i H/\acc.length<=sizeLine/\∀ p,H p=none->Qf p H acc) \/
   (J.go i H/\acc.length < sizeLine/\∀ x H',J.LL i H x H'->g x τ H' fun eU H2=>tc eU H2 λb H3=>if b=true then te eU H3 λy H4=>∃ m',m' < m/\W (i + 1) m' eU (acc++[y]) H4 else ∃ m',m' < m/\W (i + 1) m' eU acc H3):=by
 have line:1001<=sizeLine:=by rw [sizeLine_eq];decide
 refine ⟨λi m τ acc H=>m=len - i/\i<=len/\Pv i τ acc H,⟨len,by simp,zX _,h0⟩,?_⟩;rintro i m τ acc H ⟨rfl,hi,p⟩;have q:=hl i τ acc H p;by_cases dU:i < len
 ·exact .inr ⟨hgo i τ acc H dU p,by omega,λx H' y=>hs i τ acc H (fun τ acc H=>∃ m',m' < len - i/\m'=len - (i + 1)/\i + 1<=len/\Pv (i + 1) τ acc H) dU p (fun τ acc H p'=>⟨len - (i + 1),by omega,rfl,dU,p'⟩) x H' y⟩
 ·have e:i=len:=by omega
  subst e;exact .inl ⟨Xq τ acc H p,by omega,hd τ acc H p⟩
theorem jv (Pv:Nat->St->List V->Hp->Prop)(h0:Pv 0 (lM n caps σ) [] H)(hn:xs.length<=1000)(hl:∀ i τ acc H,Pv i τ acc H->acc.length<=i/\bT K H a xs)
  (hs:∀ i x τ acc H (C:St->List V->Hp->Prop),xs[i]?=some x->Pv i τ acc H->(∀ τ acc H,Pv (i + 1) τ acc H->C τ acc H)->g x τ H fun eU H2=>tc eU H2 λb H3=>if b=true then te eU H3 λy H4=>C eU (acc++[y]) H4 else C eU acc H3)
  (hd:∀ τ acc H,Pv xs.length τ acc H->∀ p,H p=none->Qf p H acc) :
  ∃ W:Nat->Nat->St->List V->Hp->Prop,(∃ m,W 0 m (lM n caps σ) [] H)/\∀ i m τ acc H,W i m τ acc H ->
   ((SI K a).stop i H/\acc.length<=sizeLine/\∀ p,H p=none->Qf p H acc) \/
   ((SI K a).go i H/\acc.length < sizeLine/\∀ x H',(SI K a).LL i H x H'->g x τ H' fun eU H2=>tc eU H2 λb H3=>if b=true then te eU H3 λy H4=>∃ m',m' < m/\W (i + 1) m' eU (acc++[y]) H4 else ∃ m',m' < m/\W (i + 1) m' eU acc H3):=
 rO (J:=SI K a) Pv xs.length h0 hn (λi τ acc H p=>(hl i τ acc H p).1) (λi τ acc H hi p=>⟨xs,xs[i],(hl i τ acc H p).2,by simp [hi]⟩) (fun τ acc H p=>⟨xs,(hl _ τ acc H p).2,zE _⟩)
  (λi τ acc H C hi p c x H' y=>by obtain ⟨e,y⟩:=y;subst e;exact hs i x τ acc _ C (y xs (hl i τ acc _ p).2) p c) hd
theorem qK (Pv:Nat->St->List V->Hp->Prop)(h0:Pv 0 (lM n caps σ) [] H)(hn:xs.length<=1000)(hl:∀ i τ acc H,Pv i τ acc H->acc.length<=i/\aG K H a xs)
  (hs:∀ i x τ acc H (C:St->List V->Hp->Prop),xs[i]?=some x->Pv i τ acc H->(∀ τ acc H,Pv (i + 1) τ acc H->C τ acc H)->g x τ H fun eU H2=>tc eU H2 λb H3=>if b=true then te eU H3 λy H4=>C eU (acc++[y]) H4 else C eU acc H3)
  (hd:∀ τ acc H,Pv xs.length τ acc H->∀ p,H p=none->Qf p H acc) :
  ∃ W:Nat->Nat->St->List V->Hp->Prop,(∃ m,W 0 m (lM n caps σ) [] H)/\∀ i m τ acc H,W i m τ acc H ->
   ((SJ K a).stop i H/\acc.length<=sizeLine/\∀ p,H p=none->Qf p H acc) \/
   ((SJ K a).go i H/\acc.length < sizeLine/\∀ x H',(SJ K a).LL i H x H'->g x τ H' fun eU H2=>tc eU H2 λb H3=>if b=true then te eU H3 λy H4=>∃ m',m' < m/\W (i + 1) m' eU (acc++[y]) H4 else ∃ m',m' < m/\W (i + 1) m' eU acc H3):=
 rO (J:=SJ K a) Pv xs.length h0 hn (λi τ acc H p=>(hl i τ acc H p).1) (λi τ acc H hi p=>⟨xs,xs[i],(hl i τ acc H p).2,by simp [hi]⟩) (fun τ acc H p=>⟨xs,(hl _ τ acc H p).2,zE _⟩)
  (λi τ acc H C hi p c x H' y=>by obtain ⟨e,y⟩:=y;subst e;exact hs i x τ acc _ C (y xs (hl i τ acc _ p).2) p c) hd
theorem NH {tb:TS}{D:Ends}(Pv:Nat->St->Hp->Prop)(h0:Pv 0 σ H)(hl:∀ i σ H,i<=xs.length->Pv i σ H->bT K H a xs)
  (hs:∀ i x q σ H,xs[i]?=some x->H q=none->Pv i σ H->g (.ref q) σ (upd H q (.tup [.int i,x])) fun lJ H2=>tb (D.lp (Pv (i + 1))) lJ H2) (hd:∀ σ H,Pv xs.length σ H->D.nx σ H) :
  ∃ W:Nat->Nat->St->Hp->Prop,(∃ m,W 0 m σ H)/\∀ i m σ H,W i m σ H ->
   ((QD K a).stop i H/\D.nx σ H)\/((QD K a).go i H/\∃ N:St->Hp->Prop,(∀ bU H',N bU H'->∃ m',m' < m/\W (i + 1) m' bU H')/\∀ x H',(QD K a).LL i H x H'->g x σ H' fun lJ H2=>tb (D.lp N) lJ H2):=by
 refine ⟨λi m σ H=>m=xs.length - i/\i<=xs.length/\Pv i σ H,⟨xs.length,by simp,zX _,h0⟩,?_⟩;rintro i m σ H ⟨rfl,hi,p⟩;have q:=hl i σ H hi p;by_cases dU:i < xs.length
 ·refine .inr ⟨⟨xs,xs[i],q,by simp [dU]⟩,Pv (i + 1),fun bU H' p'=>⟨xs.length - (i + 1),by omega,rfl,dU,p'⟩,λx H' y=>?_⟩;obtain ⟨q',x',hq,e1,e2,y⟩:=y;subst e1;subst e2;exact hs i x' q' σ _ (y xs q) hq p
 ·have e:i=xs.length:=by omega
  subst e;exact .inl ⟨⟨xs,q,zE _⟩,hd σ H p⟩
theorem fN {tb:TS}{D:Ends}(Pv:Nat->St->Hp->Prop)(h0:Pv 0 σ H)(hl:∀ i σ H,i<=xs.length->Pv i σ H->aG K H a xs)
  (hs:∀ i x q σ H,xs[i]?=some x->H q=none->Pv i σ H->g (.ref q) σ (upd H q (.tup [.int i,x])) fun lJ H2=>tb (D.lp (Pv (i + 1))) lJ H2) (hd:∀ σ H,Pv xs.length σ H->D.nx σ H) :
  ∃ W:Nat->Nat->St->Hp->Prop,(∃ m,W 0 m σ H)/\∀ i m σ H,W i m σ H ->
   ((QE K a).stop i H/\D.nx σ H)\/((QE K a).go i H/\∃ N:St->Hp->Prop,(∀ bU H',N bU H'->∃ m',m' < m/\W (i + 1) m' bU H')/\∀ x H',(QE K a).LL i H x H'->g x σ H' fun lJ H2=>tb (D.lp N) lJ H2):=by
 refine ⟨λi m σ H=>m=xs.length - i/\i<=xs.length/\Pv i σ H,⟨xs.length,by simp,zX _,h0⟩,?_⟩;rintro i m σ H ⟨rfl,hi,p⟩;have q:=hl i σ H hi p;by_cases dU:i < xs.length
 ·refine .inr ⟨⟨xs,xs[i],q,by simp [dU]⟩,Pv (i + 1),fun bU H' p'=>⟨xs.length - (i + 1),by omega,rfl,dU,p'⟩,λx H' y=>?_⟩;obtain ⟨q',x',hq,e1,e2,y⟩:=y;subst e1;subst e2;exact hs i x' q' σ _ (y xs q) hq p
 ·have e:i=xs.length:=by omega
  subst e;exact .inl ⟨⟨xs,q,zE _⟩,hd σ H p⟩
end
end L2
namespace Sm
open PySem L2 aQ
def bN (p:Addr)(H H':Hp):Prop:=∀ b u,b≠p->H b=some u->H' b=some u
theorem bN.refl (p:Addr)(H:Hp):bN p H H:=λ_ _ _ h=>h
theorem bN.trans {p:Addr}{H H1 H2:Hp}(a:bN p H H1)(b:bN p H1 H2):bN p H H2:=λc u n h=>b c u n (a c u n h)
theorem bN.set {p:Addr}{H:Hp}{o:HO}:bN p H (upd H p o):=λb u n h=>by rw [xl n];exact h
theorem bN.new {p l:Addr}{H:Hp}{o:HO}(h:H l=none):bN p H (upd H l o):=λb u n e=>by rw [xl (xg e h)];exact e
def bX (H:Hp)(p:Addr):Prop:=∃ a b c:Int,H p=some (.lst [.int a,.int b,.int c])
def Go (p:Addr)(H H':Hp):Prop:=bN p H H'/\bX H' p
theorem Go.trans {p:Addr}{H H1 H2:Hp}(a:Go p H H1)(b:Go p H1 H2):Go p H H2:=⟨a.1.trans b.1,b.2⟩
theorem Go.refl {p:Addr}{H:Hp}(a:bX H p):Go p H H:=⟨bN.refl p H,a⟩
theorem bX.new {p l:Addr}{H:Hp}{o:HO}(a:bX H p)(h:H l=none):bX (upd H l o) p:=by obtain ⟨x,y,z,e⟩:=a;exact ⟨x,y,z,by rw [xl (xg e h)];exact e⟩
theorem bX.ne {p l:Addr}{H:Hp}(a:bX H p)(h:H l=none):l≠p:=by obtain ⟨x,y,z,e⟩:=a;exact (xg e h).symm
theorem Go.new {p l:Addr}{H H1:Hp}{o:HO}(a:Go p H H1)(h:H1 l=none):Go p H (upd H1 l o):=⟨a.1.trans (bN.new h),a.2.new h⟩
theorem bX.tup {p t:Addr}{H:Hp}{xs:List V}(a:bX H p)(h:H t=some (.tup xs)):t≠p:=by obtain ⟨x,y,z,e⟩:=a;exact wU h e (by intro z;cases z)
def bM (H H':Hp):Prop:=∀ b xs,H b=some (.tup xs)->H' b=some (.tup xs)
theorem bM.trans {H H1 H2:Hp}(a:bM H H1)(b:bM H1 H2):bM H H2:=λc u h=>b c u (a c u h)
theorem Go.aT {p:Addr}{H H':Hp}(a:Go p H H')(h:bX H p):bM H H':=λb xs e=>a.1 b _ (h.tup e) e
theorem bM.new {l:Addr}{H:Hp}{o:HO}(h:H l=none):bM H (upd H l o):=λb u e=>by rw [xl (xg e h)];exact e
theorem bM.set {l:Addr}{H:Hp}{xs:List V}{o:HO}(h:H l=some (.lst xs)):bM H (upd H l o):=λb u e=>by rw [xl (wU e h (by intro z;cases z))];exact e
theorem bM.same {H H':Hp}(h:ay H H'):bM H H':=λb u e=>h b _ e
structure M4 where
 lo:Int
 hi:Int
 t:Int
 m:Int
def M4.vs (r:M4):List V:=[.int r.lo,.int r.hi,.int r.t,.int r.m]
def apart (a b:M4):Prop:=a.lo≠b.lo/\a.lo≠b.hi/\a.hi≠b.lo/\a.hi≠b.hi
structure Good (w:Int) (ms:List M4):Prop where
 lC:ms.length<=60
 each:∀ r∈ms,0<=r.lo/\r.lo < r.hi/\r.hi < w/\1<=r.t/\r.t<=1000000000/\1<=r.m/\r.m<=99
 order:ms.Pairwise λa b=>a.t < b.t\/(a.t=b.t/\a.lo < b.lo/\apart a b)
def gc (H:Hp)(ps:List (Addr×M4)):Prop:=∀ a∈ps,H a.1=some (.tup a.2.vs)
structure aM (H:Hp) (b:Addr) (ah:List Int) (tr tm:Addr) (ps:List (Addr×M4)):Prop where
 book:H b=some (.tup [.ref tr,.ref tm])
 ah:H tr=some (.tup (ah.map V.int))
 meets:H tm=some (.tup (ps.map λa=>V.ref a.1))
 rows:gc H ps
theorem gc.aT {H H':Hp}{ps:List (Addr×M4)}(a:gc H ps)(t:bM H H'):gc H' ps:=λx hx=>t _ _ (a x hx)
theorem aM.aT {H H':Hp}{b tr tm:Addr}{ah:List Int}{ps:List (Addr×M4)}(a:aM H b ah tr tm ps)(t:bM H H'):aM H' b ah tr tm ps:=
 ⟨t _ _ a.book,t _ _ a.ah,t _ _ a.meets,a.rows.aT t⟩
def Rp (K:PySem.W.Frag):Sp:=λvs H Q _=>∃ (a:Addr) (ns:List Int) (k:Nat),vs=[.ref a,.int k]/\aG K H a (ns.map V.int)/\k < 1000/\∀ p H',H p=none->bX H' p->ay H H'->Q (.ref p) H'
def TU:Sp:=λvs H Q _=>∃ p n,vs=[.ref p,.int n]/\0 < n/\n < 2 ^ 200/\bX H p/\∀ d H',0<=d->d < n->Go p H H'->Q (.int d) H'
def Wm:Sp:=λvs H Q _=>∃ p,vs=[.ref p]/\bX H p/\∀ d H',0<=d->d<=1000000000->Go p H H'->Q (.int d) H'
def Ro:Sp:=λvs H Q _=>∃ p,∃ n:Nat,vs=[.ref p,.int n]/\n<=1000/\bX H p/\∀ (t:Addr) (ah:List Int) (H':Hp),Go p H H'->H' t=some (.tup (ah.map V.int))->ah.length=n->(∀ r∈ah,(0:Int)<=r/\r<=99)->Q (.ref t) H'
def TV:Sp:=λvs H Q _=>∃ p,vs=[.ref p]/\bX H p/\∀ d H',0<=d->d<=16000000->Go p H H'->Q (.int d) H'
def uT:Sp:=λvs H Q _=>∃ p,∃ w:Int,∃ n:Nat,vs=[.ref p,.int w,.int n]/\n<=60/\w < 1000/\(n=0\/2<=w)/\bX H p /\
 ∀ (t:Addr) (ps:List (Addr×M4)) (H':Hp),Go p H H'->H' t=some (.tup (ps.map λa=>V.ref a.1))->gc H' ps->Good w (ps.map (·.2))->ps.length=n->Q (.ref t) H'
def T4:Sp:=λvs H Q _=>∃ p,∃ a:Int,∃ n:Nat,vs=[.ref p,.int a,.int n]/\1<=a/\a<=100/\n<=60/\bX H p /\
 ∀ (b:Addr) (ah:List Int) (tr tm:Addr) (ps:List (Addr×M4)) (H':Hp),Go p H H'->aM H' b ah tr tm ps->1<=ah.length->(ah.length:Int)<=a->(∀ r∈ah,(0:Int)<=r/\r<=99)->Good ah.length (ps.map (·.2))->ps.length<=n->Q (.ref b) H'
theorem gg {c A B:Prop}[Decidable c](h1:c->A)(h2:¬ c->B):if decide c=true then A else B:=by
 by_cases h:c
 ·rw [if_pos (decide_eq_true h)];exact h1 h
 ·rw [if_neg (by simpa using h)];exact h2 h
theorem aF {c:Bool}{A B:Prop}(hc:c=false)(h:B):if c=true then A else B:=by rw [if_neg (by rw [hc];exact zK)];exact h
theorem bH {c:Bool}{A B:Prop}(hc:c=true)(h:A):if c=true then A else B:=by rw [if_pos hc];exact h
theorem lO {c:Bool}{A B:Prop}(h1:c=true->A)(h2:c=false->B):if c=true then A else B:=by
 cases c with
 | true=>exact h1 rfl
 | false=>exact h2 rfl
theorem UL {c A B:Prop}[Decidable c](hc:c)(h:B):if (!decide c)=true then A else B:=Xd hc h
theorem xi {H:Hp}{p:Addr}{o:HO}(h:H p=none):ay H (upd H p o):=λb u e=>by
 rw [xl (xg e h)];exact e
def M4.row (r:M4):List Int:=[r.t,r.lo,r.hi,r.m]
structure Vy (w SK:Int) (bs:List Int) (fs:List (Addr×M4)):Prop where
 each:∀ a∈fs,0<=a.2.lo/\a.2.lo < a.2.hi/\a.2.hi < w/\1<=a.2.t/\a.2.t<=SK/\1<=a.2.m/\a.2.m<=99
 pw:fs.Pairwise λa b=>a.2.t=b.2.t->apart a.2 b.2
 bz:∀ a∈fs,a.2.t=SK->a.2.lo∈bs/\a.2.hi∈bs
theorem Vy.step {w wh gap one other m:Int}{bs bs':List Int}{fs:List (Addr×M4)}{a:Addr}(F:Vy w wh bs fs)(h1:1<=wh)(g0:0<=gap)(o0:0<=one)(o1:one < w)(p0:0<=other)(p1:other < w)(ne:one≠other)
  (m0:1<=m) (m1:m<=99) (hg:gap=0->one ∉ bs/\other ∉ bs) (hb:∀ x∈bs,gap=0->x∈bs') (sd:one∈bs') (mw:other∈bs') :
  Vy w (wh + gap) bs' (fs++[(a,⟨if other < one then other else one,if other > one then other else one,wh + gap,m⟩)]):=by
 refine ⟨λb hb=>?_,?_,λb hm e=>?_⟩
 ·rcases zT.mp hb with h | h
  ·obtain ⟨a1,a2,a3,a4,a5,a6,a7⟩:=F.each b h;exact ⟨a1,a2,a3,a4,by omega,a6,a7⟩
  ·cases zJ.mp h;by_cases c:other < one
   ·rw [if_pos c,if_neg (by omega)];exact ⟨p0,c,o1,by show 1<=wh + gap;omega,ze _,m0,m1⟩
   ·rw [if_neg c,if_pos (by omega)];exact ⟨o0,by show one < other;omega,p1,by show 1<=wh + gap;omega,ze _,m0,m1⟩
 ·rw [List.pairwise_append];refine ⟨F.pw,List.pairwise_singleton _ _,λb hb c hc e=>?_⟩;cases zJ.mp hc;have e':b.2.t=wh + gap:=e;obtain ⟨a1,a2,a3,a4,a5,a6,a7⟩:=F.each b hb;have g:gap=0:=by omega
  obtain ⟨x1,x2⟩:=F.bz b hb (by omega);obtain ⟨n1,n2⟩:=hg g;have q1:b.2.lo≠one:=λz=>n1 (z ▸ x1);have q2:b.2.lo≠other:=λz=>n2 (z ▸ x1);have q3:b.2.hi≠one:=λz=>n1 (z ▸ x2);have q4:b.2.hi≠other:=λz=>n2 (z ▸ x2);unfold apart;dsimp only;by_cases c:other < one
  ·rw [if_pos c,if_neg (by omega)];exact ⟨q2,q1,q4,q3⟩
  ·rw [if_neg c,if_pos (by omega)];exact ⟨q1,q2,q3,q4⟩
 ·rcases zT.mp hm with h | h
  ·obtain ⟨a1,a2,a3,a4,a5,a6,a7⟩:=F.each b h;obtain ⟨x1,x2⟩:=F.bz b h (by omega);exact ⟨hb _ x1 (by omega),hb _ x2 (by omega)⟩
  ·cases zJ.mp h;by_cases c:other < one
   ·rw [if_pos c,if_neg (by omega)];exact ⟨mw,sd⟩
   ·rw [if_neg c,if_pos (by omega)];exact ⟨sd,mw⟩
def M4.jk (l:Int)(r:M4):M4:=⟨r.lo,r.hi,r.t + l,r.m⟩
theorem Vy.good {w wh l:Int}{bs:List Int}{fs qs:List (Addr×M4)}(F:Vy w wh bs fs)(n:fs.length<=60)(l0:0<=l)(l1:fs≠[]->wh + l<=1000000000)(p:qs.Perm fs)(s:qs.Pairwise λa b=>lx b.2.row a.2.row=false) :
  Good w (qs.map λa=>a.2.jk l):=by
 refine ⟨by rw [zA,p.length_eq];exact n,λr hr=>?_,?_⟩
 ·obtain ⟨a,ha,rfl⟩:=zO.mp hr;have hm:=p.mem_iff.mp ha;obtain ⟨a1,a2,a3,a4,a5,a6,a7⟩:=F.each a hm;have:=l1 (List.ne_nil_of_mem hm);unfold M4.jk;exact ⟨a1,a2,a3,by show 1<=a.2.t + l;omega,by show a.2.t + l<=1000000000;omega,a6,a7⟩
 ·rw [List.pairwise_map];have ap:qs.Pairwise λa b=>a.2.t=b.2.t->apart a.2 b.2:=(List.Perm.pairwise_iff (λ{x y} h e=>by
   obtain ⟨a1,a2,a3,a4⟩:=h e.symm;exact ⟨a1.symm,a3.symm,a2.symm,a4.symm⟩) p).mpr F.pw
  refine (s.and ap).imp λ{a b} ⟨h1,h2⟩=>?_;unfold M4.jk;dsimp only;unfold M4.row lx at h1;by_cases e:a.2.t=b.2.t
  ·have q:=h2 e;rw [if_pos e.symm] at h1;unfold lx at h1;rw [if_neg λz=>q.1 z.symm] at h1;simp only [decide_eq_false_iff_not] at h1;refine .inr ⟨by omega,?_,q⟩;have:=q.1;omega
  ·rw [if_neg λz=>e z.symm] at h1;simp only [decide_eq_false_iff_not] at h1;exact .inl (by omega)
def Tv (r:List Int):M4:=⟨r.getD 1 0,r.getD 2 0,r.getD 0 0,r.getD 3 0⟩
theorem M1 {fs:List (Addr×M4)}{qs:List (Addr×List Int)}(p:qs.Perm (fs.map λa=>(a.1,a.2.row)))(s:qs.Pairwise λa b=>lx b.2 a.2=false) :
  ∃ rs:List (Addr×M4),rs.Perm fs/\(rs.Pairwise λa b=>lx b.2.row a.2.row=false)/\qs=rs.map λa=>(a.1,a.2.row):=by
 have e:qs=(qs.map λa=>(a.1,Tv a.2)).map λa=>(a.1,a.2.row):=by
  rw [zg];refine (List.map_id qs).symm.trans (yN λx hx=>?_);obtain ⟨a,_,rfl⟩:=zO.mp (p.mem_iff.mp hx);rfl
 refine ⟨qs.map λa=>(a.1,Tv a.2),?_,?_,e⟩
 ·have:=p.map λa=>(a.1,Tv a.2);rw [zg] at this;refine this.trans (.of_eq ?_);refine (yN λx _=>?_).trans (List.map_id fs);rfl
 ·rw [e,List.pairwise_map] at s;exact s
theorem qb (bs:List Int):(bs.map V.int).all cH=true:=by rw [yy];intro x hx;obtain ⟨b,_,rfl⟩:=zO.mp hx;rfl
theorem tV {x:Int}{bs:List Int}:vC (.int x) (bs.map V.int)=decide (x∈bs):=by
 unfold vC;induction bs with
 | nil=>rfl
 | cons b bs ih=>
  rw [zZ,xJ,ih];by_cases h:x=b
  ·subst h;simp [rL]
  ·have h':¬ b=x:=λz=>h z.symm;simp [rL,h,h']
def Zx (p lf:Addr)(w:Int)(n:Nat)(H:Hp)(i:Nat)(σ:St)(H3:Hp):Prop:=
 ∃ v6 v7 v8 v9 v10 wh lb bs,∃ fs:List (Addr×M4),σ=[some (.ref p),some (.int w),some (.int n),some (.ref lf),some (.int wh),some (.ref lb),v6,v7,v8,v9,v10,none] /\
  H3 lf=some (.lst (fs.map λa=>V.ref a.1))/\H3 lb=some (.lst (List.map V.int bs))/\lb≠lf/\lb≠p/\(∀ a∈fs,H3 a.1=some (.tup (a.2.row.map V.int)))/\Vy w wh bs fs/\fs.length=i/\bs.length<=2 * i/\1<=wh/\wh<=10000000 + 16000000 * i/\Go p H H3
theorem Zx.step {p lf lb t:Addr}{w wh gap one other m:Int}{n i:Nat}{H Hx:Hp}{bs bs':List Int}{fs:List (Addr×M4)}{v6 v7 v8 v9 v10:Option V}(QJ:lf≠p)(Mi:H lf=none)
  (F:Vy w wh bs fs) (PK:fs.length=i) (Uz:bs'.length<=2 * i + 2) (YJ:1<=wh) (wh2:wh<=10000000 + 16000000 * i) (hf:Hx lf=some (.lst (fs.map λa=>V.ref a.1))) (hb:Hx lb=some (.lst (List.map V.int bs'))) (nb:lb≠lf) (WS:lb≠p)
  (rows:∀ a∈fs,Hx a.1=some (.tup (a.2.row.map V.int))) (go:Go p H Hx) (ht:Hx t=none)
  (g0:0<=gap) (g1:gap<=16000000) (o0:0<=one) (o1:one < w) (p0:0<=other) (p1:other < w) (ne:one≠other) (m0:1<=m) (m1:m<=99) (hg:gap=0->one ∉ bs/\other ∉ bs) (QS:∀ x∈bs,gap=0->x∈bs') (sd:one∈bs') (mw:other∈bs') :
  Zx p lf w n H (i + 1) [some (.ref p),some (.int w),some (.int n),some (.ref lf),some (.int (wh + gap)),some (.ref lb),v6,v7,v8,v9,v10,none]
   (upd (upd Hx t (.tup [.int (wh + gap),.int (if other < one then other else one),.int (if other > one then other else one),.int m])) lf (.lst ((fs.map λa=>V.ref a.1)++[.ref t]))):=by
 have ntf:t≠lf:=(xg hf ht).symm;refine ⟨v6,v7,v8,v9,v10,wh + gap,lb,bs',fs++[(t,⟨if other < one then other else one,if other > one then other else one,wh + gap,m⟩)],rfl,by rw [xa,zD];rfl,?_,nb,WS,λa ha=>?_,F.step YJ g0 o0 o1 p0 p1 ne m0 m1 hg QS sd mw,by rw [zL,PK];rfl,by omega,by omega,by omega,λb u nb e=>?_,?_⟩
 ·rw [xl nb,xl (xg hb ht)];exact hb
 ·rcases zT.mp ha with h | h
  ·have:=rows a h;rw [xl (wU this hf (by intro z;cases z)),xl (xg this ht)];exact this
  ·cases zJ.mp h;rw [xl ntf,xa];rfl
 ·rw [xl (xg e Mi),xl (xg (go.1 b u nb e) ht)];exact go.1 b u nb e
 ·have:=go.2.new (o:=.tup [.int (wh + gap),.int (if other < one then other else one),.int (if other > one then other else one),.int m]) ht;obtain ⟨x,y,z,e⟩:=this;exact ⟨x,y,z,by rw [xl QJ.symm];exact e⟩
theorem Ug {one x w:Int}(o0:0<=one)(o1:one < w)(x0:0<=x)(x1:x < w - 1):0<=(one + 1 + x) % w/\(one + 1 + x) % w < w/\one≠(one + 1 + x) % w:=by
 refine ⟨xW _ (by omega),xC _ (by omega),?_⟩;by_cases h:one + 1 + x < w
 ·rw [Int.emod_eq_of_lt (by omega) h];omega
 ·have e:(one + 1 + x) % w=(one + 1 + x - w) % w:=by
   have:one + 1 + x=(one + 1 + x - w) + w:=by omega
   rw [this,Int.add_emod_right];congr 1;omega
  rw [e,Int.emod_eq_of_lt (by omega) (by omega)];omega
theorem Go.same {p:Addr}{H H1 H2:Hp}(a:Go p H H1)(s:ay H1 H2):Go p H H2:=⟨λb u n e=>s b u (a.1 b u n e),by obtain ⟨x,y,z,e⟩:=a.2;exact ⟨x,y,z,s _ _ e⟩⟩
theorem wQ {α:Type}{f:α->V}{l:List α}{i:Nat}{x:V}(h:(l.map f)[i]?=some x):∃ r,l[i]?=some r/\x=f r:=by
 rw [zF] at h;cases e:l[i]? with
 | none=>rw [e] at h;cases h
 | some r=>rw [e] at h;exact ⟨r,rfl,(Option.some.inj h).symm⟩
theorem wK {α:Type}{l:List α}{i:Nat}{r:α}(h:l[i]?=some r):l.take (i + 1)=l.take i++[r]:=by rw [List.take_add_one,h];rfl
theorem bN.same {p:Addr}{H H1 H2:Hp}(hp:H p=none)(s:ay H H1)(g:bN p H1 H2):ay H H2:=λb u e=>g b u (xg e hp) (s b u e)
theorem ay.put {l:Addr}{H H':Hp}{o:HO}(h:H l=none)(s:ay H H'):ay H (upd H' l o):=λb u e=>by rw [xl (xg e h)];exact s b u e
theorem aM.same {H H':Hp}{b tr tm:Addr}{ah:List Int}{ps:List (Addr×M4)}(a:aM H b ah tr tm ps)(t:ay H H'):aM H' b ah tr tm ps:=a.aT (bM.same t)
theorem Ss {xs:List V}(h:xs.length=4):∃ a b c d,xs=[a,b,c,d]:=by rcases xs with _ | ⟨a,_ | ⟨b,_ | ⟨c,_ | ⟨d,_ | ⟨e,xs⟩⟩⟩⟩⟩ <;> first | exact ⟨_,_,_,_,rfl⟩ | (simp only [zR,yT] at h;omega)
def Rl:Sp:=λvs H Q _=>∃ x t,vs=[x]/\qq H x=some t/\Q (.bl (t == "int")) H
def oX (lo hi:Int):V->Bool
 | .int i=>decide (lo<=i) && decide (i<=hi)
 | _=>false
def Ox:Sp:=λvs H Q _=>∃ x t lo hi,vs=[x,.int lo,.int hi]/\qq H x=some t/\Q (.bl (oX lo hi x)) H
def TR:Sp:=λvs H Q _=>∃ x t,vs=[x]/\qq H x=some t/\Q (.bl (oX 0 1000000000 x)) H
theorem Q8 {H:Hp}{x:V}(h:qq H x=some "int"):∃ i,x=.int i:=by
 cases x with
 | int i=>exact ⟨i,rfl⟩
 | ref a=>
  unfold qq at h;dsimp only at h;split at h <;> simp at h
 | _=>simp [qq] at h
theorem UM {H:Hp}{x:V}{t:String}{lo hi:Int}(h:qq H x=some t)(n:¬ t = "int"):oX lo hi x=false:=by
 cases x with
 | int i=>simp [qq] at h;exact absurd h.symm n
 | _=>rfl
def acr (w:Int)(r:M4):Bool:=decide (r.lo=w) || decide (r.hi=w)
def numsTo (ms:List M4)(w:Int):Nat->List Int
 | 0=>[]
 | i + 1=>numsTo ms w i++(if (ms[i]?).any (acr w)=true then [(i:Int)] else [])
theorem Sb {w a b:Int}:vC (.int w) [.int a,.int b]=(decide (a=w) || decide (b=w)):=by simp only [vC,rL,xJ,List.any_nil,Bool.or_false];rfl
def cnt (ms:List M4)(t:Int):Nat:=(ms.filter λr=>decide (r.t<=t)).length
theorem uo {ms:List M4}{t:Int}{i:Nat}{r:M4}(h:ms[i]?=some r):cnt (ms.take (i + 1)) t=cnt (ms.take i) t + (if r.t<=t then 1 else 0):=by unfold cnt;rw [wK h,List.filter_append,zL];congr 1;by_cases c:r.t<=t <;> simp [c]
def OJ:Sp:=λvs H Q _=>∃ b t ah tr tm ps,vs=[.ref b,.int t]/\aM H b ah tr tm ps/\ps.length<=1000/\∀ H',ay H H'->Q (.int (cnt (ps.map (·.2)) t)) H'
def OA:Sp:=λvs H Q _=>∃ p b j ah tr tm ps,vs=[.ref p,.ref b,.int j]/\(j=0\/j=1)/\aM H b ah tr tm ps/\Good ah.length (ps.map (·.2))/\bX H p/\∀ d H',0<=d->d<=1000000000->Go p H H'->Q (.int d) H'
theorem Good.len {w:Int}{ps:List (Addr×M4)}(g:Good w (ps.map (·.2))):ps.length<=60:=by simpa using g.lC
theorem Good.at {w:Int}{ps:List (Addr×M4)}(g:Good w (ps.map (·.2))){r:Addr×M4}(h:r∈ps):0<=r.2.lo/\r.2.lo < r.2.hi/\r.2.hi < w/\1<=r.2.t/\r.2.t<=1000000000/\1<=r.2.m/\r.2.m<=99:=g.each _ (zO.mpr ⟨r,h,rfl⟩)
end Sm
namespace L2
open PySem PySem.Spec PyProof.Rows
end L2
namespace Yx
open PySem
def runs (m:Nat):Nat->Nat->Nat->Nat×Nat
 | 0,i,u=>(i,u)
 | r + 1,i,u=>runs m r ((i * 5 + 1 + u / 32) % (m + 1)) (u / 32)
end Yx
namespace L2
open PySem PySem.Spec PyProof.Rows PySem.W aQ
def o8 (H:Hp):List (Addr×List V)->Hp
 | []=>H
 | p::r=>upd (o8 H r) p.1 (.tup p.2)
theorem jz {H:Hp}{b:Addr}:∀ {ps:List (Addr×List V)},(∀ p∈ps,p.1≠b)->o8 H ps b=H b
 | [],_=>rfl
 | p::r,h=>by
  show upd (o8 H r) p.1 (.tup p.2) b=H b;rw [xl (Ne.symm (h p (.head _)))];exact jz λq hq=>h q (.tail _ hq)
theorem mC {H:Hp}:∀ {ps:List (Addr×List V)},(ps.map (·.1)).Nodup->∀ p∈ps,o8 H ps p.1=some (.tup p.2)
 | [],_,_,h=>nomatch h
 | q::r,nd,p,h=>by
  rw [zZ,yW] at nd;show upd (o8 H r) q.1 (.tup q.2) p.1=_;rcases zN.mp h with rfl | h
  ·exact xa
  ·rw [xl (λe=>nd.1 (by rw [<-e];exact zO.mpr ⟨p,h,rfl⟩))];exact mC nd.2 p h
theorem NV {H:Hp}{ps:List (Addr×List V)}(h:∀ p∈ps,H p.1=none):ay H (o8 H ps):=λb u e=>by
 rw [jz λp hp z=>by have:=h p hp;rw [z,e] at this;cases this];exact e
section
variable {X:Cx}{ai:List (Addr×Obj)}{σ:St}{H:Hp}{s:Shared}
theorem Inv.Og {h':Heap}{t':Nat}{ps:List (Addr×List V)}(I:Inv X ai σ H s)(k:∀ b o,s.heap.get? b=some o->h'.get? b=some o)(hp:∀ p∈ps,s.heap.objs.size<=p.1)(nd:(ps.map (·.1)).Nodup)
  (ok:∀ p∈ps,(p.2.length<=sizeLine/\∀ ob,h'.get? p.1=some ob->ob.dict=none)/\∃ az:List Value,Vals p.2 az/\IsTup h' p.1 az.toArray):Inv X ai σ (o8 H ps) { s with heap:=h',toks:=t' }:=by
 have hn:∀ p∈ps,H p.1=none:=λp h=>I.aR.fresh (hp p h);have ne:∀ b u,H b=some u->∀ p∈ps,p.1≠b:=λb u e p h z=>by have:=hn p h;rw [z,e] at this;cases this
 have old:∀ b u,H b=some u->o8 H ps b=some u:=λb u e=>by rw [jz (ne b u e)];exact e
 refine I.un ⟨λb o e _ _ _=>k b o e,λb o e _ _ _=>⟨o.slots,k b o e⟩,λb o e n _=>?_,λb o e _=>⟨o,k b o e⟩,λb xs e=>old b _ e,λb o u e=>old b _ e,λb qs e=>⟨#[],by rw [old b _ e];simp⟩⟩ λb u e=>?_
 ·rw [jz (b:=b) λp h z=>absurd (Heap.lt_size e) (Nat.not_lt.mpr (by rw [<-z];exact hp p h))];exact n
 ·by_cases c:∃ p∈ps,p.1=b
  ·obtain ⟨p,h,rfl⟩:=c;rw [mC nd p h] at e;cases e;obtain ⟨z,az,r,t⟩:=ok p h;exact ⟨z,az,r,t⟩
  ·have e':=e;rw [jz λp h z=>c ⟨p,h,z⟩] at e';exact (I.aR b u e').dN (λc v _ q=>k c v q) (λc q=>old c _ q) λc xs q=>old c _ q
theorem Inv.Ur {m:Str->Option Value}{h':Heap}{D:Addr}{az:List Value}{c:Nat}{xs ys:List V}(I:Inv X ai σ H s)(F0:Fr X.base X.env.locals s.heap m)(F:Fr X.base X.env.locals h' m)(hD:H D=some (.lst ys))
  (N:News X.base X.env.locals h' ((D,listOf az.toArray c)::rest X.base s.heap X.env.locals D)) (hv:Vals xs az) (hz:xs.length<=sizeLine):Inv X ai σ (upd H D (.lst xs)) { s with heap:=h' }:=by
 have eD:=(N (D,listOf az.toArray c) (.head _)).1;have keep:=jl (h:=s.heap) (d:=D) I.bk F (λp hp=>N p (.tail _ hp));have SY:∀ b,H b=none->b≠D:=λb n z=>by rw [z,hD] at n;cases n
 have WR:∀ b u,H b=some u->b≠X.env.locals:=λb u e z=>by rw [z,I.free] at e;cases e
 refine I.step (g':=s.gens) (t':=s.toks) (d':=s.drawn) (ch:=[]) (λ_ z=>nomatch z) (λb o hb _ _ e n=>keep b o hb (SY b n) e) (λb o hb _ _ e n=>⟨o.slots,keep b o hb (SY b n) e⟩) (λb o _ e n=>by rw [xl (SY b n)];exact n) (λb o _ e=>?_)
  (λb ys e=>by rw [xl (wU e hD (by intro z;cases z))];exact e) (λb o u e=>by rw [xl (wU e hD (by intro z;cases z))];exact e) (λb ps e=>⟨#[],by rw [xl (wU e hD (by intro z;cases z)),e,Array.append_empty]⟩) (λm' hm=>?_) (λb u e=>?_) I.bare
 ·by_cases hb:b=X.env.locals
  ·obtain ⟨o',_,_,q,_⟩:=F.ns;exact ⟨o',by rw [hb];exact q⟩
  ·by_cases mw:b=D
   ·exact ⟨_,by rw [mw];exact eD⟩
   ·exact ⟨o,keep b o hb mw e⟩
 ·obtain ⟨o1,es1,ep1,e1,d1,k1,f1⟩:=hm;obtain ⟨o2,es2,ep2,e2,d2,k2,f2⟩:=F0.ns;rw [e1] at e2;cases e2;rw [d1] at d2;cases d2;obtain ⟨o3,Ye,Yg,e3,d3,k3,f3⟩:=F.ns;exact ⟨o3,Ye,Yg,e3,d3,k3,λname=>(f3 name).trans ((f2 name).symm.trans (f1 name))⟩
 ·by_cases hb:b=D
  ·subst hb;rw [xa] at e;cases e;exact ⟨hz,az,c,hv,eD⟩
  ·rw [xl hb] at e;refine (I.aR b u e).dN (λc v hc q=>?_) (λc q=>by rw [xl (wU q hD (by intro z;cases z))];exact q) λc ys q=>by rw [xl (wU q hD (by intro z;cases z))];exact q
   rcases hc with rfl | hc
   ·exact keep c v (WR c u e) hb q
   ·exact keep c v (WR c _ hc) (wU hc hD (by intro z;cases z)) q
theorem Uw {l:Addr}{ps:List (Addr×List Int)}{A':Around}{E':Value->Shared->Prop}{Z:Shared->Prop}(I:Inv X ai σ H s)(hl:H l=some (.lst (ps.map λa=>V.ref a.1)))(X4:ps.length < 64)(cD:∀ a∈ps,H a.1=some (.tup (a.2.map V.int))/\a.2≠[])
  (q:∀ (qs:List (Addr×List Int)) (s':Shared),List.Perm qs ps->qs.Pairwise (λa b=>lx b.2 a.2=false)->Inv X ai σ (upd H l (.lst (qs.map λa=>V.ref a.1))) s'->Z s') :
  wpAny (model X.prog X.w) A' (call (.builtin "list.sort") [.ref l]) (λ_ s'=>Z s') E' s:=by
 obtain ⟨z0,az,n,r',_,el⟩:=I.tO hl;have ei:=jP r';subst ei;have hlen:(ps.map λa=>Value.ref a.1).length=ps.length:=by simp
 have nL:l≠X.env.locals:=λz=>by rw [z,I.free] at hl;cases hl
 have nB:X.base.get? l=none:=by
  cases e:X.base.get? l with
  | none=>rfl
  | some u=>have:=(I.bs l u e).2;rw [hl] at this;cases this
 by_cases h2:ps.length < 2
 ·refine wpAny_call_entry slot_list_sort ⟨_,el,rfl⟩ entry_list_sort (mR el (by omega) ⟨_,rfl,?_⟩) (args_list_sort _);have e1:=get?_update_seq el (λ_=>(#[]:Array Value));refine q ps _ (List.Perm.refl _) ?_ (I.write (x:=l) (e:=l) (t':=s.toks) (by rw [hl];trivial) (.inl rfl) (λb u hb e=>?_) ⟨_,get?_update_seq (Heap.get?_push_of_some _ (Heap.get?_push_of_some _ e1)) _⟩ ⟨z0,_,_,r',get?_update_seq (Heap.get?_push_of_some _ (Heap.get?_push_of_some _ e1)) _⟩)
  ·match ps,h2 with
   | [],_=>exact .nil
   | [_],_=>exact List.pairwise_singleton _ _
  ·unfold sortedHeap;rw [Heap.get?_update_ne _ _ _ _ hb];refine Heap.get?_push_of_some _ (Heap.get?_push_of_some _ ?_);rw [Heap.get?_update_ne _ _ _ _ hb];exact e
 ·obtain ⟨m,F⟩:=I.fr;refine kat_lsort F (RX nL nB el) (UpdF.head LS) rfl (by simpa using h2) (by simpa using X4) λe1 h' F' N'=>?_;have keep:=jl (h:=s.heap) (d:=l) I.bk F' (λp hp=>N' p (.tail _ hp));have rowAt:∀ a∈ps,QA h' a.1 a.2/\a.2≠[]:=λa ha=>by
   obtain ⟨ht,hn⟩:=cD a ha;obtain ⟨_,az,rv,o,e,c,n,d⟩:=I.aR a.1 _ ht;refine ⟨⟨o,_,n,keep a.1 o (λz=>?_) (wU ht hl (by intro z;cases z)) e,c,d,rv⟩,hn⟩;rw [z,I.free] at ht;cases ht
  obtain ⟨fs,kt,lf,hf⟩:=nE rowAt;simp only [List.toList_toArray] at *;refine kat_kind (T:=.type "int") kt (by omega) (λv hv=>?_) (by decide) ?_
  ·obtain ⟨i,t,rfl⟩:=hf v hv;exact Looks.now
  have n1:1<=(ps.map λa=>Value.ref a.1).length:=by omega
  refine gu.wp (c:=cf λi=>rk (ps.map (·.2)) ((ps.map (·.2)).getD i [])) (λi j C hi hj hC=>?_) (λpp hp=>?_) _ (LP (f:=λi=>rk (ps.map (·.2)) ((ps.map (·.2)).getD i [])) n1)
  ·have lS:i < ps.length:=by omega
   have r9:j < ps.length:=by omega
   obtain ⟨⟨o,items,n,ho,hc,hd,hv⟩,hn⟩:=rowAt ps[i] (zh lS);obtain ⟨⟨o',UK,n',rG,VR,NC,Sf⟩,hn'⟩:=rowAt ps[j] (zh r9);unfold kas_ask;have ei:(ps.map λa=>Value.ref a.1).getD i Value.none=.ref ps[i].1:=by simp [lS]
   have ej:(ps.map λa=>Value.ref a.1).getD j Value.none=.ref ps[j].1:=by simp [r9]
   rw [ei,ej];refine kat_lt ho hd rG NC (mJ hv Sf (by simp) ?_);have e:cf (λi=>rk (ps.map (·.2)) ((ps.map (·.2)).getD i [])) i j=lx ps[i].2 ps[j].2:=by
    unfold cf;have e1:(ps.map (·.2)).getD i []=ps[i].2:=by simp [lS]
    have e2:(ps.map (·.2)).getD j []=ps[j].2:=by simp [r9]
    simp only [e1,e2];exact pN (zO.mpr ⟨ps[i],zh lS,rfl⟩)
   rw [e] at hC;exact hC
  ·obtain ⟨pm,up⟩:=hp;refine KasFin.intro F' N' (UpdF.head LS) λh2' c F2 N2=>?_;have pl:pp.toList.Perm (List.range ps.length):=by
    have:=pm.toList;rw [hlen] at this;simpa using this
   have eo:(pp.toList.map λi=>(ps.map λa=>Value.ref a.1).getD i Value.none)=(pp.toList.map λi=>ps.getD i (0,[])).map λa=>Value.ref a.1:=by
    rw [zg];refine yN λi hi=>?_;have lS:i < ps.length:=zo.mp (pl.mem_iff.mp hi);simp [lS]
   have perm:(pp.toList.map λi=>ps.getD i (0,[])).Perm ps:=by
    have:=pl.map λi=>ps.getD i (0,[]);rwa [pP] at this
   rw [eo] at N2;have hzz:((pp.toList.map λi=>ps.getD i (0,[])).map λa=>V.ref a.1).length<=sizeLine:=by
    rw [zA,perm.length_eq,sizeLine_eq];omega
   refine q _ _ perm ?_ (I.Ur F F2 hl N2 (dm _) hzz);rw [z4];intro i j hi hj rH;simp only [zA,Array.length_toList] at hi hj;simp only [yx,Array.getElem_toList];have hn:pp.size=ps.length:=by rw [pm.size];exact hlen
   have key:=up i j (yl rH) (by omega);have a1:pp[i] < ps.length:=zo.mp (pl.mem_iff.mp (by simp));have a2:pp[j] < ps.length:=zo.mp (pl.mem_iff.mp (by simp));unfold g at'  at key;simp only [hi,hj,getElem?_pos,Option.getD_some] at key;have e1:(ps.map (·.2)).getD pp[i] []=ps[pp[i]].2:=by simp [a1]
   have e2:(ps.map (·.2)).getD pp[j] []=ps[pp[j]].2:=by simp [a2]
   rw [e1,e2] at key;have e3:ps.getD pp[i] (0,[])=ps[pp[i]]:=by simp [a1]
   have e4:ps.getD pp[j] (0,[])=ps[pp[j]]:=by simp [a2]
   rw [e3,e4];have:=pN (rs:=ps.map (·.2)) (a:=ps[pp[j]].2) (b:=ps[pp[i]].2) (zO.mpr ⟨_,zh a2,rfl⟩);rw [<-this];simp only [decide_eq_false_iff_not];omega
end
def LM (v d:Addr):HO:=.ext λh=>h.IsItemsView v d
section
variable {X:Cx}
theorem Pw:YF X "dict.items" (λx xs H Q=>∃ d kvs,x=.ref d/\xs=[]/\H d=some (.dK kvs)/\∀ v,H v=none->Q (.ref v) (upd H v (LM v d))):=by intro ai s σ H x xs v us Q I rx rs h;obtain ⟨d,kvs,rfl,rfl,hd,q⟩:=h;cases rx;cases rs;obtain ⟨_,hS,vs,r,m⟩:=uf I.aR hd;refine call_meetsIn PySem.F.slot_dict_items m.typeIs PySem.F.entry_dict_items (PySem.F.args_dict_items_1 _) (meets_dict_items (aW X.prog X.w) d hS) ⟨⟨vs,m⟩,?_⟩;exact ⟨.ref _,_,I.laid (t':=s.toks) (λ_ _ q=>Heap.get?_push_of_some _ q) (zE _) (show bu X.prog X.w _ _ _ (LM s.heap.objs.size d) from ⟨⟨_,Heap.get?_push_size _ rfl,rfl,rfl⟩,⟨_,Heap.get?_push_size _ rfl⟩,λh1 h2 ⟨o,e,c,dd⟩ k=>⟨o,k o e,c,dd⟩⟩),rfl,q _ I.fresh⟩
theorem UA {kv:List (Int×Int)}{vs:List (Key×Value)}(r:KV (kv.map λp=>(Sum.inl p.1,V.int p.2)) vs){j:Nat}{k:Key}{x:Value}(h:vs[j]?=some (k,x)):∃ p t,kv[j]?=some p/\k=Sum.inl p.1/\x=Value.int p.2 t:=by
 induction kv generalizing vs j with
 | nil=>cases r;cases h
 | cons p kv ih=>
  cases r with
  | cons a b=>
   cases j with
   | zero=>
    obtain rfl:_=(k,x):=Option.some.inj h;obtain ⟨e1,t,e2⟩:=a;exact ⟨p,t,rfl,e1.symm,e2⟩
   | succ j=>exact ih b h
theorem ow (hc:X.calm=true):fj X (.builtin "sorted") (λxs H Q=>∃ v d,∃ kv:List (Int×Int),xs=[.ref v]/\H v=some (LM v d)/\H d=some (.dK (kv.map λp=>(Sum.inl p.1,V.int p.2)))/\kv.length < 64 /\
  ∀ l (qs:List (Addr×List Int)) H',ay H H'->H l=none->(∀ a∈qs,H a.1=none)->H' l=some (.lst (qs.map λa=>V.ref a.1))->(∀ a∈qs,H' a.1=some (.tup (a.2.map V.int)))->(qs.map (·.2)).Perm (kv.map λp=>[p.1,p.2])->qs.Pairwise (λa b=>lx b.2 a.2=false)->Q (.ref l) H'):=by
 intro ai s σ H xs us Q I r h;obtain ⟨v,d,kv,rfl,hv,hd,X4,q⟩:=h;obtain ⟨u,rfl,rx⟩:=vals1 r;cases rx;have line:1002<=sizeLine:=by rw [sizeLine_eq];decide
 obtain ⟨_,hS,vs,rv,m⟩:=uf I.aR hd;have lv:vs.length=kv.length:=by have:=Paired.length rv;rw [zA] at this;omega
 obtain ⟨od,es,ep,ho,hx,ack,hk,hp,Mh⟩:=m;have view:s.heap.IsItemsView v d:=(I.aR v _ hv).1;refine Calls.call_function_entry kind_sorted plain_sorted entry_sorted (args_sorted1 _) ?_;unfold Builtin.«sorted»;refine wpAny_bind (m:=checkCount "sorted" 1 1 _) (wpAny_pure ?_);refine wpAny_bind (kdx_collect (knd:=aW X.prog X.w) (kvs:=vs) (ep:=ep) (I.ok.hd hc) view ⟨od,es,ho,hx,ack,hk,hp,Mh⟩ (by omega) λh1 tk as hk1 hl hG=>?_);have la:as.length=kv.length:=hl.trans lv;have each:∀ p∈as.zip (kv.map λp=>[p.1,p.2]),p.1∈as/\∃ i j:Int,∃ t t',p.2=[i,j]/\h1.get? p.1=some { cls:=.type "tuple", data:=.seq #[.int i t,.int j t'] }:=λp hp=>by
  obtain ⟨j,hj⟩:=zv.mp hp;rw [List.getElem?_zip_eq_some] at hj;obtain ⟨e1,e2⟩:=hj;obtain ⟨key,k,x,g1,g2,g3⟩:=hG.pairs j p.1 e1;obtain ⟨w,t,w1,w2,w3⟩:=UA rv g1;rw [zF,w1] at e2;have e3:[w.1,w.2]=p.2:=Option.some.inj e2;rcases wV g2 with ⟨i,t',f1,f2⟩ | ⟨i,t',f1,f2⟩
  ·rw [f1] at w2;cases w2;exact ⟨zC e1,_,_,t',t,e3.symm,by rw [g3,f2,w3]⟩
  ·rw [f1] at w2;cases w2
 have fst:(as.zip (kv.map λp=>[p.1,p.2])).map (·.1)=as:=by
  rw [List.map_fst_zip];rw [zA];omega
 have snd:(as.zip (kv.map λp=>[p.1,p.2])).map (·.2)=kv.map λp=>[p.1,p.2]:=by
  rw [List.map_snd_zip];rw [zA];omega
 have ndA:as.Nodup:=hG.rise.imp λh=>za h;have lps:(as.zip (kv.map λp=>[p.1,p.2])).length=kv.length:=by rw [List.length_zip,zA];omega
 have Yh:as.map Value.ref=(as.zip (kv.map λp=>[p.1,p.2])).map λa=>Value.ref a.1:=by
  conv=>lhs;rw [<-fst]
  rw [zg];rfl
 generalize as.zip (kv.map λp=>[p.1,p.2])=ps at each fst snd lps Yh;have VI:((ps.map λa=>(a.1,a.2.map V.int)).map (·.1)).Nodup:=by
  rw [zg];show (ps.map λa=>a.1).Nodup;rw [show (ps.map λa=>a.1)=as from fst];exact ndA
 have I1:Inv X ai σ (o8 H (ps.map λa=>(a.1,a.2.map V.int))) { s with heap:=h1,toks:=tk }:=by
  refine I.Og hk1 (λp hp=>?_) VI λp hp=>?_
  ·obtain ⟨a,ha,rfl⟩:=zO.mp hp;exact yl (hG.above _ (each a ha).1)
  ·obtain ⟨a,ha,rfl⟩:=zO.mp hp;obtain ⟨_,i,j,t,t',e1,e2⟩:=each a ha;refine ⟨⟨by rw [e1];show 2<=_;omega,λob e=>by have e:h1.get? a.1=some ob:=e;rw [e2] at e;cases e;rfl⟩,[.int i t,.int j t'],?_,?_⟩
   ·rw [e1];exact .cons ⟨t,rfl⟩ (.cons ⟨t',rfl⟩ .nil)
   ·exact ⟨_,e2,rfl,_,rfl⟩
 have fr:∀ p∈ps,H p.1=none:=λp hp=>I.aR.fresh (yl (hG.above _ (each p hp).1));have sm:ay H (o8 H (ps.map λa=>(a.1,a.2.map V.int))):=NV λp hp=>by
  obtain ⟨a,ha,rfl⟩:=zO.mp hp;exact fr a ha
 rw [Yh];refine wpAny_bind (wpAny_newList ?_ (by rw [zA];omega));have I2:=I1.Uy (t':=tk) (dm ps) (by rw [zA];omega);have nB:=I1.fresh;refine wpAny_bind (wpAny_holding (wpAny_mono (Uw (Z:=λs'=>EP X ai σ Q (.ref h1.objs.size) s') I2 xa (by omega) (λa ha=>?_) λqs s' pm pw I3=>?_) (λ_ s' z=>wpAny_pure ⟨_,rfl,z⟩) λ_ _ e=>e))
 ·obtain ⟨_,i,j,t,t',e1,e2⟩:=each a ha;refine ⟨?_,by rw [e1];simp⟩;have:=mC (H:=H) VI (a.1,a.2.map V.int) (zO.mpr ⟨a,ha,rfl⟩);rw [xl (xg this nB)];exact this
 ·rw [Q7] at I3;refine ⟨.ref h1.objs.size,_,I3,rfl,q _ qs _ ?_ ?_ ?_ xa ?_ ?_ pw⟩
  ·intro b u e;have:=sm b u e;rw [xl (xg this nB)];exact this
  ·cases e:H h1.objs.size with
   | none=>rfl
   | some u=>have:=sm _ u e;rw [nB] at this;cases this
  ·exact λa ha=>fr a (pm.mem_iff.mp ha)
  ·intro a ha;have:=mC (H:=H) VI (a.1,a.2.map V.int) (zO.mpr ⟨a,pm.mem_iff.mp ha,rfl⟩);rw [xl (xg this nB)];exact this
  ·rw [<-snd];exact pm.map _
end
end L2
namespace L2
open PySem PySem.Spec PyProof.Rows
section
variable {X:Cx}
def oV:Option Int->V
 | none=>.bV
 | some i=>.int i
theorem Mb (o:Option Int):cH (oV o)=true:=by cases o <;> rfl
theorem WM (a b:Option Int):rL (oV a) (oV b)=decide (a=b):=by cases a <;> cases b <;> simp [oV,rL];rfl
theorem all_range {n:Nat}{e:Nat->Bool}{b:Bool}(h:(∀ j,j < n->e j=true)↔b=true):(List.range n).all e=b:=by
 cases b with
 | true=>rw [yy];intro j hj;exact h.mpr rfl j (zo.mp hj)
 | false=>
  cases c:(List.range n).all e with
  | false=>rfl
  | true=>exact absurd (h.mp λj hj=>yy.mp c j (zo.mpr hj)) (by simp)
theorem NJ {A:Around}{s:Shared}{os ps:List (Option Int)}{us ws:List Value}(r:Vals (os.map oV) us)(r2:Vals (ps.map oV) ws)(hl:us.length=ws.length) :
  (∀ j (h1:j < us.toArray.size) (h2:j < ws.toArray.size),SeqAt.EqAt A s us.toArray[j] ws.toArray[j] (decide (os[j]?=ps[j]?)))/\(List.range us.toArray.size).all (λj=>decide (os[j]?=ps[j]?))=decide (os=ps):=by
 have l1:os.length=us.length:=by have:=r.length;simpa using this
 have l2:ps.length=ws.length:=by have:=r2.length;simpa using this
 refine ⟨λj h1 h2=>?_,all_range ?_⟩
 ·simp only [zM] at h1 h2;have a1:j < os.length:=by omega
  have a2:j < ps.length:=by omega
  obtain ⟨u,eu,ru⟩:=r.get (i:=j) (x:=oV os[j]) (by simp [a1]);obtain ⟨w,ew,u9⟩:=r2.get (i:=j) (x:=oV ps[j]) (by simp [a2]);have e1:us.toArray[j]=u:=by rw [List.getElem_toArray];exact Option.some.inj ((zG h1).symm.trans eu)
  have e2:ws.toArray[j]=w:=by rw [List.getElem_toArray];exact Option.some.inj ((zG h2).symm.trans ew)
  rw [e1,e2];have:=vM (A:=A) (s:=s) ru u9 (Mb _) (Mb _);rw [WM] at this;simpa [a1,a2] using this
 ·simp only [zM,decide_eq_true_eq];constructor
  ·intro h;apply List.ext_getElem?
   intro j;by_cases hj:j < us.length
   ·exact h j hj
   ·rw [yR (by omega),yR (by omega)]
  ·rintro rfl j _;rfl
theorem Uj (hu:X.A.units + 64 < cLine):gw X (compareOp .NotEq) (λx y H Q=>∃ (a b:Addr) (os ps:List (Option Int)),x=.ref a/\y=.ref b/\aG X.K H a (os.map oV)/\aG X.K H b (ps.map oV)/\Q (.bl (!decide (os=ps))) H):=by
 intro ai s σ H x y v u Q I rx ry h;obtain ⟨a,b,os,ps,rfl,rfl,ha,hb,q⟩:=h;cases rx;cases ry;obtain ⟨az,r,p,_⟩:=I.list ha;obtain ⟨dz,r2,p2,_⟩:=I.list hb;have l1:os.length=az.length:=by have:=r.length;simpa using this
 have l2:ps.length=dz.length:=by have:=r2.length;simpa using this
 by_cases hl:az.length=dz.length
 ·obtain ⟨e1,e2⟩:=NJ (A:=X.A.in1) (s:=s) r r2 hl;exact SeqAt.RcNeAt.lists p.isList p2.isList (by simpa using hl) (by omega) e1 _ _ _ _ ⟨.bl _,H,I,by rw [e2];rfl,q⟩
 ·have e:decide (os=ps)=false:=by
   rw [decide_eq_false_iff_not];rintro rfl;omega
  rw [e] at q;exact SeqAt.RcNeAt.lists_lengths p.isList p2.isList (by simpa using hl) (by omega) _ _ _ _ ⟨.bl _,H,I,rfl,q⟩
end
end L2
namespace Sm
open PySem L2 aQ
def Th (H:Hp)(x:V)(r:Option (List V)):Prop:=
 (∃ t,qq H x=some t/\t ≠ "tuple" /\ r=none)\/(∃ a xs,x=.ref a/\H a=some (.tup xs)/\(∀ e∈xs,∃ t,qq H e=some t)/\r=some xs)
def isLet (w:Int):Option (List V)->Bool
 | some [a,b,c,d]=>oX 0 (w - 1) a && (oX 0 1000000000 b && (oX 0 (w - 1) c && oX 0 1000000000 d))
 | _=>false
def uV:Sp:=λvs H Q _=>∃ b x t ah tr tm ps,vs=[.ref b,x]/\aM H b ah tr tm ps/\qq H x=some t/\Q (.bl (oX 0 ((ah.length:Int) - 1) x)) H
def uY:Sp:=λvs H Q _=>∃ b x r ah tr tm ps,vs=[.ref b,x]/\aM H b ah tr tm ps/\Th H x r/\Q (.bl (isLet ah.length r)) H
theorem LN {H:Hp}{l:Addr}{xs:List V}(h:H l=some (.tup xs)):qq H (.ref l)=some "tuple" := by simp only [qq,h]
theorem ia {n k:Nat}(h:k < n):uE n (k:Int)=some k:=by unfold uE;rw [if_pos (by omega),if_pos (by omega)];simp
end Sm
namespace L2
open PySem PySem.Spec PyProof.Rows
theorem LZ {α:Type}(l:List α):∀ n,n<=l.length->(List.range n).filterMap (λk=>l[k]?)=l.take n
 | 0,_=>by simp
 | n + 1,h=>by
  have hn:n < l.length:=h;rw [xI,List.filterMap_append,LZ l n (by omega),List.take_add_one];simp [hn]
theorem uc {α β:Type}{f g:α->Option β}:∀ {l:List α},(∀ x∈l,f x=g x)->l.filterMap f=l.filterMap g
 | [],_=>rfl
 | x::l,h=>by
  rw [ye,ye,h x (.head _),uc λy hy=>h y (.tail _ hy)]
theorem OT {α:Type}(l:List α):((List.range l.length).map λk:Nat=>((l.length:Int) - 1 + -1 * (k:Int)).toNat).filterMap (λj=>l.toArray[j]?)=l.reverse:=by
 rw [List.filterMap_map];have h:=LZ l.reverse l.length (by simp);rw [show l.reverse.take l.length=l.reverse from by rw [<-yO];exact yA] at h;rw [<-h];refine uc λk hk=>?_;have hk':=zo.mp hk;have e:((l.length:Int) - 1 + -1 * (k:Int)).toNat=l.length - 1 - k:=by omega
 show l.toArray[((l.length:Int) - 1 + -1 * (k:Int)).toNat]?=_;rw [e,List.getElem?_reverse hk'];simp
theorem oS (az:List Value):slicePick az.toArray none none (some (-1))=az.reverse.toArray:=by
 unfold slicePick;have e:sliceBounds none none (some (-1)) az.toArray.size=((az.length:Int) - 1,-1,-1):=by
  unfold sliceBounds;simp
 rw [e];have r:sliceRange ((az.length:Int) - 1) (-1) (-1)=(List.range az.length).map λk:Nat=>((az.length:Int) - 1 + -1 * (k:Int)).toNat:=by
  unfold sliceRange;have c:(if (-1:Int) > 0 then (if (az.length:Int) - 1 < -1 then (-1 - ((az.length:Int) - 1) + -1 - 1) / -1 else 0) else (if (az.length:Int) - 1 > -1 then ((az.length:Int) - 1 - -1 - -1 - 1) / (- -1) else 0))=(az.length:Int):=by
   rw [if_neg (by decide)];have e1:(- -1:Int)=1:=by decide
   rw [e1,Int.ediv_one];split <;> omega
  simp only [c];simp
 rw [r];exact congrArg List.toArray (OT az)
section
variable {X:Cx}{e:Expr}{te:TE} {pos p2 p3 p4:Pos}{j:Nat}
def V9 (K:PySem.W.Frag)(te:TE):TE:=fun σ H Q=>te σ H λx H1=>∃ a xs,x=.ref a/\aG K H1 a xs/\∀ p,H1 p=none->Q (.ref p) (upd H1 p (.lst xs.reverse))
theorem l8 {K:PySem.W.Frag}(hK:X.K=K)(he:PE X e te):PE X (.Subscript e (.Slice none none (some (.UnaryOp .USub (.Constant (.int 1) j p4) p3)) p2) pos) (V9 K te):=by subst hK;intro ai s σ H Q I h;refine Subscript_ (aZ (he ai s σ H _ I h) λv s1 ⟨x,H1,I1,r1,q1⟩=>?_);have st:PO X (some (.UnaryOp .USub (.Constant (.int 1) j p4) p3)) (pK (TF (rU λi=>.int (-i)) (tC (.int 1)))):=fV (L3 qo xh);refine wpAny_Slice ?_;rw [evalPart_none];refine wpAny_pure (wpAny_pure ?_);refine aZ (st ai s1 σ H1 (λo H'=>o=some (-1)/\H'=H1) I1 ⟨1,rfl,-1,rfl,rfl,rfl⟩) λvs s3 h3=>?_;obtain ⟨o,H',I3,ps,rfl,rfl⟩:=h3;have I4:Inv X ai σ H' { s3 with heap:=s3.heap.push { cls:=.type "slice", data:=.fields #[.none,.none,vs] } }:=I3.kept (t':=s3.toks) λb ob q=>Heap.get?_push_of_some _ q;obtain ⟨a,xs,rfl,hx,q⟩:=q1;cases r1;obtain ⟨az,r,ht,hz⟩:=I4.list hx;have hlen:=r.length;show wpAny (model X.prog X.w) X.A (subscriptTail e (.Slice none none (some (.UnaryOp .USub (.Constant (.int 1) j p4) p3)) p2) (.ref a) (.ref s3.heap.objs.size)) (EP X ai σ Q) X.xe { s3 with heap:=s3.heap.push { cls:=.type "slice", data:=.fields #[.none,.none,vs] } };refine tail_any (ops:=[.ref a,.ref s3.heap.objs.size]) ht.isList.typeIs slot_list_getitem.lookup ?_ (by with_unfolding_all rfl);refine wpAny_getItem_list_slice ht.isList (Heap.IsSliceOf.new ..) .none .none ps (by simp) ?_ (by rw [zM] <;> omega);rw [oS];refine ⟨.ref _,_,I4.laid (t':=s3.toks) (o:=.lst xs.reverse) (λb ob q=>Heap.get?_push_of_some _ q) (zE _) ?_,rfl,q _ (I4.aR.fresh (zE _))⟩;exact ⟨by rw [yO];exact hz,_,0,r.reverse,Heap.get?_push_size _ rfl⟩
end
end L2
namespace Sm
open PySem L2 aQ
abbrev Fn:=Nat->Option Int
def put (f:Fn)(k:Nat)(x:Option Int):Fn:=λi=>if i=k then x else f i
theorem wt {f:Fn}{k:Nat}{x:Option Int}:put f k x k=x:=by unfold put;rw [if_pos rfl]
theorem wn {f:Fn}{k i:Nat}{x:Option Int}(h:i≠k):put f k x i=f i:=by unfold put;rw [if_neg h]
def av (k:Nat)(x:Int):Fn:=λi=>if i=k then some x else none
def below (o:Option Int)(t:Int):Bool:=match o with
 | some y=>decide (y < t)
 | none=>false
theorem aL {o:Option Int}{t:Int}:below o t=true↔∃ y,o=some y/\y < t:=by cases o <;> simp [below]
def bq (o:Option Int)(t:Int):Bool:=match o with
 | some y=>decide (y<=t)
 | none=>false
theorem aA {o:Option Int}{t:Int}:bq o t=true↔∃ y,o=some y/\y<=t:=by cases o <;> simp [bq]
structure W3 where
 g:Nat
 o:Nat
 t:Int
def two (m:M4):List W3:=[⟨m.lo.toNat,m.hi.toNat,m.t⟩,⟨m.hi.toNat,m.lo.toNat,m.t⟩]
def aB (ms:List M4):List W3:=ms.flatMap two
def aH (st:Fn)(x:W3):Fn:=if st x.o=none/\below (st x.g) x.t=true then put st x.o (some x.t) else st
def fwd (ms:List M4)(st:Fn):Fn:=(aB ms).foldl aH st
theorem Qd (m:M4)(ms:List M4)(st:Fn):fwd (m::ms) st=fwd ms (aH (aH st ⟨m.lo.toNat,m.hi.toNat,m.t⟩) ⟨m.hi.toNat,m.lo.toNat,m.t⟩):=by unfold fwd aB;rw [List.flatMap_cons,ya];rfl
theorem nQ {st:Fn}{x:W3}{i:Nat}{y:Int}(h:st i=some y):aH st x i=some y:=by
 unfold aH;split
 ·rename_i c;by_cases e:i=x.o
  ·rw [e,c.1] at h;cases h
  ·rw [wn e];exact h
 ·exact h
theorem NG {st:Fn}{x:W3}(hs:∀ i y,st i=some y->y<=x.t\/∀ j,st j≠none->j=i)(oY:x.g≠x.o):∀ i y,aH st x i=some y->y<=x.t\/∀ j,aH st x j≠none->j=i:=by
 unfold aH;split
 ·rename_i c;obtain ⟨z,hz,zt⟩:=aL.mp c.2;intro i y h;by_cases e:i=x.o
  ·rw [e,wt] at h;cases h;exact .inl (ze _)
  ·rw [wn e] at h;rcases hs i y h with q | q
   ·exact .inl q
   ·have:x.g=i:=q x.g (by rw [hz];simp);rw [<-this,hz] at h;cases h;exact .inl (by omega)
 ·exact hs
def Ord (t:Int)(ms:List M4):Prop:=(∀ m∈ms,t<=m.t/\m.lo.toNat≠m.hi.toNat)/\ms.Pairwise λa b=>a.t<=b.t
theorem Good.ord {w:Int}{ms:List M4}(g:Good w ms):Ord 1 ms:=by
 refine ⟨λm hm=>?_,g.order.imp λh=>?_⟩
 ·obtain ⟨a1,a2,a3,a4,_⟩:=g.each m hm;exact ⟨a4,by omega⟩
 ·rcases h with h | h
  ·omega
  ·omega
def rep (n:Nat)(f:Fn):List (Option Int):=(List.range n).map f
theorem wz (n:Nat)(f:Fn):(rep n f).length=n:=by simp [rep]
theorem jd {n k:Nat}{f:Fn}(h:k < n):(rep n f)[k]?=some (f k):=by simp [rep,h]
theorem cK {n k:Nat}{f:Fn}(h:k < n):((rep n f).map oV)[k]?=some (oV (f k)):=by rw [zF,jd h];rfl
theorem jc {n k:Nat}{f:Fn}{x:Option Int}(h:k < n):(rep n f).set k x=rep n (put f k x):=by
 apply List.ext_getElem?
 intro i;rw [List.getElem?_set];by_cases e:k=i
 ·subst e;rw [if_pos rfl,if_pos (by rw [wz];exact h),jd h,wt]
 ·rw [if_neg e];by_cases hi:i < n
  ·rw [jd hi,jd hi,wn λz=>e z.symm]
  ·rw [yR (by rw [wz];omega),yR (by rw [wz];omega)]
theorem OU {n:Nat}{f g:Fn}:rep n f=rep n g↔∀ i,i < n->f i=g i:=by
 constructor
 ·intro h i hi;have:=congrArg (λl=>l[i]?) h;simp only [jd hi] at this;exact Option.some.inj this
 ·intro h;exact yN λi hi=>h i (zo.mp hi)
structure W4 where
 n:Nat
 w:W3
def W4.vs (x:W4):List V:=[.int x.n,.int x.w.g,.int x.w.o,.int x.w.t]
def dJ (ms:List M4):Nat->List W4
 | 0=>[]
 | i + 1=>dJ ms i++(match ms[i]? with
  | some m=>[⟨i,⟨m.lo.toNat,m.hi.toNat,m.t⟩⟩,⟨i,⟨m.hi.toNat,m.lo.toNat,m.t⟩⟩]
  | none=>[])
theorem mH {ms:List M4}{i:Nat}{m:M4}(h:ms[i]?=some m):dJ ms (i + 1)=dJ ms i++[⟨i,⟨m.lo.toNat,m.hi.toNat,m.t⟩⟩,⟨i,⟨m.hi.toNat,m.lo.toNat,m.t⟩⟩]:=by
 conv=>lhs;unfold dJ
 rw [h]
theorem mF (ms:List M4):∀ i,i<=ms.length->(dJ ms i).map (·.w)=aB (ms.take i)
 | 0,_=>by simp [dJ,aB]
 | i + 1,h=>by
  have hi:i < ms.length:=h;have e:ms[i]?=some ms[i]:=by simp [hi]
  rw [mH e,zD,mF ms i (by omega),wK e];unfold aB;rw [List.flatMap_append];rfl
theorem jM (ms:List M4):(dJ ms ms.length).map (·.w)=aB ms:=by rw [mF ms _ (zE _),yA]
theorem jN (ms:List M4):(aB ms).length=2 * ms.length:=by
 induction ms with
 | nil=>rfl
 | cons m ms ih=>
  have:aB (m::ms)=two m++aB ms:=by unfold aB;rw [List.flatMap_cons]
  rw [this,zL,ih,zR];show 2 + _=_;omega
theorem dG {w:Int}{ms:List M4}(g:Good w ms){x:W3}(h:x∈aB ms):(x.g:Int) < w/\(x.o:Int) < w/\1<=x.t/\x.t<=1000000000/\x.g≠x.o:=by
 unfold aB at h;obtain ⟨m,hm,hx⟩:=yz.mp h;obtain ⟨a1,a2,a3,a4,a5,_⟩:=g.each m hm;unfold two at hx;simp only [zN,yZ,or_false] at hx;rcases hx with rfl | rfl
 ·exact ⟨by show (m.lo.toNat:Int) < w;omega,by show (m.hi.toNat:Int) < w;omega,a4,a5,by show m.lo.toNat≠m.hi.toNat;omega⟩
 ·exact ⟨by show (m.hi.toNat:Int) < w;omega,by show (m.lo.toNat:Int) < w;omega,a4,a5,by show m.hi.toNat≠m.lo.toNat;omega⟩
theorem iW {o:Option Int}:(oV o=.bV)↔o=none:=by cases o <;> simp [oV]
def Rt:Sp:=λvs H Q _=>∃ o t,vs=[oV o,.int t]/\Q (.bl (below o t)) H
def TQ:Sp:=λvs H Q _=>∃ o t,vs=[oV o,.int t]/\Q (.bl (bq o t)) H
def TY:Sp:=λvs H Q _=>∃ b,∃ k:Nat,∃ x ah tr tm ps,vs=[.ref b,.int k,.int x]/\aM H b ah tr tm ps/\ah.length<=1000/\∀ l H',H l=none->ay H H'->H' l=some (.lst ((rep ah.length (av k x)).map oV))->Q (.ref l) H'
def TN:Sp:=λvs H Q _=>∃ b ah tr tm ps,vs=[.ref b]/\aM H b ah tr tm ps/\Good ah.length (ps.map (·.2))/\∀ l (ws:List (Addr×W4)) H',H l=none->ay H H'->H' l=some (.lst (ws.map λa=>V.ref a.1))->(∀ a∈ws,H' a.1=some (.tup a.2.vs))->ws.map (·.2)=dJ (ps.map (·.2)) ps.length->Q (.ref l) H'
def LO:Sp:=λvs H Q _=>∃ b,∃ k:Nat,∃ x ah tr tm ps,vs=[.ref b,.int k,.int x]/\k < ah.length/\aM H b ah tr tm ps/\ah.length<=1000/\Good ah.length (ps.map (·.2))/\∀ l H',H l=none->ay H H'->H' l=some (.lst ((rep ah.length (fwd (ps.map (·.2)) (av k x))).map oV))->Q (.ref l) H'
end Sm
namespace L2
open PySem PySem.Spec PyProof.Rows
section
variable {n:Nat}{caps:List Nat}{g:TG}{tc:TT}{te:TE}{σ:St}{H:Hp}{Qf:Addr->Hp->List V->Prop}
theorem fX {lo:Int}{m:Nat}(Pv:Nat->St->List V->Hp->Prop)(h0:Pv 0 (lM n caps σ) [] H)(hn:m<=1000)(hl:∀ i τ acc H,Pv i τ acc H->acc.length<=i)
  (hs:∀ i τ acc H (C:St->List V->Hp->Prop),i < m->Pv i τ acc H->(∀ τ acc H,Pv (i + 1) τ acc H->C τ acc H)->g (.int (lo + i)) τ H fun eU H2=>tc eU H2 λb H3=>if b=true then te eU H3 λy H4=>C eU (acc++[y]) H4 else C eU acc H3)
  (hd:∀ τ acc H,Pv m τ acc H->∀ p,H p=none->Qf p H acc) :
  ∃ W:Nat->Nat->St->List V->Hp->Prop,(∃ m,W 0 m (lM n caps σ) [] H)/\∀ i m' τ acc H,W i m' τ acc H ->
   ((QC lo m).stop i H/\acc.length<=sizeLine/\∀ p,H p=none->Qf p H acc) \/
   ((QC lo m).go i H/\acc.length < sizeLine/\∀ x H',(QC lo m).LL i H x H'->g x τ H' fun eU H2=>tc eU H2 λb H3=>if b=true then te eU H3 λy H4=>∃ WW,WW < m'/\W (i + 1) WW eU (acc++[y]) H4 else ∃ WW,WW < m'/\W (i + 1) WW eU acc H3):=
 rO (J:=QC lo m) Pv m h0 hn hl (λi τ acc H hi p=>hi) (fun τ acc H p=>zE _)
  (λi τ acc H C hi p c x H' y=>by obtain ⟨e1,e2⟩:=y;subst e1;subst e2;exact hs i τ acc _ C hi p c) hd
end
end L2
namespace Sm
open PySem L2 aQ
def run (ws:List W3)(st:Fn):Fn:=ws.foldl aH st
theorem dP:∀ {ws:List W3}{st:Fn}{i:Nat}{y:Int},st i=some y->run ws st i=some y
 | [],_,_,_,h=>h
 | w::ws,st,i,y,h=>dP (ws:=ws) (nQ h)
theorem jb:∀ {ws:List W3}{st:Fn}{i:Nat}{t:Int},run ws st i=some t->st i=none->∃ x∈ws,x.o=i/\x.t=t/\∃ y,run ws st x.g=some y/\y < t
 | [],st,i,t,h,h0=>by
  have:st i=some t:=h;rw [h0] at this;cases this
 | w::ws,st,i,t,h,h0=>by
  have h':run ws (aH st w) i=some t:=h;cases e:aH st w i with
  | none=>
   obtain ⟨x,hx,a,b,y,hy,lt⟩:=jb h' e;exact ⟨x,.tail _ hx,a,b,y,hy,lt⟩
  | some z=>
   have z':=dP (ws:=ws) e;rw [h'] at z';cases z';unfold aH at e;split at e
   ·rename_i c;by_cases io:i=w.o
    ·subst io;rw [wt] at e;cases e;obtain ⟨y,hy,lt⟩:=aL.mp c.2;exact ⟨w,.head _,rfl,rfl,y,dP (ws:=w::ws) hy,lt⟩
    ·rw [wn io,h0] at e;cases e
   ·rw [h0] at e;cases e
theorem mV:∀ {ws:List W3}{st:Fn},(∀ x∈ws,x.g≠x.o)->ws.Pairwise (λa b=>a.t<=b.t)->(∀ x∈ws,∀ i y,st i=some y->y<=x.t\/∀ j,st j≠none->j=i) ->
  ∀ x∈ws,∀ y,run ws st x.g=some y->y < x.t->∃ e,run ws st x.o=some e/\e<=x.t
 | w::ws,st,ne,pw,hs,x,hx,y,hy,lt=>by
  obtain ⟨p1,p2⟩:=List.pairwise_cons.mp pw;rcases zN.mp hx with rfl | hx
  ·cases e:st x.g with
   | none=>
    obtain ⟨z,hz,a,b,_⟩:=jb (ws:=x::ws) hy e;rcases zN.mp hz with rfl | hz
    ·exact absurd a.symm (ne z (.head _))
    ·have:=p1 z hz;omega
   | some z=>
    have:=dP (ws:=x::ws) e;rw [hy] at this;cases this;cases eo:st x.o with
    | none=>
     refine ⟨x.t,?_,ze _⟩;show run ws (aH st x) x.o=some x.t;refine dP ?_;unfold aH;rw [if_pos ⟨eo,aL.mpr ⟨y,e,lt⟩⟩,wt]
    | some z=>
     refine ⟨z,dP (ws:=x::ws) eo,?_⟩;rcases hs x (.head _) _ _ eo with q | q
     ·exact q
     ·exact absurd (q x.g (by rw [e];simp)) (ne x (.head _))
  ·refine mV (ws:=ws) (st:=aH st w) (λa ha=>ne a (.tail _ ha)) p2 (λa ha i z hz=>?_) x hx y hy lt;have base:∀ i y,st i=some y->y<=w.t\/∀ j,st j≠none->j=i:=hs w (.head _);rcases NG (x:=w) base (ne w (.head _)) i z hz with q | q
   ·exact .inl (xD q (p1 a ha))
   ·exact .inr q
theorem sy:∀ {ms:List M4},ms.Pairwise (λa b=>a.t<=b.t)->(aB ms).Pairwise (λa b=>a.t<=b.t)
 | [],_=>.nil
 | m::ms,h=>by
  obtain ⟨h1,h2⟩:=List.pairwise_cons.mp h;have e:aB (m::ms)=two m++aB ms:=by unfold aB;rw [List.flatMap_cons]
  rw [e,List.pairwise_append];refine ⟨?_,sy h2,λa ha b hb=>?_⟩
  ·unfold two;refine .cons (λx hx=>?_) (List.pairwise_singleton _ _);cases zJ.mp hx;exact ze _
  ·have ta:a.t=m.t:=by
    unfold two at ha;simp only [zN,yZ,or_false] at ha;rcases ha with rfl | rfl <;> rfl
   unfold aB at hb;obtain ⟨r,hr,hx⟩:=yz.mp hb;have tb:b.t=r.t:=by
    unfold two at hx;simp only [zN,yZ,or_false] at hx;rcases hx with rfl | rfl <;> rfl
   rw [ta,tb];exact h1 r hr
structure YI (w:Nat) (ws:List W3) (s:Nat) (x:Int) (E:Fn):Prop where
 self:E s=some x
 abg:∀ i t,i≠s->E i=some t->∃ a∈ws,a.o=i/\a.t=t/\∃ y,E a.g=some y/\y < t
 om:∀ a∈ws,∀ y,E a.g=some y->y < a.t->∃ e,E a.o=some e/\e<=a.t
 inside:∀ a∈ws,a.g < w/\a.o < w
theorem ko {n s:Nat}{x:Int}{ms:List M4}(g:Good n ms):YI n (aB ms) s x (fwd ms (av s x)):=by
 refine ⟨?_,λi t ne h=>?_,?_,λa ha=>?_⟩
 ·exact dP (ws:=aB ms) (by simp [av])
 ·exact jb (ws:=aB ms) h (by simp [av,ne])
 ·refine mV (λa ha=>(dG g ha).2.2.2.2) (sy g.ord.2) (λa ha i y h=>.inr λj hj=>?_);unfold av at h hj;by_cases e:i=s
  ·by_cases e':j=s
   ·rw [e,e']
   ·rw [if_neg e'] at hj;exact absurd rfl hj
  ·rw [if_neg e] at h;cases h
 ·obtain ⟨a1,a2,_⟩:=dG g ha;omega
def pO (n:Nat)(E:Fn)(t:Int):Nat:=(List.range n).countP λj=>below (E j) t
end Sm
namespace L2
open PySem PySem.Spec PyProof.Rows
section
variable {X:Cx}{ai:List (Addr×Obj)}{σ:St}{H:Hp}{s:Shared}
theorem Inv.keptAll {m:Str->Option Value}{h':Heap}{tk:Nat}(I:Inv X ai σ H s)(F0:Fr X.base X.env.locals s.heap m)(F:Fr X.base X.env.locals h' m)
  (N:News X.base X.env.locals h' (fZ X.base s.heap X.env.locals)):Inv X ai σ H { s with heap:=h',toks:=tk }:=by
 have keep:∀ b o,b≠X.env.locals->s.heap.get? b=some o->h'.get? b=some o:=λb o hb e=>by
  cases q:X.base.get? b with
  | some u=>
   have:=I.bk b u q;rw [e] at this;cases this;exact F.keep b _ q
  | none=>exact (N (b,o) (cW hb q e)).1
 refine I.step (g':=s.gens) (t':=tk) (d':=s.drawn) (ch:=[]) (λ_ z=>nomatch z) (λb o hb _ _ e _=>keep b o hb e) (λb o hb _ _ e _=>⟨o.slots,keep b o hb e⟩) (λb o _ e n=>n) (λb o _ e=>?_)
  (λb ys e=>e) (λb o u e=>e) (λb ps e=>⟨#[],by rw [e,Array.append_empty]⟩) (λm' hm=>?_) (λb u e=>?_) I.bare
 ·by_cases hb:b=X.env.locals
  ·obtain ⟨o',_,_,q,_⟩:=F.ns;exact ⟨o',by rw [hb];exact q⟩
  ·exact ⟨o,keep b o hb e⟩
 ·obtain ⟨o1,es1,ep1,e1,d1,k1,f1⟩:=hm;obtain ⟨o2,es2,ep2,e2,d2,k2,f2⟩:=F0.ns;rw [e1] at e2;cases e2;rw [d1] at d2;cases d2;obtain ⟨o3,Ye,Yg,e3,d3,k3,f3⟩:=F.ns;exact ⟨o3,Ye,Yg,e3,d3,k3,λname=>(f3 name).trans ((f2 name).symm.trans (f1 name))⟩
 ·refine (I.aR b u e).dN (λc v hc q=>keep c v (λz=>?_) q) (λc q=>q) λc ys q=>q;rcases hc with rfl | hc
  ·rw [z,I.free] at e;cases e
  ·rw [z,I.free] at hc;cases hc
theorem ux:∀ {bs:List Bool}{us:List Value},Vals (bs.map V.bl) us->LSm.BoolsAre us bs
 | [],us,r=>by cases r;exact .nil
 | b::bs,us,r=>by
  cases r with
  | cons x y=>
   cases x;exact .cons b (ux y)
theorem Qt {K:PySem.W.Frag}(hK:X.K=K)(hc:X.calm=true):fj X (.builtin "all") (λxs H Q=>∃ p,∃ bs:List Bool,xs=[.ref p]/\aG K H p (bs.map V.bl)/\Q (.bl (bs.all id)) H):=by subst hK;intro ai s σ H xs us Q I r h;obtain ⟨p,bs,rfl,hq,q⟩:=h;obtain ⟨u,rfl,rx⟩:=vals1 r;cases rx;obtain ⟨az,r',pl,hz⟩:=I.list hq;obtain ⟨m,F⟩:=I.fr;exact LSm.all_bools F (ni (g:=X.base) (h:=s.heap)) (I.ok.hd hc) pl.isList (ux r') λh' tk F' N'=>⟨.bl _,H,I.keptAll F F' N',rfl,q⟩
end
end L2
namespace Sm
open PySem L2 aQ
def bO (ms:List M4)(n g o:Nat)(t:Int):Prop:=∃ m,ms[n]?=some m/\m.t=t/\((m.lo.toNat=g/\m.hi.toNat=o)\/(m.lo.toNat=o/\m.hi.toNat=g))
theorem fR {ms:List M4}:∀ {i:Nat}{x:W4},x∈dJ ms i->bO ms x.n x.w.g x.w.o x.w.t
 | 0,x,h=>by cases h
 | i + 1,x,h=>by
  unfold dJ at h;rcases zT.mp h with h | h
  ·exact fR h
  ·cases e:ms[i]? with
   | none=>rw [e] at h;cases h
   | some m=>
    rw [e] at h;simp only [zN,yZ,or_false] at h;rcases h with rfl | rfl
    ·exact ⟨m,e,rfl,.inl ⟨rfl,rfl⟩⟩
    ·exact ⟨m,e,rfl,.inr ⟨rfl,rfl⟩⟩
def pe (ms:List M4)(k:Nat)(f:Fn)(kvs:List (Key×V))(H:Hp):Prop:=
 ∀ o t,f o=some t->o=k\/∃ tt n g y,cU kvs (Sum.inl (o:Int))=some (.ref tt)/\H tt=some (.tup [.int ((n:Nat):Int),.int ((g:Nat):Int)])/\bO ms n g o t/\f g=some y/\y < t
theorem pe.aT {ms:List M4}{k:Nat}{f:Fn}{kvs:List (Key×V)}{H H':Hp}(c:pe ms k f kvs H)(t:bM H H'):pe ms k f kvs H':=λo x h=>by
 rcases c o x h with e | ⟨tt,n,g,y,a1,a2,a3,a4,a5⟩
 ·exact .inl e
 ·exact .inr ⟨tt,n,g,y,a1,t _ _ a2,a3,a4,a5⟩
theorem pe.step {ms:List M4}{k:Nat}{f:Fn}{kvs:List (Key×V)}{H:Hp}{tt:Addr}{x:W4}(c:pe ms k f kvs H)(ho:f x.w.o=none)(hb:below (f x.w.g) x.w.t=true)(hl:bO ms x.n x.w.g x.w.o x.w.t)
  (ht:H tt=some (.tup [.int (x.n:Int),.int (x.w.g:Int)])):pe ms k (put f x.w.o (some x.w.t)) (putK kvs (Sum.inl (x.w.o:Int)) (.ref tt)) H:=λo t h=>by
 have keep:∀ g y,f g=some y->put f x.w.o (some x.w.t) g=some y:=λg y e=>by rw [wn λz=>by rw [z,ho] at e;cases e];exact e
 by_cases e:o=x.w.o
 ·subst e;rw [wt] at h;cases h;obtain ⟨y,hy,lt⟩:=aL.mp hb;exact .inr ⟨tt,x.n,x.w.g,y,by rw [mK,if_pos rfl],ht,hl,keep _ _ hy,lt⟩
 ·rw [wn e] at h;rcases c o t h with e' | ⟨t2,n,g,y,a1,a2,a3,a4,a5⟩
  ·exact .inl e'
  ·refine .inr ⟨t2,n,g,y,?_,a2,a3,keep _ _ a4,a5⟩;rw [mK,if_neg λz=>e (by have:=Sum.inl.inj z;omega)];exact a1
def OH:Sp:=λvs H Q _=>∃ b,∃ k:Nat,∃ x ah tr tm ps,vs=[.ref b,.int k,.int x]/\aM H b ah tr tm ps/\ah.length<=1000/\Good ah.length (ps.map (·.2))/\∀ t l d kvs H',H l=none->ay H H'->H' t=some (.tup [.ref l,.ref d])->H' l=some (.lst ((rep ah.length (fwd (ps.map (·.2)) (av k x))).map oV))->H' d=some (.dK kvs)->pe (ps.map (·.2)) k (fwd (ps.map (·.2)) (av k x)) kvs H'->Q (.ref t) H'
def cG (ms:List M4):Nat->Int->Int->List Int->Option (Nat×Int)
 | v,t,_,[]=>some (v,t)
 | v,t,a,n::ns=>match ms[n.toNat]? with
  | none=>none
  | some m=>if a < n/\0<=n/\(v=m.lo.toNat\/v=m.hi.toNat)/\t < m.t then cG ms (if v=m.lo.toNat then m.hi.toNat else m.lo.toNat) m.t n ns else none
theorem pB {ms:List M4}{n g o:Nat}{y t a:Int}{ns:List Int}(h:bO ms n g o t)(ne:g≠o)(lt:y < t)(ha:a < n):cG ms g y a ((n:Int)::ns)=cG ms o t n ns:=by
 obtain ⟨m,hm,rfl,h⟩:=h
 conv=>lhs;unfold cG
 rw [show ((n:Int)).toNat=n from by simp,hm];dsimp only;rcases h with ⟨rfl,rfl⟩ | ⟨rfl,rfl⟩
 ·rw [if_pos ⟨ha,by omega,.inl rfl,lt⟩,if_pos rfl]
 ·rw [if_pos ⟨ha,by omega,.inr rfl,lt⟩,if_neg λz=>ne z]
theorem bM.Wt {l:Addr}{H:Hp}{kvs:List (Key×V)}{o:HO}(h:H l=some (.dK kvs)):bM H (upd H l o):=λb u e=>by rw [xl (wU e h (by intro z;cases z))];exact e
theorem P0 {ms:List M4}(o:ms.Pairwise λa b=>a.t<=b.t){i j:Nat}{a b:M4}(hi:ms[i]?=some a)(hj:ms[j]?=some b)(lt:a.t < b.t):i < j:=by
 obtain ⟨h1,e1⟩:=zB.mp hi;obtain ⟨h2,e2⟩:=zB.mp hj;rcases Nat.lt_trichotomy i j with h | h | h
 ·exact h
 ·subst h;rw [e1] at e2;rw [e2] at lt;omega
 ·have:=z4.mp o j i h2 h1 h;rw [e1,e2] at this;omega
def mu (n:Nat)(E:Fn)(σ:St):Nat:=match σ[9]? with
 | some (some (V.int v))=>(match E v.toNat with
  | some e=>pO n E e
  | none=>0)
 | _=>0
theorem Rz {n:Nat}{E:Fn}{g:Nat}{y t:Int}(hg:g < n)(hy:E g=some y)(lt:y < t):pO n E y < pO n E t:=
 ku (λj hj=>by
  obtain ⟨z,hz,l⟩:=aL.mp hj;exact aL.mpr ⟨z,hz,by omega⟩) (zo.mpr hg) (by
   cases c:below (E g) y with
   | false=>rfl
   | true=>
    obtain ⟨z,hz,l⟩:=aL.mp c;rw [hy] at hz;cases hz;omega) (aL.mpr ⟨y,hy,lt⟩)
theorem RA (n:Nat)(E:Fn)(t:Int):pO n E t<=n:=by unfold pO;have:=List.countP_le_length (p:=λj=>below (E j) t) (l:=List.range n);rw [List.length_range] at this;exact this
theorem bO.inside {n g o w:Nat}{t:Int}{ms:List M4}(g0:Good w ms)(h:bO ms n g o t):g < w/\o < w/\g≠o:=by obtain ⟨m,hm,_,h⟩:=h;obtain ⟨a1,a2,a3,_⟩:=g0.each m (zC hm);rcases h with ⟨rfl,rfl⟩ | ⟨rfl,rfl⟩ <;> omega
def ql (H:Hp)(lt:Addr)(n s w:Nat)(a z:Int):Prop:=H lt=some (.tup [.int (s:Int),.int a,.int (w:Int),.int z])/\s < n/\w < n/\0<=a/\a<=1000000000/\0<=z/\z<=1000000000
theorem ql.th {H:Hp}{lt:Addr}{n s w:Nat}{a z:Int}(h:ql H lt n s w a z):Th H (.ref lt) (some [.int (s:Int),.int a,.int (w:Int),.int z]):=.inr ⟨lt,_,rfl,h.1,λe he=>by
 simp only [zN,yZ,or_false] at he;rcases he with rfl | rfl | rfl | rfl <;> exact ⟨_,rfl⟩,rfl⟩
theorem ql.yes {H:Hp}{lt:Addr}{n s w:Nat}{a z:Int}(h:ql H lt n s w a z):isLet n (some [.int (s:Int),.int a,.int (w:Int),.int z])=true:=by obtain ⟨_,h1,h2,h3,h4,h5,h6⟩:=h;simp only [isLet,oX,zc,decide_eq_true_eq];omega
def uZ:Sp:=λvs H Q _=>∃ b lt,∃ s w:Nat,∃ a z ah tr tm ps,vs=[.ref b,.ref lt]/\aM H b ah tr tm ps/\ah.length<=1000/\Good ah.length (ps.map (·.2))/\ql H lt ah.length s w a z /\
 (bq (fwd (ps.map (·.2)) (av s a) w) z=false->∀ H',ay H H'->Q .bV H') /\
 (∀ e l ns H',fwd (ps.map (·.2)) (av s a) w=some e->e<=z->H l=none->ay H H'->H' l=some (.lst (List.map V.int ns))->ns.length<=1000->cG (ps.map (·.2)) s a (-1) ns=some (w,e)->Q (.ref l) H')
theorem MJ {ms:List M4}{v:Nat}{t A n:Int}{ns:List Int}{r:Nat×Int}(h:cG ms v t A (n::ns)=some r):∃ m,ms[n.toNat]?=some m/\A < n/\0<=n/\(v=m.lo.toNat\/v=m.hi.toNat)/\t < m.t/\cG ms (if v=m.lo.toNat then m.hi.toNat else m.lo.toNat) m.t n ns=some r:=by
 unfold cG at h;cases e:ms[n.toNat]? with
 | none=>rw [e] at h;cases h
 | some m=>
  rw [e] at h;dsimp only at h;split at h
  ·rename_i c;exact ⟨m,rfl,c.1,c.2.1,c.2.2.1,c.2.2.2,h⟩
  ·cases h
theorem bX.same {H H':Hp}{p:Addr}(h:bX H p)(e:ay H H'):bX H' p:=by obtain ⟨x,y,z,q⟩:=h;exact ⟨x,y,z,e _ _ q⟩
def Mz (ws:List W3)(f:Fn):Bool:=ws.all λx=>!(below (f x.g) x.t) || bq (f x.o) x.t
def MS:Sp:=λvs H Q _=>∃ b,∃ k:Nat,∃ v:Int,∃ ah tr tm ps,∃ m:M4,vs=[.ref b,.int k,.int v]/\aM H b ah tr tm ps/\(ps.map (·.2))[k]?=some m/\Q (.int (if v=m.lo then m.hi else m.lo)) H
def uX:Sp:=λvs H Q _=>∃ b x t ah tr tm ps,vs=[.ref b,x]/\aM H b ah tr tm ps/\qq H x=some t/\Q (.bl (oX 0 ((ps.length:Int) - 1) x)) H
theorem jt {n s:Nat}{x:Int}{ms:List M4}(g:Good n ms):Mz (aB ms) (fwd ms (av s x))=true:=by
 refine yy.mpr λa ha=>?_;cases h:below (fwd ms (av s x) a.g) a.t with
 | false=>rfl
 | true=>
  obtain ⟨y,hy,lt⟩:=aL.mp h;obtain ⟨e,he,le⟩:=(ko (s:=s) (x:=x) g).om a ha y hy lt;rw [aA.mpr ⟨e,he,le⟩];rfl
theorem Qc {a:Int}:∀ {ws:List W3}{st:Fn},(∀ i y,st i=some y->a<=y)->∀ i y,run ws st i=some y->a<=y
 | [],st,h,i,y,e=>h i y e
 | w::ws,st,h,i,y,e=>by
  refine Qc (ws:=ws) (st:=aH st w) (λj z hz=>?_) i y e;unfold aH at hz;split at hz
  ·rename_i c;by_cases ej:j=w.o
   ·rw [ej,wt] at hz;cases hz;obtain ⟨u,hu,lt⟩:=aL.mp c.2;have:=h _ _ hu;omega
   ·rw [wn ej] at hz;exact h j z hz
  ·exact h j z hz
theorem OO {s w:Nat}{a e:Int}{ms:List M4}(h:fwd ms (av s a) w=some e):a<=e:=
 Qc (ws:=aB ms) (λi y e=>by
  unfold av at e;split at e
  ·cases e;exact ze _
  ·cases e) w e h
end Sm
namespace L2
open PySem PySem.Spec PyProof.Rows
section
variable {X:Cx}
end
end L2
namespace Sm
open PySem L2 aQ
theorem oE {α:Type}{xs:List α}{v:α}(h:xs.getLast?=some v):dI xs (-1)=some v:=by
 cases xs with
 | nil=>cases h
 | cons a b=>
  rw [List.getLast?_eq_getElem?] at h;unfold dI;have e:uE (a::b).length (-1)=some ((a::b).length - 1):=by
   unfold uE;simp only [zR];rw [if_neg (by omega)];simp;omega
  rw [e];exact h
def dk (x:Nat×Nat×Int×Int×Int):Nat×Nat×Int×Int:=(x.1,x.2.1,x.2.2.1,x.2.2.2.2)
theorem um (xs:List V)(k:Nat):nZ xs none (some (k:Int))=xs.take k:=by
 unfold nZ;rw [HT.qU];show (xs.drop 0).take (min k xs.length - 0)=xs.take k;rw [List.drop_zero,Nat.sub_zero];by_cases h:k<=xs.length
 ·rw [Nat.min_eq_left h]
 ·rw [Nat.min_eq_right (by omega),yL (zE _),yL (by omega)]
end Sm
namespace L2
open PySem
theorem tU {c:Bool}{A:Prop}{D:Ends}{σ:St}{H:Hp}(Pre:St->Hp->Prop)(k:∀ σ H,Pre σ H->D.nx σ H)(h1:c=true->(∀ σ H,Pre σ H->D.nx σ H)->A)(h2:c=false->Pre σ H):if c=true then A else kQ D σ H:=by
 cases c with
 | true=>exact h1 rfl k
 | false=>exact k _ _ (h2 rfl)
end L2
namespace Sm
open PySem L2 aQ
theorem jO {w:Nat}{ms:List M4}{f:Fn}(g:Good w ms)(cl:Mz (aB ms) f=true):∀ (ns:List Int) (v:Nat) (t A:Int),bq (f v) t=true->∀ v' t',cG ms v t A ns=some (v',t')->bq (f v') t'=true
 | [],v,t,A,h,v',t',e=>by
  have:=Option.some.inj e;obtain ⟨rfl,rfl⟩:=Prod.mk.inj this;exact h
 | n::ns,v,t,A,h,v',t',e=>by
  obtain ⟨m,hm,h1,h2,h3,h4,wk⟩:=MJ e;refine jO g cl ns _ m.t n ?_ v' t' wk;obtain ⟨y,hy,ly⟩:=aA.mp h;have bl:below (f v) m.t=true:=aL.mpr ⟨y,hy,by omega⟩;have mem:∀ x∈two m,(!(below (f x.g) x.t) || bq (f x.o) x.t)=true:=λx hx=>yy.mp cl x (by
   unfold aB;exact yz.mpr ⟨m,zC hm,hx⟩)
  obtain ⟨a1,a2,_⟩:=g.each m (zC hm);rcases h3 with hv | hv
  ·rw [if_pos hv];have:=mem ⟨m.lo.toNat,m.hi.toNat,m.t⟩ (by unfold two;simp);dsimp only at this;rw [<-hv,bl] at this;simpa using this
  ·rw [if_neg (by omega)];have:=mem ⟨m.hi.toNat,m.lo.toNat,m.t⟩ (by unfold two;simp);dsimp only at this;rw [<-hv,bl] at this;simpa using this
theorem So {n s w:Nat}{a e:Int}{ms:List M4}(g:Good n ms)(a9:a<=1000000000)(h:fwd ms (av s a) w=some e):e<=1000000000:=by
 have er:=ko (s:=s) (x:=a) g;by_cases c:w=s
 ·rw [c,er.self] at h;cases h;exact a9
 ·obtain ⟨x,hx,_,ht,_⟩:=er.abg w e c h;unfold aB at hx;obtain ⟨m,hm,hx⟩:=yz.mp hx;obtain ⟨b1,b2,b3,b4,b5,_⟩:=g.each m hm;unfold two at hx;simp only [zN,yZ,or_false] at hx;rcases hx with rfl | rfl <;> (dsimp only at ht;omega)
def cj (row F:Fn)(x:W3):Fn:=if below (row x.g) x.t=true/\bq (F x.o) x.t=false then put F x.o (some x.t) else F
def vz (ws:List W3)(row:Fn):Fn:=ws.foldl (cj row) row
theorem fJ {o:Option Int}{a b:Int}(h:bq o a=true)(l:a<=b):bq o b=true:=by obtain ⟨y,e,ly⟩:=aA.mp h;exact aA.mpr ⟨y,e,by omega⟩
def Le (F G:Fn):Prop:=∀ i y,G i=some y->bq (F i) y=true
theorem Le.refl (F:Fn):Le F F:=λi y h=>aA.mpr ⟨y,h,ze _⟩
theorem Le.trans {F G K:Fn}(a:Le F G)(b:Le G K):Le F K:=λi y h=>by
 obtain ⟨z,e,l⟩:=aA.mp (b i y h);exact fJ (a i z e) l
theorem PU (row F:Fn)(x:W3):Le (cj row F x) F:=λi y h=>by
 unfold cj;split
 ·rename_i c;by_cases e:i=x.o
  ·subst e;rw [wt];have:=c.2;rw [h] at this;have:=of_decide_eq_false this;exact decide_eq_true (by omega)
  ·rw [wn e];exact aA.mpr ⟨y,h,ze _⟩
 ·exact aA.mpr ⟨y,h,ze _⟩
theorem nG (row:Fn):∀ (ws:List W3) (F:Fn),Le (ws.foldl (cj row) F) F
 | [],F=>Le.refl F
 | x::ws,F=>(nG row ws (cj row F x)).trans (PU row F x)
theorem kj (ws:List W3)(row:Fn):Le (vz ws row) row:=nG row ws row
theorem p6 (row:Fn):∀ (ws:List W3) (F:Fn) (x:W3),x∈ws->below (row x.g) x.t=true->bq (ws.foldl (cj row) F x.o) x.t=true
 | w::ws,F,x,hx,hb=>by
  rcases zN.mp hx with rfl | hx
  ·have:bq (cj row F x x.o) x.t=true:=by
    unfold cj;by_cases u:bq (F x.o) x.t=true
    ·rw [if_neg (by rw [u];simp)];exact u
    ·rw [if_pos ⟨hb,by simpa using u⟩,wt];exact decide_eq_true (ze _)
   obtain ⟨y,e,l⟩:=aA.mp this;exact fJ (nG row ws (cj row F x) x.o y e) l
  ·exact p6 row ws (cj row F w) x hx hb
theorem Mf {ws:List W3}{row:Fn}{x:W3}(hx:x∈ws)(hb:below (row x.g) x.t=true):bq (vz ws row x.o) x.t=true:=p6 row ws row x hx hb
theorem nI (row:Fn):∀ (ws:List W3) (F:Fn) (i:Nat) (y:Int),ws.foldl (cj row) F i=some y->F i=some y\/∃ x∈ws,x.o=i/\x.t=y/\below (row x.g) y=true
 | [],F,i,y,h=>.inl h
 | w::ws,F,i,y,h=>by
  rcases nI row ws (cj row F w) i y h with h | ⟨x,hx,r⟩
  ·unfold cj at h;split at h
   ·rename_i c;by_cases e:i=w.o
    ·subst e;rw [wt] at h;cases h;exact .inr ⟨w,.head _,rfl,rfl,c.1⟩
    ·rw [wn e] at h;exact .inl h
   ·exact .inl h
  ·exact .inr ⟨x,.tail _ hx,r⟩
theorem nJ {ws:List W3}{row:Fn}{i:Nat}{y:Int}(h:vz ws row i=some y):row i=some y\/∃ x∈ws,x.o=i/\x.t=y/\below (row x.g) y=true:=nI row ws row i y h
def bf (ws:List W3)(row:Fn):Nat->Fn
 | 0=>row
 | k + 1=>vz ws (bf ws row k)
def rk (ws:List W3):Option Int->Nat
 | none=>ws.length + 1
 | some y=>ws.countP λx=>decide (x.t < y)
theorem pN {ws:List W3}{x:W3}(hx:x∈ws){o:Option Int}(h:bq o x.t=false):rk ws (some x.t) < rk ws o:=by
 cases o with
 | none=>
  show ws.countP _ < ws.length + 1;exact Nat.lt_succ_of_le List.countP_le_length
 | some y=>
  have lt:x.t < y:=by have:=of_decide_eq_false h;omega
  show ws.countP (λw=>decide (w.t < x.t)) < ws.countP (λw=>decide (w.t < y));induction ws with
  | nil=>cases hx
  | cons w ws ih=>
   rw [List.countP_cons,List.countP_cons];have mono:ws.countP (λw=>decide (w.t < x.t))<=ws.countP (λw=>decide (w.t < y)):=List.countP_mono_left λw _ h=>decide_eq_true (by have:=of_decide_eq_true h;omega);rcases zN.mp hx with rfl | hx
   ·rw [if_neg (by simp),if_pos (decide_eq_true lt)];omega
   ·have:=ih hx;by_cases c:w.t < x.t
    ·rw [if_pos (decide_eq_true c),if_pos (decide_eq_true (by omega))];omega
    ·rw [if_neg (by simpa using c)];split <;> omega
theorem WA {ws:List W3}{o o':Option Int}(h:∀ y,o'=some y->bq o y=true):rk ws o<=rk ws o':=by
 cases o' with
 | none=>
  cases o with
  | none=>exact zE _
  | some y=>exact Nat.le_succ_of_le List.countP_le_length
 | some y=>
  obtain ⟨z,rfl,l⟩:=aA.mp (h y rfl);exact List.countP_mono_left λw _ h=>decide_eq_true (by have:=of_decide_eq_true h;omega)
def Nf (ws:List W3)(n:Nat)(F:Fn):Nat:=((List.range n).map λi=>rk ws (F i)).sum
theorem TL {n:Nat}{f g:Nat->Nat}(le:∀ i,i < n->f i<=g i){k:Nat}(hk:k < n)(lt:f k < g k):((List.range n).map f).sum < ((List.range n).map g).sum:=by
 induction n with
 | zero=>omega
 | succ n ih=>
  rw [xI,zD,zD,yJ,yJ];have mono:((List.range n).map f).sum<=((List.range n).map g).sum:=by
   clear ih hk lt;induction n with
   | zero=>exact zE _
   | succ n ih2=>
    rw [xI,zD,zD,yJ,yJ];have:=ih2 λi hi=>le i (by omega);have:=le n (by omega);simp only [zZ,yG,xK,xQ];omega
  simp only [zZ,yG,xK,xQ];by_cases e:k=n
  ·subst e;omega
  ·have:=ih (λi hi=>le i (by omega)) (by omega);have:=le n (by omega);omega
theorem Us {ws:List W3}{n:Nat}{F:Fn}{k:Nat}(hk:k < n)(ne:vz ws F k≠F k):Nf ws n (vz ws F) < Nf ws n F:=by
 refine TL (λi _=>WA λy h=>kj ws F i y h) hk ?_;cases e:vz ws F k with
 | none=>
  cases e2:F k with
  | none=>exact absurd (e.trans e2.symm) ne
  | some y=>have:=kj ws F k y e2;rw [e] at this;cases this
 | some y=>
  rcases nJ e with h | ⟨x,hx,rfl,rfl,hb⟩
  ·exact absurd (e.trans h.symm) ne
  ·refine pN hx ?_;cases e2:F x.o with
   | none=>rfl
   | some z=>
    have:=kj ws F x.o z e2;rw [e] at this;have le:x.t<=z:=of_decide_eq_true this;have:x.t≠z:=λh=>ne (by rw [e,e2,h]);exact decide_eq_false (by omega)
theorem RY (ws:List W3)(n:Nat)(F:Fn):Nf ws n F<=n * (ws.length + 1):=by
 unfold Nf;induction n with
 | zero=>simp
 | succ n ih=>
  rw [xI,zD,yJ,Nat.succ_mul];simp only [zZ,yG,xK,xQ];have:rk ws (F n)<=ws.length + 1:=by
   cases F n with
   | none=>exact zE _
   | some y=>exact Nat.le_succ_of_le List.countP_le_length
  omega
def Rv:Sp:=λvs H Q _=>∃ b la ah tr tm ps,∃ f:Fn,vs=[.ref b,.ref la]/\aM H b ah tr tm ps/\ah.length<=1000/\Good ah.length (ps.map (·.2))/\H la=some (.lst ((rep ah.length f).map oV))/\∀ l H',H l=none->ay H H'->H' l=some (.lst ((rep ah.length (vz (aB (ps.map (·.2))) f)).map oV))->Q (.ref l) H'
structure Rows (H0 H:Hp) (ms:List M4) (n k:Nat) (x:Int) (as:List Addr):Prop where
 pos:as≠[]
 lC:as.length<=200000
 at':∀ (i:Nat) (a:Addr),as[i]?=some a->H0 a=none/\H a=some (.lst ((rep n (bf (aB ms) (av k x) i)).map oV))
 ne:∀ i,i + 1 < as.length->rep n (bf (aB ms) (av k x) (i + 1))≠rep n (bf (aB ms) (av k x) i)
 last:rep n (bf (aB ms) (av k x) as.length)=rep n (bf (aB ms) (av k x) (as.length - 1))
def OC:Sp:=λvs H Q _=>∃ b,∃ k:Nat,∃ x ah tr tm ps,vs=[.ref b,.int k,.int x]/\aM H b ah tr tm ps/\ah.length<=1000/\Good ah.length (ps.map (·.2))/\∀ l as H',H l=none->ay H H'->H' l=some (.lst (as.map V.ref))->Rows H H' (ps.map (·.2)) ah.length k x as->Q (.ref l) H'
end Sm
namespace L2
open PySem PySem.Spec PyProof.Rows
section
variable {K:PySem.W.Frag}{a:Addr}{xs:List V}{n:Nat}{caps:List Nat}{g:TG}{tc:TT}{te:TE}{σ:St}{H:Hp}{Qf:Addr->Hp->List V->Prop}
end
end L2
namespace Sm
open PySem L2 aQ
theorem R8 {n:Nat}{ms:List M4}(g:Good n ms){row:Fn}{i:Nat}(hi:n<=i):vz (aB ms) row i=row i:=by
 cases e:vz (aB ms) row i with
 | none=>
  cases e2:row i with
  | none=>rfl
  | some y=>have:=kj (aB ms) row i y e2;rw [e] at this;cases this
 | some y=>
  rcases nJ e with h | ⟨x,hx,rfl,_⟩
  ·exact h.symm
  ·obtain ⟨g1,g2,g3,g4,g5⟩:=dG g hx;omega
end Sm
namespace Sm
open PySem L2
end Sm
namespace Sm
open PySem L2 aQ
theorem ng:∀ (n:Nat) (vs:List Nat),vs.Nodup->(∀ v∈vs,v < n)->vs.length<=n
 | 0,vs,_,h=>by
  cases vs with
  | nil=>exact zE _
  | cons v vs=>exact absurd (h v (.head _)) (yI _)
 | n + 1,vs,nd,h=>by
  by_cases hn:n∈vs
  ·have ih:=ng n (vs.erase n) (nd.erase n) λv hv=>by
    have:=(List.Nodup.mem_erase_iff nd).mp hv;have:=h v this.2;omega
   rw [List.length_erase_of_mem hn] at ih;omega
  ·have:=ng n vs nd λv hv=>by
    have:=h v hv;have:v≠n:=λe=>hn (e ▸ hv);omega
   omega
def jC (ws:List W3)(r:Fn)(i v:Nat)(T:Int):Prop:=bf ws r i v=some T/\(i=0\/bq (bf ws r (i - 1) v) T=false)
theorem jC.back {ws:List W3}{r:Fn}{i v:Nat}{T:Int}(h:jC ws r (i + 1) v T):∃ x∈ws,x.o=v/\x.t=T/\∃ y,y < T/\jC ws r i x.g y:=by
 obtain ⟨h1,h2⟩:=h;have h2:bq (bf ws r i v) T=false:=h2.resolve_left (by omega);rcases nJ h1 with h | ⟨x,hx,rfl,rfl,hb⟩
 ·rw [h] at h2;exact absurd (of_decide_eq_false h2) (by omega)
 ·obtain ⟨y,hy,lt⟩:=aL.mp hb;refine ⟨x,hx,rfl,rfl,y,lt,hy,?_⟩;cases i with
  | zero=>exact .inl rfl
  | succ i=>
   refine .inr ?_;cases e:bq (bf ws r i x.g) y with
   | false=>exact e
   | true=>
    obtain ⟨z,hz,lz⟩:=aA.mp e;have:bq (vz ws (bf ws r i) x.o) x.t=true:=Mf hx (aL.mpr ⟨z,hz,by omega⟩);exact absurd (h2.symm.trans this) (by decide)
theorem jC.lC {n:Nat}{ms:List M4}(g:Good n ms){r:Fn}:∀ {i v:Nat}{T:Int},v < n->jC (aB ms) r i v T->∃ vs:List Nat,vs.length=i + 1/\vs.Nodup/\∀ u∈vs,u < n/\bq (bf (aB ms) r i u) T=true
 | 0,v,T,hv,h=>⟨[v],rfl,by simp,λu hu=>by
   cases zJ.mp hu;exact ⟨hv,aA.mpr ⟨T,h.1,ze _⟩⟩⟩
 | i + 1,v,T,hv,h=>by
  obtain ⟨x,hx,rfl,rfl,y,lt,hn⟩:=h.back;obtain ⟨g1,g2,_⟩:=dG g hx;obtain ⟨vs,l,nd,al⟩:=jC.lC g (by omega) hn;refine ⟨x.o::vs,by rw [zR,l],yW.mpr ⟨λhm=>?_,nd⟩,λu hu=>?_⟩
  ·have:=fJ (al _ hm).2 (Int.le_of_lt lt);exact absurd ((h.2.resolve_left (by omega)).symm.trans this) (by decide)
  ·rcases zN.mp hu with rfl | hu
   ·exact ⟨hv,aA.mpr ⟨_,h.1,ze _⟩⟩
   ·obtain ⟨a1,a2⟩:=al u hu;obtain ⟨z,hz,lz⟩:=aA.mp a2;exact ⟨a1,fJ (kj (aB ms) _ u z hz) (by omega)⟩
theorem Pp {ws:List W3}{r:Fn}{m w:Nat}{z:Int}(h:bq (bf ws r m w) z=true)(least:∀ i,i < m->bq (bf ws r i w) z=false):∃ T,T<=z/\jC ws r m w T:=by
 obtain ⟨T,hT,le⟩:=aA.mp h;refine ⟨T,le,hT,?_⟩;cases m with
 | zero=>exact .inl rfl
 | succ m=>
  refine .inr ?_;cases e:bq (bf ws r m w) T with
  | false=>exact e
  | true=>exact absurd ((least m (by omega)).symm.trans (fJ e le)) (by decide)
theorem Ve {n m w:Nat}{z:Int}{ms:List M4}(g:Good n ms){r:Fn}(hw:w < n)(h:bq (bf (aB ms) r m w) z=true)(least:∀ i,i < m->bq (bf (aB ms) r i w) z=false):m < n:=by obtain ⟨T,_,hN⟩:=Pp h least;obtain ⟨vs,l,nd,al⟩:=hN.lC g hw;have:=ng n vs nd λv hv=>(al v hv).1;omega
theorem Nt {n k m:Nat}{x:Int}{ms:List M4}(g:Good n ms)(h:rep n (bf (aB ms) (av k x) (m + 1))=rep n (bf (aB ms) (av k x) m)):∀ i,m<=i->bf (aB ms) (av k x) i=bf (aB ms) (av k x) m:=by
 have fx:vz (aB ms) (bf (aB ms) (av k x) m)=bf (aB ms) (av k x) m:=funext λi=>by
  by_cases hi:i < n
  ·exact OU.mp h i hi
  ·exact R8 g (xP hi)
 intro i hi;induction i with
 | zero=>rw [show m=0 by omega]
 | succ i ih=>
  rcases xR i m with l | l
  ·rw [show m=i + 1 by omega]
  ·show vz (aB ms) (bf (aB ms) (av k x) i)=_;rw [ih l,fx]
def Te (ms:List M4)(s:Nat)(a:Int)(w:Nat)(z:Int)(m:Nat):Prop:=bq (bf (aB ms) (av s a) m w) z=true/\∀ i,i < m->bq (bf (aB ms) (av s a) i w) z=false
theorem bO.turn {ms:List M4}{n g o:Nat}{t:Int}(h:bO ms n g o t):bO ms n o g t:=by obtain ⟨m,a,b,c⟩:=h;exact ⟨m,a,b,c.symm⟩
theorem Od {ms:List M4}{x:W3}(h:x∈aB ms):∃ n,bO ms n x.g x.o x.t:=by rw [<-jM] at h;obtain ⟨y,hy,rfl⟩:=zO.mp h;exact ⟨y.n,fR hy⟩
theorem pA {ms:List M4}{n:Nat}{m:M4}(hm:ms[n]?=some m):∀ i,n < i->(⟨n,⟨m.lo.toNat,m.hi.toNat,m.t⟩⟩:W4)∈dJ ms i/\(⟨n,⟨m.hi.toNat,m.lo.toNat,m.t⟩⟩:W4)∈dJ ms i
 | 0,h=>absurd h (yI _)
 | i + 1,h=>by
  unfold dJ;rcases xR n i with l | l
  ·have:=pA hm i l;exact ⟨zY _ this.1,zY _ this.2⟩
  ·have e:n=i:=by omega
   subst e;rw [hm];exact ⟨zI _ (.head _),zI _ (.tail _ (.head _))⟩
theorem R4 {ms:List M4}{n g o:Nat}{t:Int}(h:bO ms n g o t):(⟨n,⟨g,o,t⟩⟩:W4)∈dJ ms ms.length:=by
 obtain ⟨m,hm,rfl,h⟩:=h;have:=pA hm ms.length (zB.mp hm).1;rcases h with ⟨rfl,rfl⟩ | ⟨rfl,rfl⟩
 ·exact this.1
 ·exact this.2
theorem bO.uniq {w:Int}{ms:List M4}(gd:Good w ms){n n' v g g':Nat}{t:Int}(h:bO ms n v g t)(h':bO ms n' v g' t):n=n':=by
 obtain ⟨m,hm,e,c⟩:=h;obtain ⟨m',oR,e',c'⟩:=h';have key:∀ (a b:M4),a∈ms->b∈ms->apart a b->(a.lo.toNat=v\/a.hi.toNat=v)->(b.lo.toNat=v\/b.hi.toNat=v)->False:=λa b ha hb ap ca cb=>by
  obtain ⟨a1,a2,_⟩:=gd.each a ha;obtain ⟨b1,b2,_⟩:=gd.each b hb;obtain ⟨p1,p2,p3,p4⟩:=ap;rcases ca with ca | ca <;> rcases cb with cb | cb <;> omega
 have cm:m.lo.toNat=v\/m.hi.toNat=v:=by rcases c with c | c;exact .inl c.1;exact .inr c.2
 have cm':m'.lo.toNat=v\/m'.hi.toNat=v:=by rcases c' with c | c;exact .inl c.1;exact .inr c.2
 obtain ⟨l,el⟩:=zB.mp hm;obtain ⟨l',el'⟩:=zB.mp oR;rcases Nat.lt_trichotomy n n' with lt | q | lt
 ·have:=z4.mp gd.order n n' l l' lt;rw [el,el'] at this;rcases this with h | ⟨_,_,ap⟩
  ·omega
  ·exact (key m m' (zC hm) (zC oR) ap cm cm').elim
 ·exact q
 ·have:=z4.mp gd.order n' n l' l lt;rw [el,el'] at this;rcases this with h | ⟨_,_,ap⟩
  ·omega
  ·exact (key m' m (zC oR) (zC hm) ap cm' cm).elim
theorem bO.other {w:Int}{ms:List M4}(gd:Good w ms){n v g:Nat}{t:Int}{m:M4}(h:bO ms n v g t)(hm:ms[n]?=some m):(if (v:Int)=m.lo then m.hi else m.lo)=(g:Int):=by
 obtain ⟨m',oR,_,c⟩:=h;rw [hm] at oR;cases oR;obtain ⟨a1,a2,_⟩:=gd.each m (zC hm);rcases c with ⟨c1,c2⟩ | ⟨c1,c2⟩
 ·rw [if_pos (by omega)];omega
 ·rw [if_neg (by omega)];omega
def OE:Sp:=λvs H Q _=>∃ b,∃ v n g:Nat,∃ t ah tr tm ps,vs=[.ref b,.int v,.int t]/\aM H b ah tr tm ps/\Good ah.length (ps.map (·.2))/\bO (ps.map (·.2)) n v g t/\∀ H',ay H H'->Q (.int n) H'
def OM:Sp:=λvs H Q _=>∃ b l,∃ w s m:Nat,∃ a t ah tr tm ps,∃ as:List Addr,vs=[.ref b,.ref l,.int w]/\aM H b ah tr tm ps/\Good ah.length (ps.map (·.2))/\w < ah.length/\m<=1000/\H l=some (.lst (as.map V.ref))/\as.length=m /\
 (∀ (i:Nat) (c:Addr),as[i]?=some c->H c=some (.lst ((rep ah.length (bf (aB (ps.map (·.2))) (av s a) (i + 1))).map oV)))/\jC (aB (ps.map (·.2))) (av s a) m w t /\
 ∀ lr cs H',H lr=none->ay H H'->H' lr=some (.lst (List.map V.int cs))->cs.length=m->cG (ps.map (·.2)) s a (-1) cs=some (w,t)->Q (.ref lr) H'
def Rr:Sp:=λvs H Q _=>∃ b lt,∃ s w:Nat,∃ a z ah tr tm ps,vs=[.ref b,.ref lt]/\aM H b ah tr tm ps/\ah.length<=1000/\Good ah.length (ps.map (·.2))/\ql H lt ah.length s w a z /\
 ((∀ i,bq (bf (aB (ps.map (·.2))) (av s a) i w) z=false)->∀ H',ay H H'->Q .bV H') /\
 ∀ m lr cs e H',Te (ps.map (·.2)) s a w z m->H lr=none->ay H H'->H' lr=some (.lst (List.map V.int cs))->cs.length=m->e<=z->cG (ps.map (·.2)) s a (-1) cs=some (w,e)->Q (.ref lr) H'
theorem Sz (xs:List V)(i:Nat)(h:i < xs.length):nZ xs (some 1) (some ((i:Int) + 1))=(xs.drop 1).take i:=by
 have e:((i:Int) + 1)=((i + 1:Nat):Int):=by omega
 rw [e,show (some (1:Int))=some ((1:Nat):Int) from rfl];unfold nZ;rw [HT.qU,HT.qU];show (xs.drop (min 1 xs.length)).take (min (i + 1) xs.length - min 1 xs.length)=_;rw [Nat.min_eq_left (by omega),Nat.min_eq_left (by omega),Nat.add_sub_cancel]
def again (ms:List M4)(day first:Int):Nat->List M4
 | 0=>[]
 | r + 1=>again ms day first r++ms.map (M4.jk ((first + r) * day))
end Sm
namespace L2
open PySem PySem.Spec PyProof.Rows
def YH (lo c:Int)(n:Nat):It:=⟨λi _=>i < n,λi H x H'=>H'=H/\x=.int (lo + i * c),λi _=>n<=i⟩
theorem sJ {P:Program}{w:World}{K:PySem.W.Frag}{tg:Expr}(it:Addr)(lo c:Int)(n:Nat):Turn P w K tg (YH lo c n) [it] it (λi h=>IsRangeIter h it (lo + (i:Nat) * c) ((n:Int) - (i:Nat)) c) where
 mem:=by simp
 obj:=λi h st b hb=>by
  have e:b=it:=by simpa using hb
  subst e;exact ⟨_,st,λv z=>by
   have z':Data.fields _=Data.cell v:=z;cases z'⟩
 keep:=λi h h' st k=>k it (by simp) _ st
 item:=by
  intro X hP hw hK hc i ai s σ H E I hf st hg;subst hP hw hK;obtain ⟨f0,f1,f2,f3,f4,f5⟩:=hf it (by simp);have W:=Walks.range (prog:=X.prog) (w:=X.w) (I.ok.hd hc) it lo c n;refine W.item i s _ _ hg st λv h' tk hv qu kk=>?_;obtain ⟨t,rfl⟩:=hv;have I1:Inv X ai σ H { s with heap:=h',toks:=tk }:=I.turned (λb o hb e=>kk b o (by simpa using hb) e) f0 f1 f3 f4 f5;exact ⟨_,rfl,Mm (s:={ s with heap:=h',toks:=tk }) (n := "range_iterator") qu rfl rfl (by decide) ⟨.int (lo + i * c),H,I1,⟨t,rfl⟩,⟨rfl,rfl⟩,qu,λb hb=>(hf b hb).1⟩⟩
 done:=by
  intro X hP hw hK hc i ai s σ H E I hf st hg;subst hP hw hK;obtain ⟨f0,f1,f2,f3,f4,f5⟩:=hf it (by simp);exact wpAny_pyNext_range_end (I.ok.hd hc) st (by have:n<=i:=hg;omega) λh' eb=>⟨rfl,I.turned (t':=s.toks) (λb o hb e=>eb b o hb e) f0 f1 f3 f4 f5⟩
 self:=λ_ _ _ _ _ st h=>wpAny_pyIter_rangeiter st h
section
variable {X:Cx}{tg:Expr}
theorem vJ {lo c:Int}{n:Nat}{g:TG}{tb:TS}{D:Ends}{σ:St}{H:Hp}(Pv:Nat->St->Hp->Prop)(h0:Pv 0 σ H)
  (hs:∀ i σ H,i < n->Pv i σ H->g (.int (lo + i * c)) σ H fun lJ H2=>tb (D.lp (Pv (i + 1))) lJ H2) (hd:∀ σ H,Pv n σ H->D.nx σ H) :
  ∃ W:Nat->Nat->St->Hp->Prop,(∃ m,W 0 m σ H)/\∀ i m σ H,W i m σ H ->
   ((YH lo c n).stop i H/\D.nx σ H)\/((YH lo c n).go i H/\∃ N:St->Hp->Prop,(∀ bU H',N bU H'->∃ m',m' < m/\W (i + 1) m' bU H')/\∀ x H',(YH lo c n).LL i H x H'->g x σ H' fun lJ H2=>tb (D.lp N) lJ H2):=by
 refine ⟨λi m σ H=>m=n - i/\i<=n/\Pv i σ H,⟨n,by simp,zX _,h0⟩,?_⟩;rintro i m σ H ⟨rfl,hi,p⟩;by_cases dU:i < n
 ·refine .inr ⟨dU,Pv (i + 1),fun bU H' p'=>⟨n - (i + 1),by omega,rfl,dU,p'⟩,λx H' y=>?_⟩;obtain ⟨e,y⟩:=y;subst e;subst y;exact hs i σ _ dU p
 ·have e:i=n:=by omega
  subst e;exact .inl ⟨zE _,hd σ H p⟩
end
section
variable {X:Cx}
end
end L2
namespace HT
open PySem PySem.Spec PyProof.Rows
section
variable {prog:Program}{w:World}{A:Around}{E:Value->Shared->Prop}{s:Shared}
end
end HT
namespace L2
open PySem PySem.Spec PyProof.Rows
section
variable {X:Cx}
end
theorem Qg {x:V}(h:cH x=true):rL x x=true:=by cases x <;> first | rfl | (simp [rL,cH] at *)
section
variable {X:Cx}{ai:List (Addr×Obj)}{σ:St}{H:Hp}{s:Shared}
theorem qH {xs:List V}{us:List Value}(r:Vals xs us){j:Nat}(h:j < us.toArray.size):∃ x,xs[j]?=some x/\RelV x us.toArray[j]:=by
 have hl:=r.length;simp only [zM] at h;have a1:j < xs.length:=by omega
 obtain ⟨u,eu,ru⟩:=r.get (i:=j) (x:=xs[j]) (by simp [a1]);have e1:us.toArray[j]=u:=by rw [List.getElem_toArray];exact Option.some.inj ((zG h).symm.trans eu)
 exact ⟨xs[j],by simp [a1],by rw [e1];exact ru⟩
end
def Eqv (K:PySem.W.Frag)(H:Hp):Nat->V->V->Bool->Prop
 | 0,x,y,b=>(x=y/\(∃ a,x=.ref a)/\b=true)\/(cH x=true/\cH y=true/\b=rL x y)
 | n + 1,x,y,b=>(x=y/\(∃ a,x=.ref a)/\b=true)\/(cH x=true/\cH y=true/\b=rL x y)\/∃ (a c:Addr) (xs ys:List V) (e:Nat->Bool),x=.ref a/\y=.ref c/\((aG K H a xs/\aG K H c ys)\/(bT K H a xs/\bT K H c ys))/\(a=c->b=true)/\b=(decide (xs.length=ys.length) && (List.range xs.length).all e)/\∀ (i:Nat) (x y:V),xs[i]?=some x->ys[i]?=some y->Eqv K H n x y (e i)
section
variable {X:Cx}{ai:List (Addr×Obj)}{σ:St}{H:Hp}{s:Shared}
theorem nU {A:Around}{x y:V}{b:Bool}{u v:Value}(h:(x=y/\(∃ a,x=.ref a)/\b=true)\/(cH x=true/\cH y=true/\b=rL x y))(ru:RelV x u)(rv:RelV y v):SeqAt.EqAt A s u v b:=by
 rcases h with ⟨rfl,⟨a,rfl⟩,rfl⟩ | ⟨h1,h2,rfl⟩
 ·cases ru;cases rv;exact SeqAt.EqAt.same _
 ·exact vM (A:=A) (s:=s) ru rv h1 h2
theorem rK (I:Inv X ai σ H s):∀ (n:Nat) {A:Around}{x y:V}{b:Bool}{u v:Value},A.units + n < cLine->Eqv X.K H n x y b->RelV x u->RelV y v->SeqAt.EqAt A s u v b:=by
 intro n;induction n with
 | zero=>intro A x y b u v hu h ru rv;exact nU h ru rv
 | succ n ih=>
  intro A x y b u v hu h ru rv;rcases h with h | h | ⟨a,c,xs,ys,e,rfl,rfl,h,hs,hb,hi⟩
  ·exact nU (.inl h) ru rv
  ·exact nU (.inr h) ru rv
  ·cases ru;cases rv;by_cases ne:a=c
   ·rw [hs ne,ne];exact SeqAt.EqAt.same _
   refine SeqAt.EqAt.of_refs ne ?_;have Xo:(A.units + 1) + n < cLine:=by omega
   rcases h with ⟨h1,h2⟩ | ⟨h1,h2⟩
   ·obtain ⟨az,r1,p1,_⟩:=I.list h1;obtain ⟨dz,r2,p2,_⟩:=I.list h2;have l1:=r1.length;have l2:=r2.length;by_cases hl:xs.length=ys.length
    ·have:=SeqAt.RcAt.lists (A:=A) (e:=e) p1.isList p2.isList (by simp;omega) (by omega) λj h1 h2=>by
      obtain ⟨x,ex,rx⟩:=qH r1 h1;obtain ⟨y,ey,ry⟩:=qH r2 h2;exact ih Xo (hi j x y ex ey) rx ry
     rw [hb,decide_eq_true hl,yr,l1];simpa using this
    ·rw [hb,decide_eq_false hl,yS];exact SeqAt.RcAt.lists_lengths (A:=A) p1.isList p2.isList (by simp;omega) (by omega)
   ·obtain ⟨az,r1,p1,_⟩:=I.tuple h1;obtain ⟨dz,r2,p2,_⟩:=I.tuple h2;have l1:=r1.length;have l2:=r2.length;have:=SeqAt.RcAt.tuples (A:=A) (e:=e) p1 p2 (by omega) λj h1 h2=>by
     obtain ⟨x,ex,rx⟩:=qH r1 h1;obtain ⟨y,ey,ry⟩:=qH r2 h2;exact ih Xo (hi j x y ex ey) rx ry
    by_cases hl:xs.length=ys.length
    ·rw [hb,decide_eq_true hl,yr,l1];have e1:dz.length=az.length:=by omega
     simpa [e1] using this
    ·rw [hb,decide_eq_false hl,yS];have e1:¬ az.length=dz.length:=by omega
     have e2:(az.toArray.size == dz.toArray.size)=false:=by simp [e1]
     rw [e2,xY] at this;exact this
def WE (K:PySem.W.Frag)(neg:Bool):R2:=λx y H Q=>∃ (n:Nat) (a c:Addr) (xs ys:List V) (e:Nat->Bool) (b:Bool),n<=20/\x=.ref a/\y=.ref c/\((aG K H a xs/\aG K H c ys)\/(bT K H a xs/\bT K H c ys))/\b=(decide (xs.length=ys.length) && (List.range xs.length).all e)/\(∀ (i:Nat) (x y:V),xs[i]?=some x->ys[i]?=some y->Eqv K H n x y (e i))/\Q (.bl (if neg then !b else b)) H
theorem Uk (hu:X.A.units + 64 < cLine):gw X (compareOp .Eq) (WE X.K false):=by
 intro ai s σ H x y v u Q I rx ry h;obtain ⟨n,a,c,xs,ys,e,b,hn,rfl,rfl,h,hb,hi,q⟩:=h;cases rx;cases ry;rw [if_neg (by decide),hb] at q;rcases h with ⟨h1,h2⟩ | ⟨h1,h2⟩
 ·obtain ⟨az,r1,p1,_⟩:=I.list h1;obtain ⟨dz,r2,p2,_⟩:=I.list h2;have l1:=r1.length;have l2:=r2.length;by_cases hl:xs.length=ys.length
  ·rw [decide_eq_true hl,yr,l1] at q;exact SeqAt.RcAt.lists (e:=e) p1.isList p2.isList (by simp;omega) (by omega) (λj h1 h2=>by
    obtain ⟨x,ex,rx⟩:=qH r1 h1;obtain ⟨y,ey,ry⟩:=qH r2 h2;exact rK I n (by show X.A.units + 1 + n < cLine;omega) (hi j x y ex ey) rx ry) _ _ _ _ ⟨.bl _,H,I,rfl,by simpa using q⟩
  ·rw [decide_eq_false hl,yS] at q;exact SeqAt.RcAt.lists_lengths p1.isList p2.isList (by simp;omega) (by omega) _ _ _ _ ⟨.bl _,H,I,rfl,q⟩
 ·obtain ⟨az,r1,p1,_⟩:=I.tuple h1;obtain ⟨dz,r2,p2,_⟩:=I.tuple h2;have l1:=r1.length;have l2:=r2.length;have key:((List.range (min az.toArray.size dz.toArray.size)).all e && az.toArray.size == dz.toArray.size)=(decide (xs.length=ys.length) && (List.range xs.length).all e):=by
   by_cases hl:xs.length=ys.length
   ·have e1:dz.length=az.length:=by omega
    rw [decide_eq_true hl,yr,l1];simp [e1]
   ·have e1:¬ az.length=dz.length:=by omega
    rw [decide_eq_false hl,yS];simp [e1]
  rw [<-key] at q;exact SeqAt.RcAt.tuples (e:=e) p1 p2 (by omega) (λj h1 h2=>by
   obtain ⟨x,ex,rx⟩:=qH r1 h1;obtain ⟨y,ey,ry⟩:=qH r2 h2;exact rK I n (by show X.A.units + 1 + n < cLine;omega) (hi j x y ex ey) rx ry) _ _ _ _ ⟨.bl _,H,I,rfl,q⟩
theorem Pd (hu:X.A.units + 64 < cLine):gw X (compareOp .NotEq) (WE X.K true):=by
 intro ai s σ H x y v u Q I rx ry h;obtain ⟨n,a,c,xs,ys,e,b,hn,rfl,rfl,h,hb,hi,q⟩:=h;cases rx;cases ry;rw [if_pos rfl,hb] at q;rcases h with ⟨h1,h2⟩ | ⟨h1,h2⟩
 ·obtain ⟨az,r1,p1,_⟩:=I.list h1;obtain ⟨dz,r2,p2,_⟩:=I.list h2;have l1:=r1.length;have l2:=r2.length;by_cases hl:xs.length=ys.length
  ·rw [decide_eq_true hl,yr,l1] at q;exact SeqAt.RcNeAt.lists (e:=e) p1.isList p2.isList (by simp;omega) (by omega) (λj h1 h2=>by
    obtain ⟨x,ex,rx⟩:=qH r1 h1;obtain ⟨y,ey,ry⟩:=qH r2 h2;exact rK I n (by show X.A.units + 1 + n < cLine;omega) (hi j x y ex ey) rx ry) _ _ _ _ ⟨.bl _,H,I,rfl,by simpa using q⟩
  ·rw [decide_eq_false hl,yS] at q;exact SeqAt.RcNeAt.lists_lengths p1.isList p2.isList (by simp;omega) (by omega) _ _ _ _ ⟨.bl _,H,I,rfl,q⟩
 ·obtain ⟨az,r1,p1,_⟩:=I.tuple h1;obtain ⟨dz,r2,p2,_⟩:=I.tuple h2;have l1:=r1.length;have l2:=r2.length;have key:((List.range (min az.toArray.size dz.toArray.size)).all e && az.toArray.size == dz.toArray.size)=(decide (xs.length=ys.length) && (List.range xs.length).all e):=by
   by_cases hl:xs.length=ys.length
   ·have e1:dz.length=az.length:=by omega
    rw [decide_eq_true hl,yr,l1];simp [e1]
   ·have e1:¬ az.length=dz.length:=by omega
    rw [decide_eq_false hl,yS];simp [e1]
  rw [<-key] at q;exact SeqAt.RcNeAt.tuples (e:=e) p1 p2 (by omega) (λj h1 h2=>by
   obtain ⟨x,ex,rx⟩:=qH r1 h1;obtain ⟨y,ey,ry⟩:=qH r2 h2;exact rK I n (by show X.A.units + 1 + n < cLine;omega) (hi j x y ex ey) rx ry) _ _ _ _ ⟨.bl _,H,I,rfl,q⟩
end
theorem Mr (x y:Int):rL (.int x) (.int y)=decide (x=y):=rfl
section
variable {X:Cx}
theorem p8:∀ {ns:List Int}{az:List Value},Vals (ns.map V.int) az->∃ xs:List (Int×Tok),az=xs.map (λp=>Value.int p.1 p.2)/\xs.map (·.1)=ns
 | [],_,r=>by cases r;exact ⟨[],rfl,rfl⟩
 | n::ns,_,r=>by
  cases r with
  | cons r1 rr=>
   obtain ⟨t,rfl⟩:=r1;obtain ⟨xs,rfl,e⟩:=p8 rr;exact ⟨(n,t)::xs,rfl,by rw [zZ,e]⟩
end
end L2
namespace Sm
open PySem L2 aQ
def mx:Option Int->Option Int->Option Int
 | none,b=>b
 | some a,none=>some a
 | some a,some b=>some (if b > a then b else a)
theorem ahead {n:Nat}{ms:List M4}{m:M4}(g:Good n (ms++[m])){v:Nat}{x y:Int}{i:Nat}(hi:i≠v)(h:fwd ms (av v x) i=some y):y<=m.t/\((i=m.lo.toNat\/i=m.hi.toNat)->y < m.t):=by
 obtain ⟨a,ha,ao,at',_⟩:=jb (ws:=aB ms) h (by simp [av,hi]);unfold aB at ha;obtain ⟨c,hc,hx⟩:=yz.mp ha;have od:=(List.pairwise_append.mp g.order).2.2 c hc m (by simp);obtain ⟨c1,c2,c3,_⟩:=g.each c (by simp [hc]);obtain ⟨m1,m2,m3,_⟩:=g.each m (by simp);unfold two at hx;simp only [zN,yZ,or_false] at hx;have ct:c.t=y:=by rcases hx with rfl | rfl <;> exact at'
 have ci:i=c.lo.toNat\/i=c.hi.toNat:=by
  rcases hx with rfl | rfl
  ·exact .inr ao.symm
  ·exact .inl ao.symm
 refine ⟨by rcases od with h | h <;> omega,λhm=>?_⟩;rcases od with h | ⟨h1,h2,h3,h4,h5,h6⟩
 ·omega
 ·exfalso;rcases ci with e | e <;> rcases hm with e' | e' <;> omega
end Sm
namespace L2
open PySem PySem.Spec PyProof.Rows
section
variable {X:Cx}{ai:List (Addr×Obj)}{σ:St}{H:Hp}{s:Shared}
theorem iS {ix:Nat}{xn:Str}{pos' Wl:Pos}{own:List Str}{caps:List Nat}{elt tg iter:Expr}{ifs:List Expr}{scope:Scope}{pos:Pos}{wi:TI}{g:TG}{tc:TT}{te:TE}(hN:X.N.Nodup)(hix:X.N[ix]?=some xn)(hxl:PD X.env.scope xn=true)(hc:X.calm=true)(S:aI own caps X.N X.env.scope scope)(hi:PI X tg iter wi)
  (hg:∀ s H fp C,PG (dX X own caps scope s H fp C) tg g) (ht:∀ s H fp C,YA (dX X own caps scope s H fp C) ifs tc) (he:∀ s H fp C,PE (dX X own caps scope s H fp C) elt te)
  (hs:∀ x,foldedSetIterable iter X.env x=pure x:=by intro _;rfl) (hsw:swapsWith (.ListComp elt [⟨tg,iter,ifs,0⟩] scope pos) (some (.Name xn pos')) Wl.line X.env=pure true:=by rfl)
  (hf:nR X xn=true:=by rfl) :
  PS X (.Assign [.Name xn pos'] (.ListComp elt [⟨tg,iter,ifs,0⟩] scope pos) Wl) (uQ (Ov own.length caps wi g tc te) (lu ix)):=by
 have hxl:=rj hxl;intro ai s σ H D0 I h;rw [exec_Assign_Name_used _ _ _ _ hsw,arm_evalThenUse_ListComp]
 suffices main:wpAny (model X.prog X.w) X.A (comprehension (.ListComp elt [⟨tg,iter,ifs,0⟩] scope pos) scope X.env (firstIterPos [⟨tg,iter,ifs,0⟩] pos) (newList []) false (eval iter X.env) (some (assign (.Name xn pos') X.env))) (λ_ s1=>SP X ai D0 .next s1) X.xe s from
  wpAny_bind (wpAny_standAt (wpAny_bind (wpAny_bind (wpAny_mono main (λ_ s1 h=>wpAny_pure (wpAny_pure h)) λ_ _ e=>e))))
 refine qd hc S hi hg ht he hs I h λs6 D C H6 m6 _ IX fC hm6 q=>?_;obtain ⟨oC,esC,epC,gC,dC,rC⟩:=hm6;have IP:=IX.pinned (fp:=[C]) (λb hb=>by cases zJ.mp hb;exact fC) (λb hb=>by cases zJ.mp hb;exact ⟨oC,gC,λv z=>by rw [dC] at z;cases z⟩);refine wpAny_assign_Name (mQ IP hN hix hxl (v:=.ref D) rfl (λs7 I7=>?_) hf);have pC:=(I7.pin (C,oC) (zI _ (zI _ (dR (zJ.mpr rfl) gC)))).1;refine ⟨m6,⟨oC,esC,epC,pC,dC,rC⟩,λh' S4=>?_⟩;exact ⟨_,_,I7.gF.turned (t':=s7.toks) (λb o hb e=>S4.extBut b o hb e) fC.1 fC.2.1 fC.2.2.2.1 fC.2.2.2.2.1 fC.2.2.2.2.2,q⟩
end
section
variable {n:Nat}{caps:List Nat}{σ:St}{H:Hp}{g:TG}{tc:TT}{te:TE}{Qf:Addr->Hp->List V->Prop}{K:PySem.W.Frag}{a b:Addr}{xs ys:List V}
end
section
variable {X:Cx}
theorem NS (hc:X.calm=true):fj X (.builtin "min") (λxs H Q=>∃ p ns,xs=[.ref p]/\aG X.K H p (List.map V.int ns)/\0 < ns.length/\∀ M,M∈ns->(∀ a∈ns,M<=a)->Q (.int M) H):=by
 intro ai s σ H xs us Q I r h;obtain ⟨p,ns,rfl,hp,n0,q⟩:=h;obtain ⟨u,rfl,ru⟩:=vals1 r;cases ru;obtain ⟨az,r,pl,_⟩:=I.list hp;obtain ⟨ys,rfl,e⟩:=p8 r;have hl:ys.length=ns.length:=by rw [<-e,zA]
 have li:s.heap.IsList p (intItems ys.toArray):=by
  have:=pl.isList;unfold intItems;rw [List.map_toArray];exact this
 refine min_intList (I.ok.hd hc) li (by simp;omega) λv h' tk hv k=>?_;obtain ⟨t,rfl⟩:=intItems_at hv;obtain ⟨b1,b2⟩:=argBest_lt (numAt ys.toArray) (ys.toArray.size - 1);have WT:∀ j (h:j < ns.length),numAt ys.toArray j=ns[j]:=λj h=>by
  rw [numAt_eq];simp [e,h]
 have sz:ys.toArray.size=ns.length:=by simp [hl]
 rw [sz] at b1 b2 ⊢;refine ⟨.int _,H,I.kept k,⟨_,rfl⟩,q _ ?_ λa ha=>?_⟩
 ·rw [WT _ (by omega)];exact zh _
 ·obtain ⟨j,hj,rfl⟩:=List.mem_iff_getElem.mp ha;have:=b2 j (by omega);rw [WT j hj] at this;exact this
end
end L2
namespace Sm
open PySem L2 aQ
theorem abC {c:Bool}{A B:Prop}{D:Ends}{σ:St}{H:Hp}(Pre:St->Hp->Prop)(k:∀ σ H,Pre σ H->D.nx σ H)(h1:c=true->(∀ σ H,Pre σ H->D.nx σ H)->A)(h2:c=false->(∀ σ H,Pre σ H->D.nx σ H)->B):if c=true then (if true=true then A else kQ D σ H) else B:=by
 cases c with
 | true=>exact h1 rfl k
 | false=>exact h2 rfl k
theorem abE {c:Bool}{T2 A:Prop}{D:Ends}{σ:St}{H:Hp}(Pre:St->Hp->Prop)(k:∀ σ H,Pre σ H->D.nx σ H)(h1:c=true->(∀ σ H,Pre σ H->D.nx σ H)->T2)(h2:c=false->Pre σ H):if c=true then T2 else (if false=true then A else kQ D σ H):=by
 cases c with
 | true=>exact h1 rfl k
 | false=>exact k _ _ (h2 rfl)
end Sm
namespace L2
open PySem PySem.Spec PyProof.Rows PySem.W
def oj (c:Addr)(qual:Str):HO:=.ext λh=>h.CodeRec (.ref c) qual
def MT (P:Addr)(pos:Pos)(qual:Str)(H:Hp):Prop:=H P=some (.jQ #[])\/∃ c,H P=some (.jQ #[rawInt pos.line,rawInt pos.col,.ref c])/\H c=some (oj c qual)
def aO (mg:Str->Option Value)(base:Heap):Prop:=∃ bm o,mg "__builtins__" = some (.ref bm)/\bm≠builtinsNs/\bm≠mainGlobals/\base.get? bm=some o/\o.cls=.type "module" /\ o.dict=some builtinsNs/\o.data=.plain
section
variable {X:Cx}{ai:List (Addr×Obj)}{σ:St}{H:Hp}{s:Shared}
theorem Inv.acB (I:Inv X ai σ H s):∀ b∈X.fs,b < s.heap.objs.size:=λb hb=>by
 obtain ⟨_,o,ho,_⟩:=I.ok.iX.mem hb;exact zW (Heap.lt_size ho) I.sz
theorem Qq {P:Program}{w:World}{H:Hp}{h:Heap}{c:Addr}{qual:Str}(r:h.CodeRec (.ref c) qual):bu P w H h c (oj c qual):=by obtain ⟨c2,oc,vs,t,e,ho,hd,hv⟩:=id r;cases e;exact ⟨r,⟨_,ho⟩,λh1 h2 ⟨c2,oc,vs,t,e,ho,hd,hv⟩ k=>by cases e;exact ⟨c,oc,vs,t,rfl,k _ ho,hd,hv⟩⟩
theorem PM {P c:Addr}{om:List (Str×Addr)}{pos:Pos}{params:Arguments}{body:Expr}{scope:Scope}{Q:Value->Shared->Prop}(I:Inv X ai σ H s)(mt:MT P pos (X.env.qual ++ "<lambda>") H)(Ml:X.env.code=.ref c)(hd:codeHdIn X.K c P=true)(bm:aO X.mg X.base)
  (UZ:defaultsOf params X.env=([],[])) (Zi:closureFor scope X.env=pure om)
  (h:∀ f c' rN pm H' s',Inv X ((f,kla_obj "<lambda>" (X.env.qual ++ "<lambda>") params body scope om pm c' rN)::ai) σ H' s'->H' c'=some (oj c' (X.env.qual ++ "<lambda>"))->Sm.bN P H H'->MT P pos (X.env.qual ++ "<lambda>") H'->Q (.ref f) s') :
  wpAny (model X.prog X.w) X.A (eval (.Lambda params body scope pos) X.env) Q X.xe s:=by
 refine kla_eval UZ ?_;have glob:s.heap.Ns mainGlobals X.mg:=I.mod.glob.keeps I.bk;have C:CodeHd s.heap c P:=codeHd_of_K I.kZ hd;have tr:∃ o,H P=some o:=by rcases mt with e | ⟨_,e,_⟩ <;> exact ⟨_,e⟩
 have oX:∀ b o,X.base.get? b=some o->b≠P:=λb o e z=>by
  have:=(I.bs b o e).2;obtain ⟨u,hu⟩:=tr;rw [z,hu] at this;cases this
 have hgP:mainGlobals≠P:=by
  obtain ⟨o,_,_,e,_⟩:=I.mod.glob;exact oX _ _ e
 have hB:s.heap.BuiltinsAt X.mg P:=by
  obtain ⟨b,o,e1,e2,e3,e4,e5,e6,e7⟩:=bm;exact ⟨b,o,e1,e2,e3,oX _ _ e4,I.bk _ _ e4,e5,e6,e7⟩
 have pin:∀ {h':Heap}{H':Hp}{ob:Obj}{tk:Nat},Inv X ai σ H' { s with heap:=h'.push ob,toks:=tk }->s.heap.objs.size<=h'.objs.size->H' h'.objs.size=none->(∀ v,ob.data≠.cell v)->ob.isFreed=false->Inv X ((h'.objs.size,ob)::ai) σ H' { s with heap:=h'.push ob,toks:=tk }:=λ{h' H' ob tk} J hs hn nc nf=>
  J.cS λp hp=>by
   rcases zN.mp hp with rfl | hp
   ·exact ⟨Heap.get?_push_size _ nf,hn,ym (zW I.lt hs),λz=>z6 _ (zW (I.acB _ z) hs),nc⟩
   ·exact J.pin p (zI _ hp)
 rcases mt with mt | ⟨c1,mt,hc1⟩
 ·have hP:s.heap.get? P=some (tabObj #[]):=I.aR P _ mt;refine kla_makeFunction Zi I.ok.glob glob Ml C hP trivial rfl hgP hB λc' rN h' tk hx hge dU rec hP'=>?_;have fr:H c'=none:=I.aR.fresh hge;have ncP:c'≠P:=λz=>by rw [z,mt] at fr;cases fr
  have aa5:(h'.push (kla_obj "<lambda>" (X.env.qual ++ "<lambda>") params body scope om ((X.mg "__name__").getD .none) c' rN)).CodeRec (.ref c') (X.env.qual ++ "<lambda>"):=by
   obtain ⟨c2,oc,vs,t,e,ho,hd,hv⟩:=rec;exact ⟨c2,oc,vs,t,e,Heap.get?_push_of_some _ ho,hd,hv⟩
  have kp:∀ b o,b≠P->s.heap.get? b=some o->(h'.push (kla_obj "<lambda>" (X.env.qual ++ "<lambda>") params body scope om ((X.mg "__name__").getD .none) c' rN)).get? b=some o:=λb o hb e=>Heap.get?_push_of_some _ (hx b o hb e);have hP2:=Heap.get?_push_of_some (kla_obj "<lambda>" (X.env.qual ++ "<lambda>") params body scope om ((X.mg "__name__").getD .none) c' rN) hP';have at_:∀ b,b≠P->b≠c'->upd (upd H P (.jQ #[rawInt pos.line,rawInt pos.col,.ref c'])) c' (oj c' (X.env.qual ++ "<lambda>")) b=H b:=λb h1 h2=>by rw [xl h2,xl h1]
  have neT:∀ b u,H b=some u->u≠.jQ #[]->b≠P:=λb u e n z=>by rw [z,mt] at e;cases e;exact n rfl
  have Pr:∀ b u,H b=some u->b≠c':=λb u e z=>by rw [z,fr] at e;cases e
  have lt:∀ b o,s.heap.get? b=some o->b≠c':=λb o e=>za (zW (Heap.lt_size e) hge);have aP:upd (upd H P (.jQ #[rawInt pos.line,rawInt pos.col,.ref c'])) c' (oj c' (X.env.qual ++ "<lambda>")) P=some (.jQ #[rawInt pos.line,rawInt pos.col,.ref c']):=by rw [xl ncP.symm,xa]
  have J:Inv X ai σ (upd (upd H P (.jQ #[rawInt pos.line,rawInt pos.col,.ref c'])) c' (oj c' (X.env.qual ++ "<lambda>"))) { s with heap:=h'.push (kla_obj "<lambda>" (X.env.qual ++ "<lambda>") params body scope om ((X.mg "__name__").getD .none) c' rN),toks:=tk }:=by
   refine I.un ⟨λb o e n _ _=>kp b o (λz=>by rw [z,mt] at n;cases n) e,λb o e n _ _=>⟨o.slots,kp b o (λz=>by rw [z,mt] at n;cases n) e⟩,λb o e n _=>?_,λb o e _=>?_,λb xs e=>?_,λb o u e=>?_,λb ps e=>?_⟩ λb u e=>?_
   ·rw [at_ b (λz=>by rw [z,mt] at n;cases n) (lt b o e)];exact n
   ·by_cases z:b=P
    ·exact ⟨_,by rw [z];exact hP2⟩
    ·exact ⟨o,kp b o z e⟩
   ·rw [at_ b (neT b _ e (by intro z;cases z)) (Pr b _ e)];exact e
   ·rw [at_ b (neT b _ e (by intro z;cases z)) (Pr b _ e)];exact e
   ·by_cases z:b=P
    ·rw [z,mt] at e;cases e;exact ⟨_,by rw [z,aP,Array.empty_append]⟩
    ·exact ⟨#[],by rw [at_ b z (Pr b _ e),e,Array.append_empty]⟩
   ·by_cases z:b=c'
    ·subst z;rw [xa] at e;cases e;exact Qq aa5
    ·by_cases z2:b=P
     ·rw [z2,aP] at e;cases e;rw [z2];exact hP2
     ·rw [at_ b z2 z] at e;refine (I.aR b u e).dN (λb' v hb q=>kp b' v (λy=>?_) q) (λb' q=>by rw [at_ b' (neT b' _ q (by intro z;cases z)) (Pr b' _ q)];exact q) λb' xs q=>by rw [at_ b' (neT b' _ q (by intro z;cases z)) (Pr b' _ q)];exact q
      rcases hb with hb | hb
      ·exact z2 (hb.symm.trans y)
      ·rw [y,mt] at hb;cases hb
  have nf:upd (upd H P (.jQ #[rawInt pos.line,rawInt pos.col,.ref c'])) c' (oj c' (X.env.qual ++ "<lambda>")) h'.objs.size=none:=by
   rw [at_ h'.objs.size (ym (Heap.lt_size hP')) (ym dU)];exact I.aR.fresh (by omega)
  refine h _ c' rN ((X.mg "__name__").getD .none) _ _ (pin J (by omega) nf (by intro v z;cases z) rfl) xa (λb u hb e=>?_) (.inr ⟨c',aP,xa⟩);rw [at_ b hb (Pr b _ e)];exact e
 ·have hP:s.heap.get? P=some (tabObj #[rawInt pos.line,rawInt pos.col,.ref c1]):=I.aR P _ mt;refine kla_makeFunctionHit (cv:=.ref c1) Zi I.ok.glob glob Ml C hP ⟨⟩ ?_ hB λrN h' tk kp hs=>?_
  ·have:=codeAmong_snoc (pos:=pos) (c:=Value.ref c1) [] trivial rfl;exact this
  ·have J:Inv X ai σ H { s with heap:=h'.push (kla_obj "<lambda>" (X.env.qual ++ "<lambda>") params body scope om ((X.mg "__name__").getD .none) c1 rN),toks:=tk }:=I.kept λb o e=>Heap.get?_push_of_some _ (kp b o e);refine h _ c1 rN ((X.mg "__name__").getD .none) H _ (pin J hs (I.aR.fresh hs) (by intro v z;cases z) rfl) hc1 (Sm.bN.refl P H) (.inr ⟨c1,mt,hc1⟩)
end
end L2
namespace L2
open PySem PySem.Spec PyProof.Rows PySem.W aQ PySem.Calls
section
variable {X:Cx}{e body:Expr}{te:TE}{np kp tQ pos:Pos}{params:Arguments}{scope:Scope}{P c:Addr}{N:List Str}{ok:List Int->Prop}{kf:List Int->List Int}{pn:Str}
theorem bR.okC {P:Program}{w:World}{K:PySem.W.Frag}{mg:Str->Option Value}{base:Heap}{x qual:Str}{st:Stmt}{f c:Addr}{fd:FuncData}{N ps:List Str}{k:Nat}{sp:Sp}(F:bR K x qual st f fd)(hc:fd.code=.ref c)(S:au N ps (aq st))(len:∀ vs H Q E,sp vs H Q E->vs.length=ps.length)
  (jm:∀ (A:Around) (outer:List Env) (s:Shared) (H:Hp) (vs:List V) (Q:VK) (E:XK),cB k (A.deeper (envOfC qual (aq st) s.heap.objs.size f (.ref c)))->sp vs H Q E ->
   ∃ t,qk (nY mD P w K mg base N qual (aq st) f (.ref c) A outer s H E).Pj (ak st) t/\t { nx:=λ_ H'=>Q .bV H',rt:=Q } (start N vs) H):cF P w K mg base mD (k + 1) f fd ps sp:=by
 obtain ⟨oc,od,kV,doc,pm,an,bP,ct,RN,rfl,lk,tZ⟩:=F.ex;have hc:bP=.ref c:=hc;subst hc;refine S9 lk tZ S len λA outer s H vs Q E hr QK=>?_;obtain ⟨t,h,q⟩:=jm A outer s H vs Q E hr QK;exact ⟨t,h.Pj,q⟩
end
end L2
namespace L2
open PySem PySem.Spec PyProof.Rows PySem.W
theorem Po {K:PySem.W.Frag}{h:Heap}{P:Addr}(X:K.In h)(hP:h.get? P=some (tabObj #[]))(nt:noTabs K=true):K.lookup P=none:=by
 cases e:K.lookup P with
 | none=>rfl
 | some o=>
  have h1:=X P o e;rw [hP] at h1;cases h1;have h2:=yy.mp nt (P,_) (mem_of_lookupK e);exact absurd (show false=true from h2) zK
theorem Nn {P:Program}{w:World}{K:PySem.W.Frag}{mg mb:Str->Option Value}{CX:N8}{k:Nat}{fa a c T:Addr}{fd:FuncData}{x:Str}{sp:Sp}{aS:Shared}{vs:List Value}{ns:List Int}
  (KX:K.In aS.heap) (QL:aS.heap.Ns mainGlobals mg) (hb:aS.heap.Ns builtinsNs mb) (hbb:∀ x:Str,x ≠ "__name__" -> mb x=bootBuiltins x) (ab2:aS.heap.NoLimit) (hg:aS.gens=#[])
  (hT:aS.heap.get? T=some (tabObj #[])) (hC:codeHdIn K c T=true) (nt:noTabs K=true) (hbm:∃ bm ob,mg "__builtins__" = some (.ref bm)/\bm≠builtinsNs/\aS.heap.get? bm=some ob/\ob.cls=.type "module" /\ ob.dict=some builtinsNs/\ob.data=.plain)
  (ha:aS.heap.get? a=some { cls:=.type "list", data:=.seq vs.toArray }) (hi:IntsAre vs ns) (hl:ns.length<=sizeLine) (hr:cB k callerA)
  (F:∀ base:Heap,K.In base->base.Ns mainGlobals mg->aO mg base->cF P w K mg base CX k fa fd [x] sp) (P6:∀ (s:Shared) (u:Value),BindsTo s fd ⟨[u],[]⟩ [(x,u)])
  (QK:∀ H:Hp,H T=some (.jQ #[])->aG K H a (ns.map V.int)->sp [.ref a] H (λv _=>v=.bl true) λ_ _ _=>False)
  (X3:∀ H e s',CX [] H aS (λ_ _ _=>False) e s'->False) :
  codeAny (model P w) callerA (.call (.ref fa) ⟨[.ref a],[]⟩) (λr s'=>r=.ok (.ret (.bool true))/\OldK aS.heap s'.heap/\s'.os=aS.os/\AllBare s'.gens) aS:=by
 have rv:=pD hi;have abt:=hi.length;have naT:a≠T:=λz=>by rw [z,hT] at ha;cases ha
 have lkT:=Po KX hT nt;have isT:=((codeHd_of_K KX hC).tab hT).isCodeTable;have core:∀ H:Hp,(∀ b,H b=none\/(b=a/\∃ o xs,H b=some (.o4 o (.lst xs)))\/(b=T/\H b=some (.jQ #[])))->H T=some (.jQ #[])->aG K H a (ns.map V.int)->gZ P w H aS.heap->(H a≠none->K.lookup a=none) ->
   codeAny (model P w) callerA (.call (.ref fa) ⟨[.ref a],[]⟩) (λr s'=>r=.ok (.ret (.bool true))/\OldK aS.heap s'.heap/\s'.os=aS.os/\AllBare s'.gens) aS:=by
  intro H hO hTH hS aR hK;have rR:∀ {b:Addr}{o:Obj},aS.heap.get? b=some o->H b=none->(oZ aS.heap H).get? b=some o:=λe n=>P5 e n;have noH:∀ {b:Addr}{o:Obj},aS.heap.get? b=some o->(∀ i n,o.data≠.seq i n)->(∀ f,o.data≠.fields f)->H b=none:=λ{b o} e d1 d2=>by
   rcases hO b with q | ⟨rfl,_⟩ | ⟨rfl,_⟩
   ·exact q
   ·rw [ha] at e;cases e;exact absurd rfl (d1 _ _)
   ·rw [hT] at e;cases e;exact absurd rfl (d2 _)
  have Y0:∀ {b:Addr}{m:Str->Option Value},aS.heap.Ns b m->(oZ aS.heap H).Ns b m:=λ{b m} ⟨o,es,ep,e,d,r⟩=>⟨o,es,ep,rR e (noH e (λi n z=>by rw [d] at z;cases z) λf z=>by rw [d] at z;cases z),d,r⟩;have hKb:K.In (oZ aS.heap H):=λb o e=>rR (KX b o e) (by
   rcases hO b with q | ⟨rfl,_,_,q⟩ | ⟨rfl,q⟩
   ·exact q
   ·rw [hK (by rw [q];simp)] at e;cases e
   ·rw [lkT] at e;cases e)
  have hM:Mod K mg (oZ aS.heap H):=⟨hKb,Y0 QL,⟨mb,Y0 hb,hbb⟩,let ⟨mc,h1,h2⟩:=ab2;⟨mc,Y0 h1,h2⟩⟩;have hB:aO mg (oZ aS.heap H):=by
   obtain ⟨bm,ob,b1,b2,b3,b4,b5,b6⟩:=hbm;refine ⟨bm,ob,b1,b2,λz=>?_,rR b3 (noH b3 (λi n z=>by rw [b6] at z;cases z) λf z=>by rw [b6] at z;cases z),b4,b5,b6⟩;obtain ⟨o,es,ep,e,d,_⟩:=QL;rw [z,e] at b3;cases b3;rw [b6] at d;cases d
  have e0:o9 P w K mg (oZ aS.heap H) callerA [] aS H:=⟨rfl,hM,λb o e=>RV e,Nat.le_of_eq (NB _ _),trivial,λb hb=>absurd (show b∈([]:List Addr) from hb) (by simp),aR,.of_eq hg⟩;refine codeAny_mono ((F _ hKb (Y0 QL) hB).run callerA [] aS H ⟨[.ref a],[]⟩ [.ref a] [.ref a] _ _ hr e0 (P6 aS (.ref a)) (.cons rfl .nil) (QK H hTH hS)) λr s' h=>?_;cases r with
  | error e=>exact (X3 H e s' h).elim
  | ok fl=>
   cases fl with
   | next=>exact False.elim h
   | brk=>exact False.elim h
   | cont=>exact False.elim h
   | ret u=>
    obtain ⟨v,H',os,bare,un,Xy,r',q⟩:=h;have q':v=.bl true:=q;subst q';obtain rfl:u=Value.bool true:=r';have all:∀ b o,aS.heap.get? b=some o->s'.heap.get? b=some o\/(b=T/\∃ ps,s'.heap.get? T=some (tabObj ps)):=λb o e=>by
     rcases hO b with q | ⟨_,ob,xs,z⟩ | ⟨rfl,z⟩
     ·exact .inl (un.keep b o e q (by intro z;exact absurd (show b∈([]:List Addr) from z) (by simp)) (by simp))
     ·have z2:=un.jq b ob _ z;obtain ⟨e1,_⟩:=aR b _ z;obtain ⟨e2,_⟩:=Xy b _ z2;rw [e] at e1;cases e1;exact .inl e2
     ·obtain ⟨more,z2⟩:=un.i8 b _ z;have e2:s'.heap.get? b=some _:=Xy b _ z2;exact .inr ⟨rfl,_,e2⟩
    refine ⟨rfl,⟨λb o e=>?_,λb o e=>?_⟩,os,bare⟩
    ·rcases all b o e with q | ⟨rfl,ps,q⟩
     ·exact .inl q
     ·rw [hT] at e;cases e;exact .inr (.inl ⟨isT,rfl,#[],ps,rfl,by rw [Array.empty_append];exact q⟩)
    ·rcases all b o e with q | ⟨rfl,ps,q⟩
     ·exact ⟨_,q⟩
     ·exact ⟨_,q⟩
 cases hk:K.lookup a with
 | some o=>
  have e:=KX a o hk;rw [ha] at e;cases e;refine core (λb=>if b=T then some (.jQ #[]) else none) (λb=>?_) (if_pos rfl) (.inr ⟨_,vs.toArray,_,hk,rfl,rfl,rfl,by rw [zM,abt];exact hl,by simpa using rv⟩) (λb u z=>?_) λz=>absurd (if_neg naT) z
  ·by_cases hb:b=T
   ·exact .inr (.inr ⟨hb,if_pos hb⟩)
   ·exact .inl (if_neg hb)
  ·by_cases hb:b=T
   ·have z':=(if_pos hb).symm.trans z;cases z';subst hb;exact hT
   ·have z':=(if_neg hb).symm.trans z;cases z'
 | none=>
  have rS:(λb=>if b=T then some (HO.jQ #[]) else if b=a then some (.o4 { cls:=.type "list", data:=.seq vs.toArray } (.lst (ns.map V.int))) else none) a=some (.o4 { cls:=.type "list", data:=.seq vs.toArray } (.lst (ns.map V.int))):=(if_neg naT).trans (if_pos rfl);refine core (λb=>if b=T then some (.jQ #[]) else if b=a then some (.o4 { cls:=.type "list", data:=.seq vs.toArray } (.lst (ns.map V.int))) else none) (λb=>?_) (if_pos rfl) (.inl (.inr ⟨{ cls:=.type "list", data:=.seq vs.toArray },rS⟩)) (λb u z=>?_) λ_=>hk
  ·by_cases hb:b=T
   ·exact .inr (.inr ⟨hb,if_pos hb⟩)
   ·by_cases lU:b=a
    ·exact .inr (.inl ⟨lU,_,_,(if_neg hb).trans (if_pos lU)⟩)
    ·exact .inl ((if_neg hb).trans (if_neg lU))
  ·by_cases hb:b=T
   ·have z':=(if_pos hb).symm.trans z;cases z';subst hb;exact hT
   ·by_cases lU:b=a
    ·have z':=((if_neg hb).trans (if_pos lU)).symm.trans z;cases z';subst lU;exact ⟨ha,by rw [zA];exact hl,vs,_,rv,ha⟩
    ·have z':=((if_neg hb).trans (if_neg lU)).symm.trans z;cases z'
theorem Oe {l:PySem.W.OpenLaw}{n k:Nat}{q:Program}{loose:List Str}{XP:(Str->Option Value)->Heap->Prop}{YP:World->Heap->Prop}{d:DefRec}{K:Params->PySem.W.Frag}{CX:World->N8}{sp:World->Sp}{x:Str}{T:Addr}
  (hn:l.most=some n) (Ze:n<=sizeLine) (XR:d.params.defaults=[]) (hr:cB k callerA)
  (hY:∀ (w:World) (h:Heap),YP w h->(K w.params).In h/\h.get? T=some (tabObj #[])) (nt:∀ w:World,noTabs (K w.params)=true)
  (F:∀ (w:World) (mg:Str->Option Value) (fa:Addr) (h:Heap),(K w.params).In h->h.Ns mainGlobals mg->mg d.name=some (.ref fa) ->
   ∃ fd:FuncData,(∃ c,codeHdIn (K w.params) c T=true)/\(∀ (s:Shared) (u:Value),BindsTo s fd ⟨[u],[]⟩ [(x,u)]) /\
    ∀ base:Heap,(K w.params).In base->base.Ns mainGlobals mg->aO mg base->cF l.prog w (K w.params) mg base (CX w) k fa fd [x] (sp w))
  (QK:∀ (w:World) (H:Hp) (a:Addr) (ns:List Int),ns.length<=n->H T=some (.jQ #[])->aG (K w.params) H a (ns.map V.int)->sp w [.ref a] H (λv _=>v=.bl true) λ_ _ _=>False)
  (X3:∀ (w:World) (H:Hp) (s:Shared) (e:Value) (s':Shared),CX w [] H s (λ_ _ _=>False) e s'->False) :
  PySem.W.WalkO q loose XP YP l.row.toRowW d [] (λf vs=>PySem.call f vs):=by
 refine Att.uy hn XR λw cI aS mg mb fa o pm cd doc a vs ns G Y ho hd tZ hmg US hints hlen hg=>?_;obtain ⟨KX,tX⟩:=hY w _ Y;obtain ⟨fd,⟨c,hC⟩,hb,hF⟩:=F w mg fa _ KX G.T.g hmg;exact Nn KX G.T.g G.T.b G.T.builtins G.T.nolimit hg tX hC (nt w) G.T.bmain US hints (zi hlen Ze) hr hF hb (λH hO hS=>QK w H a ns hlen hO hS) λH e s'=>X3 w H aS e s'
end L2
namespace Sm
open PySem L2 aQ
theorem fF {K:PySem.W.Frag}{H:Hp}{a:Addr}{xs:List V}{i:Int}{v:V}{Q:V->Prop}(h:H a=some (.tup xs))(hi:dI xs i=some v)(q:Q v):∃ p V0 i' v',V.ref a=.ref p/\V.int i=.int i'/\bT K H p V0/\dI V0 i'=some v'/\Q v':=⟨a,xs,i,v,rfl,rfl,bT.of h,hi,q⟩
theorem cu {K:PySem.W.Frag}{H:Hp}{a:Addr}{xs:List V}{i:Int}{v:V}{Q:V->Prop}(h:H a=some (.lst xs))(hi:dI xs i=some v)(q:Q v):∃ p V0 i' v',V.ref a=.ref p/\V.int i=.int i'/\aG K H p V0/\dI V0 i'=some v'/\Q v':=⟨a,xs,i,v,rfl,rfl,aG.of h,hi,q⟩
theorem uJ {P:List Value->Prop}{us:List Value}{n:Nat}(h:us.length=n + 1)(q:∀ a r,r.length=n->P (a::r)):P us:=by
 cases us with
 | nil=>cases h
 | cons a r=>exact q a r (Nat.succ.inj h)
theorem V2 {P:List Value->Prop}{us:List Value}(h:us.length=0)(q:P []):P us:=by rw [List.eq_nil_of_length_eq_zero h];exact q
theorem us1 {fd:FuncData}{ps:List Str}{us:List Value}(h:us.length=1)(q:∀ a,bindArgs fd ⟨[a],[]⟩=pure (ps.zip [a])):bindArgs fd ⟨us,[]⟩=pure (ps.zip us):=uJ (P:=λus=>bindArgs fd ⟨us,[]⟩=pure (ps.zip (us))) h λa us h=>V2 (P:=λus=>bindArgs fd ⟨a::us,[]⟩=pure (ps.zip (a::us))) h (q a)
theorem VB {fd:FuncData}{ps:List Str}{us:List Value}(h:us.length=2)(q:∀ a b,bindArgs fd ⟨[a,b],[]⟩=pure (ps.zip [a,b])):bindArgs fd ⟨us,[]⟩=pure (ps.zip us):=uJ (P:=λus=>bindArgs fd ⟨us,[]⟩=pure (ps.zip (us))) h λa us h=>uJ (P:=λus=>bindArgs fd ⟨a::us,[]⟩=pure (ps.zip (a::us))) h λb us h=>V2 (P:=λus=>bindArgs fd ⟨a::b::us,[]⟩=pure (ps.zip (a::b::us))) h (q a b)
theorem YM {fd:FuncData}{ps:List Str}{us:List Value}(h:us.length=3)(q:∀ a b c,bindArgs fd ⟨[a,b,c],[]⟩=pure (ps.zip [a,b,c])):bindArgs fd ⟨us,[]⟩=pure (ps.zip us):=uJ (P:=λus=>bindArgs fd ⟨us,[]⟩=pure (ps.zip (us))) h λa us h=>uJ (P:=λus=>bindArgs fd ⟨a::us,[]⟩=pure (ps.zip (a::us))) h λb us h=>uJ (P:=λus=>bindArgs fd ⟨a::b::us,[]⟩=pure (ps.zip (a::b::us))) h λc us h=>V2 (P:=λus=>bindArgs fd ⟨a::b::c::us,[]⟩=pure (ps.zip (a::b::c::us))) h (q a b c)
theorem YL {fd:FuncData}{ps:List Str}{us:List Value}(h:us.length=4)(q:∀ a b c d,bindArgs fd ⟨[a,b,c,d],[]⟩=pure (ps.zip [a,b,c,d])):bindArgs fd ⟨us,[]⟩=pure (ps.zip us):=uJ (P:=λus=>bindArgs fd ⟨us,[]⟩=pure (ps.zip (us))) h λa us h=>uJ (P:=λus=>bindArgs fd ⟨a::us,[]⟩=pure (ps.zip (a::us))) h λb us h=>uJ (P:=λus=>bindArgs fd ⟨a::b::us,[]⟩=pure (ps.zip (a::b::us))) h λc us h=>uJ (P:=λus=>bindArgs fd ⟨a::b::c::us,[]⟩=pure (ps.zip (a::b::c::us))) h λd us h=>V2 (P:=λus=>bindArgs fd ⟨a::b::c::d::us,[]⟩=pure (ps.zip (a::b::c::d::us))) h (q a b c d)
theorem us5 {fd:FuncData}{ps:List Str}{us:List Value}(h:us.length=5)(q:∀ a b c d e,bindArgs fd ⟨[a,b,c,d,e],[]⟩=pure (ps.zip [a,b,c,d,e])):bindArgs fd ⟨us,[]⟩=pure (ps.zip us):=uJ (P:=λus=>bindArgs fd ⟨us,[]⟩=pure (ps.zip (us))) h λa us h=>uJ (P:=λus=>bindArgs fd ⟨a::us,[]⟩=pure (ps.zip (a::us))) h λb us h=>uJ (P:=λus=>bindArgs fd ⟨a::b::us,[]⟩=pure (ps.zip (a::b::us))) h λc us h=>uJ (P:=λus=>bindArgs fd ⟨a::b::c::us,[]⟩=pure (ps.zip (a::b::c::us))) h λd us h=>uJ (P:=λus=>bindArgs fd ⟨a::b::c::d::us,[]⟩=pure (ps.zip (a::b::c::d::us))) h λe us h=>V2 (P:=λus=>bindArgs fd ⟨a::b::c::d::e::us,[]⟩=pure (ps.zip (a::b::c::d::e::us))) h (q a b c d e)
theorem Yc {iQ iP iO iN iM:Type}{P:iQ->iP->iO->iN->iM->Prop}(x0:iQ)(x1:iP)(x2:iO)(x3:iN)(x4:iM)(h:P x0 x1 x2 x3 x4):∃ y0:iQ,∃ y1:iP,∃ y2:iO,∃ y3:iN,∃ y4:iM,P y0 y1 y2 y3 y4:=⟨x0,x1,x2,x3,x4,h⟩
theorem ex6 {iQ iP iO iN iM jL:Type}{P:iQ->iP->iO->iN->iM->jL->Prop}(x0:iQ)(x1:iP)(x2:iO)(x3:iN)(x4:iM)(x5:jL)(h:P x0 x1 x2 x3 x4 x5):∃ y0:iQ,∃ y1:iP,∃ y2:iO,∃ y3:iN,∃ y4:iM,∃ y5:jL,P y0 y1 y2 y3 y4 y5:=⟨x0,x1,x2,x3,x4,x5,h⟩
theorem uG {iQ iP iO iN iM jL mE:Type}{P:iQ->iP->iO->iN->iM->jL->mE->Prop}(x0:iQ)(x1:iP)(x2:iO)(x3:iN)(x4:iM)(x5:jL)(x6:mE)(h:P x0 x1 x2 x3 x4 x5 x6):∃ y0:iQ,∃ y1:iP,∃ y2:iO,∃ y3:iN,∃ y4:iM,∃ y5:jL,∃ y6:mE,P y0 y1 y2 y3 y4 y5 y6:=⟨x0,x1,x2,x3,x4,x5,x6,h⟩
theorem Yb {iQ iP iO iN iM jL mE qm:Type}{P:iQ->iP->iO->iN->iM->jL->mE->qm->Prop}(x0:iQ)(x1:iP)(x2:iO)(x3:iN)(x4:iM)(x5:jL)(x6:mE)(x7:qm)(h:P x0 x1 x2 x3 x4 x5 x6 x7):∃ y0:iQ,∃ y1:iP,∃ y2:iO,∃ y3:iN,∃ y4:iM,∃ y5:jL,∃ y6:mE,∃ y7:qm,P y0 y1 y2 y3 y4 y5 y6 y7:=⟨x0,x1,x2,x3,x4,x5,x6,x7,h⟩
theorem Zr {iQ iP iO iN iM jL mE qm uH:Type}{P:iQ->iP->iO->iN->iM->jL->mE->qm->uH->Prop}(x0:iQ)(x1:iP)(x2:iO)(x3:iN)(x4:iM)(x5:jL)(x6:mE)(x7:qm)(x8:uH)(h:P x0 x1 x2 x3 x4 x5 x6 x7 x8):∃ y0:iQ,∃ y1:iP,∃ y2:iO,∃ y3:iN,∃ y4:iM,∃ y5:jL,∃ y6:mE,∃ y7:qm,∃ y8:uH,P y0 y1 y2 y3 y4 y5 y6 y7 y8:=⟨x0,x1,x2,x3,x4,x5,x6,x7,x8,h⟩
theorem NI {iQ iP iO iN iM jL mE qm uH Ob:Type}{P:iQ->iP->iO->iN->iM->jL->mE->qm->uH->Ob->Prop}(x0:iQ)(x1:iP)(x2:iO)(x3:iN)(x4:iM)(x5:jL)(x6:mE)(x7:qm)(x8:uH)(x9:Ob)(h:P x0 x1 x2 x3 x4 x5 x6 x7 x8 x9):∃ y0:iQ,∃ y1:iP,∃ y2:iO,∃ y3:iN,∃ y4:iM,∃ y5:jL,∃ y6:mE,∃ y7:qm,∃ y8:uH,∃ y9:Ob,P y0 y1 y2 y3 y4 y5 y6 y7 y8 y9:=⟨x0,x1,x2,x3,x4,x5,x6,x7,x8,x9,h⟩
theorem Sw {iQ iP iO iN iM jL mE qm uH Ob uI:Type}{P:iQ->iP->iO->iN->iM->jL->mE->qm->uH->Ob->uI->Prop}(x0:iQ)(x1:iP)(x2:iO)(x3:iN)(x4:iM)(x5:jL)(x6:mE)(x7:qm)(x8:uH)(x9:Ob)(V1:uI)(h:P x0 x1 x2 x3 x4 x5 x6 x7 x8 x9 V1):∃ y0:iQ,∃ y1:iP,∃ y2:iO,∃ y3:iN,∃ y4:iM,∃ y5:jL,∃ y6:mE,∃ y7:qm,∃ y8:uH,∃ y9:Ob,∃ y10:uI,P y0 y1 y2 y3 y4 y5 y6 y7 y8 y9 y10:=⟨x0,x1,x2,x3,x4,x5,x6,x7,x8,x9,V1,h⟩
theorem acD {iQ iP iO iN iM jL mE qm uH Ob uI Tf:Type}{P:iQ->iP->iO->iN->iM->jL->mE->qm->uH->Ob->uI->Tf->Prop}(x0:iQ)(x1:iP)(x2:iO)(x3:iN)(x4:iM)(x5:jL)(x6:mE)(x7:qm)(x8:uH)(x9:Ob)(V1:uI)(x11:Tf)(h:P x0 x1 x2 x3 x4 x5 x6 x7 x8 x9 V1 x11):∃ y0:iQ,∃ y1:iP,∃ y2:iO,∃ y3:iN,∃ y4:iM,∃ y5:jL,∃ y6:mE,∃ y7:qm,∃ y8:uH,∃ y9:Ob,∃ y10:uI,∃ y11:Tf,P y0 y1 y2 y3 y4 y5 y6 y7 y8 y9 y10 y11:=⟨x0,x1,x2,x3,x4,x5,x6,x7,x8,x9,V1,x11,h⟩
theorem uD {K:PySem.W.Frag}{H:Hp}{a:Addr}{v0 v1:V}{Q:V->V->Prop}(h:H a=some (.tup [v0,v1]))(q:Q v0 v1):∃ a' xs,V.ref a=.ref a'/\bT K H a' xs/\xs.length=2/\∃ w0 r0,xs=w0::r0/\∃ w1 r1,r0=w1::r1/\r1=[]/\Q w0 w1:=⟨a,_,rfl,bT.of h,rfl,_,_,rfl,_,_,rfl,rfl,q⟩
theorem un3 {K:PySem.W.Frag}{H:Hp}{a:Addr}{v0 v1 v2:V}{Q:V->V->V->Prop}(h:H a=some (.tup [v0,v1,v2]))(q:Q v0 v1 v2):∃ a' xs,V.ref a=.ref a'/\bT K H a' xs/\xs.length=3/\∃ w0 r0,xs=w0::r0/\∃ w1 r1,r0=w1::r1/\∃ w2 r2,r1=w2::r2/\r2=[]/\Q w0 w1 w2:=⟨a,_,rfl,bT.of h,rfl,_,_,rfl,_,_,rfl,_,_,rfl,rfl,q⟩
theorem sI {K:PySem.W.Frag}{H:Hp}{a:Addr}{v0 v1 v2 v3:V}{Q:V->V->V->V->Prop}(h:H a=some (.tup [v0,v1,v2,v3]))(q:Q v0 v1 v2 v3):∃ a' xs,V.ref a=.ref a'/\bT K H a' xs/\xs.length=4/\∃ w0 r0,xs=w0::r0/\∃ w1 r1,r0=w1::r1/\∃ w2 r2,r1=w2::r2/\∃ w3 r3,r2=w3::r3/\r3=[]/\Q w0 w1 w2 w3:=⟨a,_,rfl,bT.of h,rfl,_,_,rfl,_,_,rfl,_,_,rfl,_,_,rfl,rfl,q⟩
theorem zr {α:Sort _}{A Q:α->Prop}{x:α}(a:A x)(q:Q x):∃ y,A y/\Q y:=⟨x,a,q⟩
theorem dh {α β:Sort _}{A Q:α->β->Prop}{x:α}{y:β}(a:A x y)(q:Q x y):∃ x y,A x y/\Q x y:=⟨x,y,a,q⟩
theorem aJ {α β:Sort _}{A B Q:α->β->Prop}{x:α}{y:β}(a:A x y)(b:B x y)(q:Q x y):∃ x y,A x y/\B x y/\Q x y:=⟨x,y,a,b,q⟩
def Ti (ms:List M4)(j:Int):Int:=((ms[j.toNat]?).map (·.t)).getD 0
def ac2 (ms:List M4)(k:Nat):List Int:=(numsTo ms k ms.length).map (Ti ms)
section
variable {n k w:Nat}{ms:List M4}{day:Int}
end
def nextOf (ts:List (Int×Int))(b:Int)(k:Nat):Int:=match ts[k + 1]? with
 | some q=>q.1
 | none=>b
end Sm
namespace L2
open PySem
end L2
namespace Sm
open PySem L2 aQ
end Sm
namespace L2
open PySem
theorem MT.go {P p:Addr}{pos:Pos}{qual:Str}{H H':Hp}(m:MT P pos qual H)(pu:Sm.bX H p)(g:Sm.Go p H H'):MT P pos qual H':=by
 obtain ⟨x,y,z,e⟩:=pu;rcases m with m | ⟨c,m,m2⟩
 ·exact .inl (g.1 _ _ (wU m e (by intro z;cases z)) m)
 ·exact .inr ⟨c,g.1 _ _ (wU m e (by intro z;cases z)) m,g.1 _ _ (wU m2 e (by intro z;cases z)) m2⟩
theorem MT.put {P l:Addr}{pos:Pos}{qual:Str}{H:Hp}{xs:List V}{o:HO}(m:MT P pos qual H)(e:H l=some (.lst xs)):MT P pos qual (upd H l o):=by
 rcases m with m | ⟨c,m,m2⟩
 ·exact .inl (by rw [xl (wU m e (by intro z;cases z))];exact m)
 ·exact .inr ⟨c,by rw [xl (wU m e (by intro z;cases z))];exact m,by rw [xl (wU m2 e (by intro z;cases z))];exact m2⟩
end L2
namespace Sm
open PySem L2 aQ
theorem MT.Oh {T:Addr}{lp:Pos}{q:Str}{H H':Hp}(m:MT T lp q H)(b:bN T H H'):bM H H':=λx u e=>b x _ (λz=>by
 rcases m with m | ⟨_,m,_⟩ <;> (rw [z,m] at e;cases e)) e
theorem MT.keep {T:Addr}{lp:Pos}{q:Str}{H H':Hp}(m:MT T lp q H)(b:bN T H H'){x:Addr}{u:HO}(e:H x=some u)(n:∀ ys,u≠.jQ ys):H' x=some u:=b x u (λz=>by
 rcases m with m | ⟨_,m,_⟩ <;> (rw [z,m] at e;cases e;exact n _ rfl)) e
theorem MT.seq {T:Addr}{lp:Pos}{q:Str}{K:PySem.W.Frag}{H H':Hp}{a:Addr}{xs:List V}(m:MT T lp q H)(b:bN T H H')(h:aG K H a xs):aG K H' a xs:=by
 rcases h with (h | ⟨o,h⟩) | h
 ·exact .inl (.inl (MT.keep m b h (by intro ys z;cases z)))
 ·exact .inl (.inr ⟨o,MT.keep m b h (by intro ys z;cases z)⟩)
 ·exact .inr h
end Sm
namespace L2
open PySem PySem.Spec PyProof.Rows
section
variable {K:PySem.W.Frag}{a:Addr}{xs:List V}{n:Nat}{caps:List Nat}{g:TG}{tc:TT}{te:TE}{σ:St}{H:Hp}{Qf:Addr->Hp->List V->Prop}
end
end L2
namespace Sm
open PySem L2 aQ
abbrev Mk:=Nat->Nat
structure L4 where
 s:Nat
 w:Nat
 a:Int
 z:Int
end Sm
namespace L2
open PySem PySem.Spec PyProof.Rows
section
variable {P:Program}{w:World}{H H':Hp}{h:Heap}{a:Addr}{o:HO}
end
structure XL (P:Program) (w:World) (l:List Env) (H:Hp) (s:Shared) (H':Hp) (B:Heap) (s':Shared):Prop where
 os:s'.os=s.os
 bare:AllBare s'.gens
 S1:∀ b o,s.heap.get? b=some o->H b=none->b ∉ sf l->B.get? b=some o
 allB:∀ b o,s.heap.get? b=some o->b ∉ sf l->∃ o',B.get? b=some o'
 V3:∀ b u,H' b=some u->∃ o,B.get? b=some o
 frm:∀ b o,s.heap.get? b=some o->b∈sf l->∃ sl,s'.heap.get? b=some { o with slots:=sl }
 free:∀ b o,s.heap.get? b=some o->H b=none->H' b=none
 aT:∀ b xs,H b=some (.tup xs)->H' b=some (.tup xs)
 jq:∀ b o u,H b=some (.o4 o u)->H' b=some (.o4 o u)
 i8:∀ b ps,H b=some (.jQ ps)->∃ more,H' b=some (.jQ (ps++more))
 aR:gZ P w H' s'.heap
 stays:B.StaysIn s'.heap
section
variable {P:Program}{w:World}{l:List Env}{H H':Hp}{s s':Shared}{B base:Heap}
end
def TrD (h B:Heap)(e:Addr)(cls fl:Value):Prop:=∃ oe vs T oT ts,h.get? e=some oe/\oe.cls=cls/\oe.dict=none/\oe.data=.fields vs/\vs[1]?=some (Value.ref T)/\B.get? T=none/\T≠e/\h.get? T=some oT/\oT.data=.fields ts/\ts[3]?=some fl
def MdD (h:Heap)(e:Addr)(cls:Value):Prop:=∃ oe vs,h.get? e=some oe/\oe.cls=cls/\oe.dict=none/\oe.data=.fields vs/\vs[1]?=some Value.none
def CXE (P:Program)(w:World):N8:=λl H s E e s'=>∃ a cls H' B,e=Value.ref a/\XL P w l H s H' B s'/\B.get? a=none/\s'.heap.FunFrames B l/\TrD s'.heap B a cls Value.none/\E cls none H'
def acZ (B:Heap)(env:Env)(outer:List Env)(a:Addr)(cls:Value)(h:Heap):Prop:=
 B.get? a=none/\h.FunFrames B (env::outer)/\(MdD h a cls\/TrD h B a cls Value.none\/∃ L,env.frame=some L/\TrD h B a cls (rawInt L))
def WX (X:Cx)(E:XK):Value->Shared->Prop:=λe s'=>(X.A.frames=some (X.env::X.outer)/\X.env.frame=some X.env.locals/\X.cI.heap.FunFrames X.base X.outer)/\∃ a cls H' B,e=Value.ref a/\XL X.prog X.w X.outer X.LJ X.cI H' B s'/\acZ B X.env X.outer a cls s'.heap/\E cls none H'
abbrev Cx.exc (X:Cx)(E:XK):Cx:=X.lK (WX X E)
section
variable {M:Model}{A:Around}{Ex:Value->Shared->Prop}{s:Shared}{B:Heap}{env:Env}{outer:List Env}{a L:Addr}{cls:Value}{Q:Unit->Shared->Prop}
end
section
variable {X:Cx}{E:XK}
theorem YZ {E':XK}(hs:X.stack=X.env::X.outer)(hf:X.env.frame=some X.env.locals)(hex:X.ex=[])(hE:∀ cls H',E' cls none H'->E cls none H'):Passes (CXE X.prog X.w) (X.exc E) E':=by
  rintro ai σ H s e s' I0 ⟨a,cls,H',B,rfl,x,f2,f3,f4,q⟩;have I:=I0.fk;have SX:∀ b,b ∉ X.ex:=λb hb=>by rw [hex] at hb;cases hb
  have nst:∀ b o,X.cI.heap.get? b=some o->b ∉ X.fs->b ∉ sf X.stack:=λb o e nb hb=>by
    rcases zN.mp (I.jS b hb) with z | z
    · subst z;exact absurd (zW (Heap.lt_size e) I.ok.above) (z6 _)
    · exact nb z
  have inst:∀ b,b∈X.fs->b∈sf X.stack:=λb hb=>by
    rw [hs];unfold sf;rw [ye];split
    · exact hb
    · exact zp _ hb
  rw [show (X.exc E).stack=X.env::X.outer from hs] at f3;exact ⟨⟨by rw [<-hs];exact I.ok.frames,hf,I.ok.iX⟩,a,cls,H',B,rfl,
    { os:=x.os.trans I.os
      bare:=x.bare
      S1:=λb o e n hb=>x.S1 b o (I.base.keep b o e n hb (SX b)) (I.base.free b o e n (SX b)) (nst b o e hb)
      allB:=λb o e hb=>by
        obtain ⟨o1,e1⟩:=I.base.there b o e (SX b);exact x.allB b o1 e1 (nst b o e hb)
      V3:=x.V3
      frm:=λb o e hb=>by
        obtain ⟨sl,e1⟩:=I.base.slot b o e (I.ok.Sq b hb) hb (SX b);obtain ⟨sl2,e2⟩:=x.frm b _ e1 (inst b hb);exact ⟨sl2,e2⟩
      free:=λb o e n=>by
        obtain ⟨o1,e1⟩:=I.base.there b o e (SX b);exact x.free b o1 e1 (I.base.free b o e n (SX b))
      aT:=λb xs e=>x.aT b xs (I.base.aT b xs e)
      jq:=λb o u e=>x.jq b o u (I.base.jq b o u e)
      i8:=λb ps e=>by
        obtain ⟨m1,e1⟩:=I.base.i8 b ps e;obtain ⟨m2,e2⟩:=x.i8 b _ e1;exact ⟨m1++m2,by rw [e2,Array.append_assoc]⟩
      aR:=x.aR
      stays:=x.stays },⟨f2,f3,.inr (.inl f4)⟩,hE _ _ q⟩
end
abbrev veB:List Value:=[.type "ValueError", .type "Exception", .type "BaseException", .type "object"]
def iB (K:PySem.W.Frag)(C:Addr):Bool:=
 PySem.W.excIn K C veB "ValueError.__new__" && (zP K (.ref C) "__getattribute__" == some (some (.builtin "BaseException.__getattribute__"))) && (zP K (.ref C) "__getattr__" == some none) &&
 (zP K (.ref C) "__class__" == some (some (.builtin "object.__class__"))) && (xZ K C (.type "object") == some true) && (xZ K C (.type "BaseException") == some true) && (PySem.W.clsIn K C).isSome &&
 (PySem.W.specialIn K (.builtin "object.__class__") "__get__" == some (some (.builtin "getset_descriptor.__get__"))) && (PySem.W.takesIn K (.builtin "object.__class__") == some true)
structure gk (K:PySem.W.Frag) (C:Addr):Prop where
 exc:PySem.W.excIn K C veB "ValueError.__new__" = true
 ga:zP K (.ref C) "__getattribute__" = some (some (.builtin "BaseException.__getattribute__"))
 gn:zP K (.ref C) "__getattr__" = some none
 cl:zP K (.ref C) "__class__" = some (some (.builtin "object.__class__"))
 ob:xZ K C (.type "object")=some true
 bx:xZ K C (.type "BaseException")=some true
 ic:(PySem.W.clsIn K C).isSome=true
 sp:PySem.W.specialIn K (.builtin "object.__class__") "__get__" = some (some (.builtin "getset_descriptor.__get__"))
 tk:PySem.W.takesIn K (.builtin "object.__class__")=some true
theorem gk.of {K:PySem.W.Frag}{C:Addr}(h:iB K C=true):gk K C:=by simp only [iB,zc,beq_iff_eq] at h;obtain ⟨⟨⟨⟨⟨⟨⟨⟨h1,h2⟩,h3⟩,h4⟩,h5⟩,h6⟩,h7⟩,h8⟩,h9⟩:=h;exact ⟨h1,h2,h3,h4,h5,h6,h7,h8,h9⟩
section
open PySem.W
variable {prog:Program}{w:World}{A:Around}{E:Value->Shared->Prop}{s:Shared}{K:PySem.W.Frag}{x C:Addr}{ox:Obj}{Q:Option Value->Shared->Prop}
end
section
variable {X:Cx}{K:PySem.W.Frag}
end
section
variable {X:Cx}{E:XK}
end
section
variable {P:Program}{w:World}{K:PySem.W.Frag}{mg:Str->Option Value}{base:Heap}
end
end L2
namespace Sm
open PySem L2 aQ
theorem OP {H:Hp}{x dx:Addr}{o1 o2:HO}(nx:H x=none)(Y3:H dx=none)(ne:dx≠x):ay H (upd (upd H dx o1) x o2):=
 (xi Y3).trans (xi (by rw [xl (Ne.symm ne)];exact nx))
theorem u7 {H:Hp}{x:Addr}{o1 o2:HO}(h:H x=none):ay H (upd (upd H x o1) x o2):=λb u e=>by
 rw [xl (xg e h),xl (xg e h)];exact e
end Sm
namespace L2
open PySem PySem.Spec PyProof.Rows
theorem Pe {X:Cx}(hu:X.A.units + 64 < cLine):gw X (compareOp .In) (λx y H Q=>∃ a o,y=.ref a/\jG H a x o/\Q (.bl o.isSome) H):=by intro ai s σ H x y v u Q I rx ry h;obtain ⟨a,o,rfl,g,q⟩:=h;cases ry;exact acG (by omega) I g rx λs' I'=>⟨.bl _,H,I',rfl,q⟩
end L2
namespace Sm
open PySem L2 aQ
def nk (x:L4):List V:=[.int (x.s:Int),.int x.a,.int (x.w:Int),.int x.z]
def iJ (kv:List (Int×Int)):List (Key×V):=kv.map λp=>(Sum.inl p.1,V.int p.2)
structure dZ (C:Addr) (H:Hp) (x b dx lL lH lA lP lD:Addr) (ls:List (Addr×L4)) (hs:List (Addr×List (Int×Int))) (os:List (Option Int)) (ns:List Int) (r:Int) (ds:List V):Prop where
 ins:H x=some (.ins C dx [("book", .ref b),("letters", .ref lL),("holders", .ref lH),("arrivals", .ref lA),("passed", .ref lP),("reached", .int r),("deeds", .ref lD)])
 Ni:H lL=some (.lst (ls.map λl=>V.ref l.1))
 rows:∀ l∈ls,H l.1=some (.tup (nk l.2))
 vE:H lH=some (.lst (hs.map λh=>V.ref h.1))
 lR:∀ h∈hs,H h.1=some (.dK (iJ h.2))
 arr:H lA=some (.lst (os.map oV))
 O6:H lP=some (.lst (ns.map V.int))
 Mu:H lD=some (.lst ds)
theorem dZ.same {C:Addr}{H H':Hp}{x b dx lL lH lA lP lD:Addr}{ls:List (Addr×L4)}{hs:List (Addr×List (Int×Int))}{os:List (Option Int)}{ns:List Int}{r:Int}{ds:List V}(t:dZ C H x b dx lL lH lA lP lD ls hs os ns r ds)(s:ay H H') :
  dZ C H' x b dx lL lH lA lP lD ls hs os ns r ds:=⟨s _ _ t.ins,s _ _ t.Ni,λl hl=>s _ _ (t.rows l hl),s _ _ t.vE,λh hh=>s _ _ (t.lR h hh),s _ _ t.arr,s _ _ t.O6,s _ _ t.Mu⟩
def lV (x:L4):Option Int:=if x.s=x.w/\x.a<=x.z then some x.a else none
def Rm (C:Addr):Sp:=λvs H Q _=>∃ x b dx lL lH lA lP lD ls hs os ns r ds,∃ n:Nat,∃ w:Int,∃ l,vs=[.ref x,.int (n:Int),.int w]/\dZ C H x b dx lL lH lA lP lD ls hs os ns r ds/\ls[n]?=some l /\
 ∀ H',ay H H'->Q (.bl (!(decide (w=l.2.s) || decide (w=l.2.w)))) H'
def iG (os:List (Option Int))(n:Nat)(l:L4)(w t:Int):List (Option Int):=if w=l.w/\t<=l.z/\os[n]?=some none then os.set n (some t) else os
def TX (C:Addr):Sp:=λvs H Q _=>∃ x b dx lL lH lA lP lD ls hs os ns r ds,∃ n:Nat,∃ w t:Int,∃ l,vs=[.ref x,.int (n:Int),.int w,.int t]/\dZ C H x b dx lL lH lA lP lD ls hs os ns r ds/\ls[n]?=some l/\n < os.length /\
 ∀ H',bN lA H H'->H' lA=some (.lst ((iG os n l.2 w t).map oV))->Q .bV H'
def OG (C:Addr):Sp:=λvs H Q _=>∃ x b dx lL lH lA lP lD ls hs os ns r ds,∃ n:Nat,∃ h,vs=[.ref x,.int (n:Int)]/\dZ C H x b dx lL lH lA lP lD ls hs os ns r ds/\hs[n]?=some h/\h.2.length < 64 /\
 ∀ l (qs:List (Addr×List Int)) H',ay H H'->H l=none->(∀ a∈qs,H a.1=none)->H' l=some (.lst (qs.map λa=>V.ref a.1))->(∀ a∈qs,H' a.1=some (.tup (a.2.map V.int)))->(qs.map (·.2)).Perm (h.2.map λp=>[p.1,p.2])->qs.Pairwise (λa b=>lx b.2 a.2=false)->Q (.ref l) H'
def TZ (C:Addr):Sp:=λvs H Q _=>∃ x b dx lL lH lA lP lD ls hs os ns r ds,vs=[.ref x]/\dZ C H x b dx lL lH lA lP lD ls hs os ns r ds/\∀ l,H l=none->Q (.ref l) (upd H l (.lst ds))
def tW (w:Int)(l:Option (Addr×L4))(h:Option (Addr×List (Int×Int))):Bool:=match l,h with
 | some l,some h=>(h.2.any λp=>decide (p.1=w)) && !(decide (w=l.2.s) || decide (w=l.2.w))
 | _,_=>false
def iL (w:Int)(ls:List (Addr×L4))(hs:List (Addr×List (Int×Int))):Nat->List Int
 | 0=>[]
 | i + 1=>iL w ls hs i++(if tW w ls[i]? hs[i]? then [(i:Int)] else [])
theorem kK (w:Int)(ls:List (Addr×L4))(hs:List (Addr×List (Int×Int))):∀ i,(iL w ls hs i).length<=i
 | 0=>zE _
 | i + 1=>by
  have:=kK w ls hs i;unfold iL;rw [zL];split <;> simp <;> omega
def Wn (C:Addr):Sp:=λvs H Q _=>∃ x b dx lL lH lA lP lD ls hs os ns r ds,∃ w:Int,vs=[.ref x,.int w]/\dZ C H x b dx lL lH lA lP lD ls hs os ns r ds/\hs.length<=41/\hs.length=ls.length /\
 ∀ l H',ay H H'->H l=none->H' l=some (.lst ((iL w ls hs hs.length).map V.int))->Q (.ref l) H'
theorem dM {kv:List (Int×Int)}{w:Int}:(cU (iJ kv) (Sum.inl w)).isSome=kv.any λp=>decide (p.1=w):=by
 unfold cU iJ;rw [xT,yn,List.find?_isSome,List.any_eq_true];constructor
 ·rintro ⟨p,hp,e⟩;obtain ⟨q,hq,rfl⟩:=zO.mp hp;have e1:=of_decide_eq_true e;exact ⟨q,hq,decide_eq_true (Sum.inl.inj e1)⟩
 ·rintro ⟨q,hq,e⟩;exact ⟨_,zO.mpr ⟨q,hq,rfl⟩,decide_eq_true (congrArg Sum.inl (of_decide_eq_true e))⟩
theorem OQ {H H':Hp}{l:Addr}{o:HO}(s:ay H H')(h:H l=none):ay H (upd H' l o):=λb u e=>by
 rw [xl (xg e h)];exact s b u e
theorem ay.but {H H':Hp}{x:Addr}(s:ay H H'):bN x H H':=λb u _ e=>s b u e
def iU (ls:List (Addr×L4))(i:Nat):List (Option Int):=((ls.take i).map λl=>lV l.2)++List.replicate (ls.length - i) none
theorem Uh (ls:List (Addr×L4)):iU ls 0=List.replicate ls.length none:=by simp [iU]
theorem O8 (ls:List (Addr×L4)):iU ls ls.length=ls.map λl=>lV l.2:=by simp [iU]
theorem O7 {ls:List (Addr×L4)}{i:Nat}(h:i<=ls.length):(iU ls i).length=ls.length:=by simp [iU];omega
theorem M8 {ls:List (Addr×L4)}{i:Nat}{l:Addr×L4}(h:ls[i]?=some l):iG (iU ls i) i l.2 (l.2.s:Int) l.2.a=iU ls (i + 1):=by
 have hi:i < ls.length:=(zB.mp h).1;have lt:((ls.take i).map λl=>lV l.2).length=i:=by simp;omega
 obtain ⟨k,ek⟩:∃ k,ls.length - i=k + 1:=⟨ls.length - i - 1,by omega⟩;have e1:ls.length - (i + 1)=k:=by omega
 have rS:(iU ls i)[i]?=some none:=by
  unfold iU;rw [zb (by omega),lt,ek,xE];rfl
 have e2:iU ls (i + 1)=((ls.take i).map λl=>lV l.2)++lV l.2::List.replicate k none:=by
  unfold iU;rw [wK h,zD,e1,List.append_assoc];rfl
 have e3:iU ls i=((ls.take i).map λl=>lV l.2)++none::List.replicate k none:=by
  unfold iU;rw [ek,yD]
 rw [e2];unfold iG;rw [rS];by_cases c:l.2.s=l.2.w/\l.2.a<=l.2.z
 ·rw [if_pos ⟨by rw [c.1],c.2,rfl⟩,e3,List.set_append_right _ _ (by omega),lt,xE];have:lV l.2=some l.2.a:=by unfold lV;rw [if_pos c]
  rw [this];rfl
 ·rw [if_neg (λz=>c ⟨by have:=z.1;omega,z.2.1⟩),e3];have:lV l.2=none:=by unfold lV;rw [if_neg c]
  rw [this]
end Sm
namespace L2
open PySem PySem.Spec PyProof.Rows
theorem RZ {X:Cx}(hu:X.A.units + 64 < cLine):YF X "dict.get" (λx xs H Q=>∃ a y o,x=.ref a/\xs=[y]/\jG H a y o/\Q (o.getD .bV) H):=by intro ai s σ H x xs v us Q I rx rs h;obtain ⟨a,y,o,rfl,rfl,g,q⟩:=h;cases rx;obtain ⟨u,rfl,ru⟩:=vals1 rs;exact Vl (by omega) I g ru λw' s' I' r'=>⟨_,H,I',r',q⟩
end L2
namespace Sm
open PySem L2 aQ
structure Tr where
 x:Addr
 b:Addr
 dx:Addr
 lL:Addr
 lH:Addr
 lA:Addr
 lP:Addr
 lD:Addr
 ls:List (Addr×L4)
 hs:List (Addr×List (Int×Int))
 os:List (Option Int)
 ns:List Int
 r:Int
 ds:List V
structure bW (C:Addr) (H:Hp) (t:Tr) (ah:List Int) (tr tm:Addr) (ps:List (Addr×M4)) (n0:Nat):Prop where
 at_:dZ C H t.x t.b t.dx t.lL t.lH t.lA t.lP t.lD t.ls t.hs t.os t.ns t.r t.ds
 bk:aM H t.b ah tr tm ps
 gd:Good ah.length (ps.map (·.2))
 rm:ah.length<=12
 lh:t.hs.length=t.ls.length
 lo:t.os.length=t.ls.length
 ln:t.ns.length=ps.length
 lC:t.ls.length<=41
 sh:∀ h∈t.hs,h.2.length<=n0
 dn:t.ds.length<=n0
 nd:t.lL≠t.lA/\t.lL≠t.lP/\t.lL≠t.lD/\t.lH≠t.lA/\t.lH≠t.lP/\t.lH≠t.lD/\t.lA≠t.lP/\t.lA≠t.lD/\t.lP≠t.lD
 Mh:(t.hs.map (·.1)).Nodup
def Tr.own (t:Tr)(c:Addr):Prop:=c=t.x\/c=t.lA\/c=t.lP\/c=t.lD\/c∈t.hs.map (·.1)
def Keeps (t:Tr)(H H':Hp):Prop:=∀ c u,¬ t.own c->H c=some u->H' c=some u
theorem Keeps.same {t:Tr}{H H':Hp}(s:ay H H'):Keeps t H H':=λc u _ e=>s c u e
theorem Keeps.trans {t:Tr}{H H1 H2:Hp}(a:Keeps t H H1)(b:Keeps t H1 H2):Keeps t H H2:=λc u n e=>b c u n (a c u n e)
theorem bW.same {C:Addr}{H H':Hp}{t:Tr}{ah:List Int}{tr tm:Addr}{ps:List (Addr×M4)}{n0:Nat}(k:bW C H t ah tr tm ps n0)(s:ay H H'):bW C H' t ah tr tm ps n0:=
 ⟨k.at_.same s,k.bk.same s,k.gd,k.rm,k.lh,k.lo,k.ln,k.lC,k.sh,k.dn,k.nd,k.Mh⟩
def aX (kv:List (Int×Int))(w:Int):Option Int:=(kv.find? λp=>decide (p.1=w)).map (·.2)
def br (kv:List (Int×Int))(w t:Int):List (Int×Int):=if (kv.any λp=>decide (p.1=w))=true then kv.map (λp=>if p.1=w then (p.1,t) else p) else kv++[(w,t)]
def dS (kv:List (Int×Int))(w:Int):List (Int×Int):=kv.filter λp=>decide (p.1≠w)
theorem fT {w:Int}:∀ {kv:List (Int×Int)},cU (iJ kv) (Sum.inl w)=(aX kv w).map V.int
 | []=>rfl
 | p::kv=>by
  have ih:=fT (w:=w) (kv:=kv);by_cases c:p.1=w
  ·rw [show iJ (p::kv)=(Sum.inl p.1,V.int p.2)::iJ kv from rfl,wo (congrArg Sum.inl c)];simp [aX,c]
  ·rw [show iJ (p::kv)=(Sum.inl p.1,V.int p.2)::iJ kv from rfl,wr (λz=>c (Sum.inl.inj z)),ih];simp [aX,c]
theorem UB {kv:List (Int×Int)}{w:Int}:(kv.any λp=>decide (p.1=w))=(aX kv w).isSome:=by rw [<-dM,fT,yn]
theorem LV {kv:List (Int×Int)}{w t:Int}:putK (iJ kv) (Sum.inl w) (.int t)=iJ (br kv w t):=by
 have e:((iJ kv).any λp=>decide (p.1=(Sum.inl w:Key)))=kv.any λp=>decide (p.1=w):=by
  unfold iJ;rw [List.any_map];congr 1;funext p;exact decide_eq_decide.mpr ⟨Sum.inl.inj,congrArg Sum.inl⟩
 unfold putK br;rw [e];split
 ·unfold iJ;rw [zg,zg];refine yN λp _=>?_;by_cases c:p.1=w
  ·simp [c]
  ·simp [c]
 ·unfold iJ;rw [zD];rfl
theorem Qj {kv:List (Int×Int)}{w:Int}:nV (iJ kv) (Sum.inl w)=iJ (dS kv w):=by unfold nV iJ dS;rw [List.filter_map];congr 1;refine List.filter_congr λp _=>?_;exact decide_eq_decide.mpr ⟨λh z=>h (congrArg Sum.inl z),λh z=>h (Sum.inl.inj z)⟩
theorem pY (kv:List (Int×Int))(w t:Int):(br kv w t).length<=kv.length + 1:=by
 unfold br;split
 ·rw [zA];omega
 ·rw [zL];exact zE _
theorem Np (kv:List (Int×Int))(w:Int):(dS kv w).length<=kv.length:=yX _ _
def Tz (L:L4)(o:Int):Bool:=!(decide (o=L.s) || decide (o=L.w))
def aN (M:M4)(g:Int):Int:=if g=M.lo then M.hi else M.lo
def kF (ah:List Int)(M:M4)(L:L4)(kv:List (Int×Int))(n:Int)(bag:Nat)(g:Int):Nat:=
 if g=M.lo\/g=M.hi then
  if below (aX kv g) M.t=true then
   if (aX kv (aN M g)).isSome=true then 5
   else if M.m<=n then 6
   else if (Tz L (aN M g) && decide ((ah[(aN M g).toNat]?.getD 0)<=(bag:Int)))=true then 7
   else 8
  else 4
 else 3
def oh (ah:List Int)(ms:List M4)(t:Tr)(m l g:Int):Nat:=
 if 0<=m/\m < ms.length/\t.r<=m then
  if 0<=l/\l < t.ls.length then
   match ms[m.toNat]?,t.ls[l.toNat]?,t.hs[l.toNat]? with
   | some M,some L,some h=>kF ah M L.2 h.2 (t.ns[m.toNat]?.getD 0) (iL (aN M g) t.ls t.hs t.hs.length).length g
   | _,_,_=>2
  else 2
 else 1
def Ym (ah:List Int)(t:Tr)(l w:Int):Nat:=
 if 0<=l/\l < t.ls.length then
  if 0<=w/\w < ah.length then
   match t.hs[l.toNat]? with
   | some h=>if (aX h.2 w).isSome=true then 8 else 4
   | none=>4
  else 3
 else 2
inductive Dd where
 | pass (give:Bool) (m l g:Int)
 | drop (l w:Int)
def sr:Bool->Str
 | true=>Str.ofString "give"
 | false=>Str.ofString "copy"
def Dd.vs:Dd->List V
 | .pass gv m l g=>[.str (sr gv),.int m,.int l,.int g]
 | .drop l w=>[.str (Str.ofString "drop"),.int l,.int w]
def Yl (ah:List Int)(ms:List M4)(t:Tr):Dd->Nat
 | .pass _ m l g=>oh ah ms t m l g
 | .drop l w=>Ym ah t l w
def Tr.iw (t:Tr)(l:Nat)(kv:List (Int×Int)):Tr:={ t with hs:=match t.hs[l]? with | some h=>t.hs.set l (h.1,kv) | none=>t.hs }
def Tr.kv (t:Tr)(l:Nat):List (Int×Int):=match t.hs[l]? with | some h=>h.2 | none=>[]
def Tr.bZ (t:Tr)(m l:Nat)(M:M4)(L:L4)(o:Int):Tr:=
 { t.iw l (br (t.kv l) o M.t) with ns:=t.ns.set m (t.ns[m]?.getD 0 + 1),r:=m,os:=iG t.os l L o M.t }
def Tr.lE (t:Tr)(give:Bool)(m l:Nat)(g:Int)(M:M4)(L:L4):Tr:=
 if give=true then (t.bZ m l M L (aN M g)).iw l (dS ((t.bZ m l M L (aN M g)).kv l) g) else t.bZ m l M L (aN M g)
def Tr.nW (t:Tr)(ms:List M4)(y:V)(d:Dd):Tr:={ (match d with
 | .pass give m l g=>(match ms[m.toNat]?,t.ls[l.toNat]? with | some M,some L=>t.lE give m.toNat l.toNat g M L.2 | _,_=>t)
 | .drop l w=>t.iw l.toNat (dS (t.kv l.toNat) w)) with ds:=t.ds++[y] }
section
variable {C:Addr}{H H':Hp}{t:Tr}{ah:List Int}{tr tm:Addr}{ps:List (Addr×M4)} {n0:Nat}
theorem bW.UC (k:bW C H t ah tr tm ps n0){l:Nat}(hl:l < t.ls.length):∃ h,t.hs[l]?=some h/\t.kv l=h.2/\H h.1=some (.dK (iJ h.2)):=by have hh:t.hs[l]?=some (t.hs[l]'(by rw [k.lh];exact hl)):=zG _;refine ⟨_,hh,?_,k.at_.lR _ (zh _)⟩;unfold Tr.kv;rw [hh]
theorem bW.Xs (k:bW C H t ah tr tm ps n0){l:Nat}{h:Addr×List (Int×Int)}(hh:t.hs[l]?=some h){kv:List (Int×Int)}(lk:kv.length<=n0):bW C (upd H h.1 (.dK (iJ kv))) (t.iw l kv) ah tr tm ps n0:=by
 have hl:l < t.hs.length:=(zB.mp hh).1;have eh:t.hs[l]=h:=(zB.mp hh).2;have hm:=zC hh;have hd:=k.at_.lR h hm;have e:(t.iw l kv)={ t with hs:=t.hs.set l (h.1,kv) }:=by unfold Tr.iw;rw [hh]
 rw [e];have em:(t.hs.set l (h.1,kv)).map (·.1)=t.hs.map (·.1):=by
  rw [yq];refine List.ext_getElem (by simp) λi h1 h2=>?_;rw [List.getElem_set];split
  ·rename_i z;subst z;simp [eh]
  ·rfl
 have nL:∀ {c:Addr}{o:HO},H c=some o->(∀ z,o≠.dK z)->upd H h.1 (.dK (iJ kv)) c=some o:=λ{c o} e n=>by rw [xl (wU e hd (by intro z;exact n _ z))];exact e
 have tu:bM H (upd H h.1 (.dK (iJ kv))):=bM.Wt hd;refine ⟨⟨nL k.at_.ins (by intro _ z;cases z),nL k.at_.Ni (by intro _ z;cases z),λl hl=>tu _ _ (k.at_.rows l hl),?_,λg hg=>?_,nL k.at_.arr (by intro _ z;cases z),nL k.at_.O6 (by intro _ z;cases z),nL k.at_.Mu (by intro _ z;cases z)⟩,k.bk.aT tu,k.gd,k.rm,by rw [List.length_set];exact k.lh,k.lo,k.ln,k.lC,λg hg=>?_,k.dn,k.nd,by rw [em];exact k.Mh⟩
 ·have:=nL k.at_.vE (by intro _ z;cases z);rw [this];congr 2;have:=congrArg (List.map V.ref) em;rw [zg,zg] at this;exact this.symm
 ·obtain ⟨j,hj⟩:=zv.mp hg;rw [List.getElem?_set] at hj;by_cases c:l=j
  ·subst c;rw [if_pos rfl,if_pos hl] at hj;cases hj;exact xa
  ·rw [if_neg c] at hj;have r9:j < t.hs.length:=(zB.mp hj).1;have eg:t.hs[j]=g:=(zB.mp hj).2;have ne:g.1≠h.1:=λz=>by
    have:=z4.mp k.Mh;have l1:l < (t.hs.map (·.1)).length:=by rw [zA];exact hl
    have l2:j < (t.hs.map (·.1)).length:=by rw [zA];exact r9
    rcases Nat.lt_or_gt_of_ne c with cc | cc
    ·exact this l j l1 l2 cc (by rw [yx,yx,eh,eg];exact z.symm)
    ·exact this j l l2 l1 cc (by rw [yx,yx,eh,eg];exact z)
   rw [xl ne];exact k.at_.lR g (zC hj)
 ·rcases List.mem_or_eq_of_mem_set hg with h1 | h1
  ·exact k.sh g h1
  ·rw [h1];exact lk
theorem bW.XH (k:bW C H t ah tr tm ps n0){l:Nat}{h:Addr×List (Int×Int)}(hh:t.hs[l]?=some h){o:HO}:Keeps t H (upd H h.1 o):=λc u n e=>by
 rw [xl λz=>n (.inr (.inr (.inr (.inr (by rw [z];exact zO.mpr ⟨h,zC hh,rfl⟩)))))];exact e
theorem bW.abd (k:bW C H t ah tr tm ps n0){ns:List Int}(ln:ns.length=ps.length):bW C (upd H t.lP (.lst (ns.map V.int))) { t with ns:=ns } ah tr tm ps n0:=by
 obtain ⟨n1,n2,n3,n4,n5,n6,n7,n8,n9⟩:=k.nd;have tu:bM H (upd H t.lP (.lst (ns.map V.int))):=bM.set k.at_.O6;have nL:∀ {c:Addr}{o:HO},H c=some o->(∀ z,o≠.lst z)->upd H t.lP (.lst (ns.map V.int)) c=some o:=λ{c o} e n=>by rw [xl (wU e k.at_.O6 (by intro z;exact n _ z))];exact e
 exact ⟨⟨nL k.at_.ins (by intro _ z;cases z),by rw [xl n2];exact k.at_.Ni,λl hl=>tu _ _ (k.at_.rows l hl),by rw [xl n5];exact k.at_.vE,λh hh=>nL (k.at_.lR h hh) (by intro _ z;cases z),by rw [xl n7];exact k.at_.arr,xa,by rw [xl n9.symm];exact k.at_.Mu⟩,k.bk.aT tu,k.gd,k.rm,k.lh,k.lo,ln,k.lC,k.sh,k.dn,k.nd,k.Mh⟩
theorem bW.Yj (k:bW C H t ah tr tm ps n0){y:V}(dn:t.ds.length < n0):bW C (upd H t.lD (.lst (t.ds++[y]))) { t with ds:=t.ds++[y] } ah tr tm ps n0:=by
 obtain ⟨n1,n2,n3,n4,n5,n6,n7,n8,n9⟩:=k.nd;have tu:bM H (upd H t.lD (.lst (t.ds++[y]))):=bM.set k.at_.Mu;have nL:∀ {c:Addr}{o:HO},H c=some o->(∀ z,o≠.lst z)->upd H t.lD (.lst (t.ds++[y])) c=some o:=λ{c o} e n=>by rw [xl (wU e k.at_.Mu (by intro z;exact n _ z))];exact e
 exact ⟨⟨nL k.at_.ins (by intro _ z;cases z),by rw [xl n3];exact k.at_.Ni,λl hl=>tu _ _ (k.at_.rows l hl),by rw [xl n6];exact k.at_.vE,λh hh=>nL (k.at_.lR h hh) (by intro _ z;cases z),by rw [xl n8];exact k.at_.arr,by rw [xl n9];exact k.at_.O6,xa⟩,k.bk.aT tu,k.gd,k.rm,k.lh,k.lo,k.ln,k.lC,k.sh,by show (t.ds++[y]).length<=n0;rw [zL];exact dn,k.nd,k.Mh⟩
theorem bW.acO (k:bW C H t ah tr tm ps n0){os:List (Option Int)}(lo:os.length=t.ls.length)(b:bN t.lA H H')(h:H' t.lA=some (.lst (os.map oV))):bW C H' { t with os:=os } ah tr tm ps n0:=by obtain ⟨n1,n2,n3,n4,n5,n6,n7,n8,n9⟩:=k.nd;have nL:∀ {c:Addr}{o:HO},H c=some o->(∀ z,o≠.lst z)->H' c=some o:=λ{c o} e n=>b _ _ (wU e k.at_.arr (by intro z;exact n _ z)) e;have tu:bM H H':=λc xs e=>nL e (by intro _ z;cases z);exact ⟨⟨nL k.at_.ins (by intro _ z;cases z),b _ _ n1 k.at_.Ni,λl hl=>tu _ _ (k.at_.rows l hl),b _ _ n4 k.at_.vE,λh hh=>nL (k.at_.lR h hh) (by intro _ z;cases z),h,b _ _ n7.symm k.at_.O6,b _ _ n8.symm k.at_.Mu⟩,k.bk.aT tu,k.gd,k.rm,k.lh,lo,k.ln,k.lC,k.sh,k.dn,k.nd,k.Mh⟩
theorem bW.aa4 (k:bW C H t ah tr tm ps n0){r:Int}:bW C (upd H t.x (.ins C t.dx [("book", .ref t.b),("letters", .ref t.lL),("holders", .ref t.lH),("arrivals", .ref t.lA),("passed", .ref t.lP),("reached", .int r),("deeds", .ref t.lD)])) { t with r:=r } ah tr tm ps n0:=by
 have nL:∀ {c:Addr}{o:HO},H c=some o->(∀ a b z,o≠.ins a b z)->upd H t.x (.ins C t.dx [("book", .ref t.b),("letters", .ref t.lL),("holders", .ref t.lH),("arrivals", .ref t.lA),("passed", .ref t.lP),("reached", .int r),("deeds", .ref t.lD)]) c=some o:=λ{c o} e n=>by rw [xl (wU e k.at_.ins (by intro z;exact n _ _ _ z))];exact e
 have tu:bM H (upd H t.x (.ins C t.dx [("book", .ref t.b),("letters", .ref t.lL),("holders", .ref t.lH),("arrivals", .ref t.lA),("passed", .ref t.lP),("reached", .int r),("deeds", .ref t.lD)])):=λc xs e=>nL e (by intro _ _ _ z;cases z);exact ⟨⟨xa,nL k.at_.Ni (by intro _ _ _ z;cases z),λl hl=>tu _ _ (k.at_.rows l hl),nL k.at_.vE (by intro _ _ _ z;cases z),λh hh=>nL (k.at_.lR h hh) (by intro _ _ _ z;cases z),nL k.at_.arr (by intro _ _ _ z;cases z),nL k.at_.O6 (by intro _ _ _ z;cases z),nL k.at_.Mu (by intro _ _ _ z;cases z)⟩,k.bk.aT tu,k.gd,k.rm,k.lh,k.lo,k.ln,k.lC,k.sh,k.dn,k.nd,k.Mh⟩
end
theorem bW.mono {C:Addr}{H:Hp}{t:Tr}{ah:List Int}{tr tm:Addr}{ps:List (Addr×M4)}{n0 n1:Nat}(k:bW C H t ah tr tm ps n0)(l:n0<=n1):bW C H t ah tr tm ps n1:=
 ⟨k.at_,k.bk,k.gd,k.rm,k.lh,k.lo,k.ln,k.lC,λh hh=>zi (k.sh h hh) l,zi k.dn l,k.nd,k.Mh⟩
theorem Keeps.put {t:Tr}{H:Hp}{c:Addr}{o:HO}(h:t.own c):Keeps t H (upd H c o):=λa u n e=>by
 rw [xl λz=>n (by rw [z];exact h)];exact e
theorem Keeps.but {t:Tr}{H H':Hp}{c:Addr}(h:t.own c)(b:bN c H H'):Keeps t H H':=λa u n e=>b a u (λz=>n (by rw [z];exact h)) e
def OD (C:Addr):Sp:=λvs H Q _=>∃ t,∃ m l:Nat,∃ g M L ah tr tm ps n0,vs=[.ref t.x,.int (m:Int),.int (l:Int),.int g]/\bW C H t ah tr tm ps n0/\(ps.map (·.2))[m]?=some M/\t.ls[l]?=some L/\(g=M.lo\/g=M.hi)/\n0 < 200 /\
 ∀ H',Keeps t H H'->bW C H' (t.bZ m l M L.2 (aN M g)) ah tr tm ps (n0 + 1)->Q .bV H'
theorem Nc {os:List (Option Int)}{n:Nat}{l:L4}{w t:Int}:(iG os n l w t).length=os.length:=by
 unfold iG;split
 ·rw [List.length_set]
 ·rfl
def T5:Sp:=λvs H Q _=>∃ a ns,vs=[.ref a]/\H a=some (.tup (List.map V.int ns))/\ns.length<=10/\∀ H',ay H H'->Q (.bl true) H'
theorem Qp {ah:List Int}{ms:List M4}{t:Tr}{m l g:Int}(lh:t.hs.length=t.ls.length)(e:oh ah ms t m l g=8):∃ (m' l':Nat) (M:M4) (L:Addr×L4) (h:Addr×List (Int×Int)),m=m'/\l=l'/\ms[m']?=some M/\t.ls[l']?=some L/\t.hs[l']?=some h/\t.r<=m/\(g=M.lo\/g=M.hi)/\below (aX h.2 g) M.t=true/\(aX h.2 (aN M g)).isSome=false/\kF ah M L.2 h.2 (t.ns[m']?.getD 0) (iL (aN M g) t.ls t.hs t.hs.length).length g=8:=by
 unfold oh at e;split at e
 ·rename_i c1;split at e
  ·rename_i c2;obtain ⟨m',rfl⟩:=zd c1.1;obtain ⟨l',rfl⟩:=zd c2.1;rw [zf,zf] at e;have h1:ms[m']?=some (ms[m']'(by omega)):=zG _;have h2:t.ls[l']?=some (t.ls[l']'(by omega)):=zG _;have h3:t.hs[l']?=some (t.hs[l']'(by omega)):=zG _;rw [h1,h2,h3] at e;refine ⟨m',l',_,_,_,rfl,rfl,h1,h2,h3,c1.2.2,?_⟩;have e':=e;dsimp only at e;unfold kF at e;split at e
   ·rename_i c3;split at e
    ·rename_i c4;split at e
     ·cases e
     ·rename_i c5;exact ⟨c3,c4,Bool.not_eq_true _ ▸ c5,e'⟩
    ·cases e
   ·cases e
  ·cases e
 ·cases e
theorem RM {w:Int}{ms:List M4}{M:M4}{m:Nat}{g:Int}(gd:Good w ms)(hM:ms[m]?=some M):0<=aN M g/\aN M g < w:=by obtain ⟨h1,h2,h3,_⟩:=gd.each M (zC hM);unfold aN;split <;> omega
theorem pZ {kv:List (Int×Int)}{o t g:Int}:aX (br kv o t) g=if g=o then some t else aX kv g:=by
 have h:=mK (iJ kv) (Sum.inl o:Key) (Sum.inl g) (V.int t);rw [LV,fT,fT] at h;by_cases c:g=o
 ·rw [if_pos (congrArg Sum.inl c)] at h;rw [if_pos c];cases e:aX (br kv o t) g with
  | none=>rw [e] at h;cases h
  | some y=>rw [e] at h;cases h;rfl
 ·rw [if_neg λz=>c (Sum.inl.inj z)] at h;rw [if_neg c];cases e:aX (br kv o t) g with
  | none=>
   cases e2:aX kv g with
   | none=>rfl
   | some y=>rw [e,e2] at h;cases h
  | some y=>
   cases e2:aX kv g with
   | none=>rw [e,e2] at h;cases h
   | some z=>rw [e,e2] at h;cases h;rfl
theorem vU {o:Option Int}{t:Int}(h:below o t=true):o.isSome=true:=by
 cases o with
 | none=>cases h
 | some _=>rfl
theorem M7 {C:Addr}{H:Hp}{t:Tr}{ah:List Int}{tr tm:Addr}{ps:List (Addr×M4)}{n0 m l:Nat}{M:M4}{L:L4}{o:Int}{h:Addr×List (Int×Int)}(hh:t.hs[l]?=some h):(t.bZ m l M L o).hs[l]?=some (h.1,br h.2 o M.t)/\(t.bZ m l M L o).kv l=br h.2 o M.t:=by
 have hl:l < t.hs.length:=(zB.mp hh).1;have e1:(t.bZ m l M L o).hs[l]?=some (h.1,br h.2 o M.t):=by
  show (match t.hs[l]? with | some h=>t.hs.set l (h.1,br (t.kv l) o M.t) | none=>t.hs)[l]?=_;have ek:t.kv l=h.2:=by unfold Tr.kv;rw [hh]
  rw [hh,ek];exact List.getElem?_set_self hl
 refine ⟨e1,?_⟩;unfold Tr.kv;rw [e1]
theorem bN.free {x c:Addr}{H H':Hp}(b:bN x H H')(n:c≠x)(h:H' c=none):H c=none:=by
 cases z:H c with
 | none=>rfl
 | some u=>have:=b _ _ n z;rw [h] at this;cases this
structure New (H:Hp) (x b:Addr) (ls:List (Addr×L4)) (m:Nat) (t:Tr):Prop where
 ex:t.x=x
 eb:t.b=b
 el:t.ls=ls
 eh:t.hs.map (·.2)=ls.map λl=>[((l.2.s:Int),l.2.a)]
 eo:t.os=ls.map λl=>lV l.2
 en:t.ns=List.replicate m 0
 er:t.r=0
 ed:t.ds=[]
 fr:∀ c,t.own c\/c=t.lL\/c=t.lH->c=x\/H c=none
def Rq (C:Addr):Sp:=λvs H Q _=>∃ x dx b l0 ls ah tr tm ps,vs=[.ref x,.ref b,.ref l0]/\H x=some (.ins C dx [])/\aM H b ah tr tm ps/\Good ah.length (ps.map (·.2))/\ah.length<=12/\H l0=some (.lst (ls.map λl=>V.ref l.1))/\(∀ l∈ls,H l.1=some (.tup (nk l.2)))/\ls.length<=41 /\
 ∀ t H',bN x H H'->bW C H' t ah tr tm ps 1->New H x b ls ps.length t->Q .bV H'
structure aiG (t u:Tr):Prop where
 ls:t.ls=u.ls
 hs:t.hs.map (·.2)=u.hs.map (·.2)
 os:t.os=u.os
 ns:t.ns=u.ns
 r:t.r=u.r
structure oH (t u:Tr):Prop where
 x:u.x=t.x
 b:u.b=t.b
 lL:u.lL=t.lL
 lH:u.lH=t.lH
 lA:u.lA=t.lA
 lP:u.lP=t.lP
 lD:u.lD=t.lD
 ls:u.ls=t.ls
 hs:u.hs.map (·.1)=t.hs.map (·.1)
theorem oH.own {t u:Tr}(s:oH t u)(c:Addr):u.own c↔t.own c:=by unfold Tr.own;rw [s.x,s.lA,s.lP,s.lD,s.hs]
theorem qz (t:Tr)(l:Nat)(kv:List (Int×Int)):(t.iw l kv).hs.map (·.1)=t.hs.map (·.1):=by
 unfold Tr.iw;dsimp only;cases h:t.hs[l]? with
 | none=>rfl
 | some a=>
  dsimp only;have hl:l < t.hs.length:=(zB.mp h).1;have eh:t.hs[l]=a:=(zB.mp h).2;rw [yq];refine List.ext_getElem (by simp) λi h1 h2=>?_;rw [List.getElem_set];split
  ·rename_i z;subst z;simp [eh]
  ·rfl
theorem Qk (t:Tr)(ms:List M4)(y:V)(d:Dd):oH t (t.nW ms y d):=by
 cases d with
 | drop l w=>exact ⟨rfl,rfl,rfl,rfl,rfl,rfl,rfl,rfl,qz _ _ _⟩
 | pass gv m l g=>
  have key:oH t (match ms[m.toNat]?,t.ls[l.toNat]? with | some M,some L=>t.lE gv m.toNat l.toNat g M L.2 | _,_=>t):=by
   cases ms[m.toNat]? with
   | none=>exact ⟨rfl,rfl,rfl,rfl,rfl,rfl,rfl,rfl,rfl⟩
   | some M=>
    cases t.ls[l.toNat]? with
    | none=>exact ⟨rfl,rfl,rfl,rfl,rfl,rfl,rfl,rfl,rfl⟩
    | some L=>
     dsimp only;have e1:((t.bZ m.toNat l.toNat M L.2 (aN M g)).hs).map (·.1)=t.hs.map (·.1):=qz t _ _;unfold Tr.lE;cases gv with
     | false=>exact ⟨rfl,rfl,rfl,rfl,rfl,rfl,rfl,rfl,e1⟩
     | true=>
      rw [if_pos rfl];exact ⟨rfl,rfl,rfl,rfl,rfl,rfl,rfl,rfl,(qz _ _ _).trans e1⟩
  exact ⟨key.x,key.b,key.lL,key.lH,key.lA,key.lP,key.lD,key.ls,key.hs⟩
theorem bW.there {C:Addr}{H:Hp}{t:Tr}{ah:List Int}{tr tm:Addr}{ps:List (Addr×M4)}{n0:Nat}(k:bW C H t ah tr tm ps n0){c:Addr}(h:t.own c\/c=t.lL\/c=t.lH):∃ o,H c=some o/\∀ xs,o≠.tup xs:=by
 rcases h with (rfl | rfl | rfl | rfl | h) | rfl | rfl
 ·exact ⟨_,k.at_.ins,by intro _ z;cases z⟩
 ·exact ⟨_,k.at_.arr,by intro _ z;cases z⟩
 ·exact ⟨_,k.at_.O6,by intro _ z;cases z⟩
 ·exact ⟨_,k.at_.Mu,by intro _ z;cases z⟩
 ·obtain ⟨g,hg,rfl⟩:=zO.mp h;exact ⟨_,k.at_.lR g hg,by intro _ z;cases z⟩
 ·exact ⟨_,k.at_.Ni,by intro _ z;cases z⟩
 ·exact ⟨_,k.at_.vE,by intro _ z;cases z⟩
section
variable {C:Addr} {H0 H H':Hp}{t u:Tr}{ah:List Int}{tr tm:Addr}{ps:List (Addr×M4)} {n0 n1:Nat}
end
theorem map_some {α β:Type}{f:α->β}{o o':Option α}{a:α}(e:o.map f=o'.map f)(h:o'=some a):∃ b,o=some b/\f b=f a:=by
 subst h;cases o with
 | none=>cases e
 | some b=>exact ⟨b,rfl,Option.some.inj e⟩
open Classical in
noncomputable def cut (M:Addr->Prop) (H:Hp):Hp:=λc=>if M c then none else H c
end Sm
namespace L2
open PySem PySem.Spec PyProof.Rows
section
variable {X:Cx}
end
end L2
namespace Sm
open PySem L2 aQ
section
variable {CA CH CN:Addr}{H:Hp}{r:Addr}{n:Nat}{σ:St}{i:Nat}{Q:VK} {E1 E2 E3:XK}
end
section
variable {ah:List Int}{ms:List M4}{d:Yz}{m j:Nat}{M:M4}{L:L4}{s:RS}{t:Tr}{ts:List (Addr×List (Option Int))}{ys:List (Addr×Dd)}{x:Addr×List (Option Int)}{g:Int}
end
def lY:Sp:=λ_ _ _ _=>False
abbrev Ds:=List (V×Option (Int×Int))
def acw (ms:List M4)(d:Option (Int×Int)):Bool:=match d with
 | none=>false
 | some (k,g)=>decide (0<=k) && (decide (k < ms.length) && (match ms[k.toNat]? with | some m=>decide (g=m.lo) || decide (g=m.hi) | none=>false))
def ttr (ms:List M4):Fn->Int->List (Option (Int×Int))->Option Fn
 | f,_,[]=>some f
 | _,_,none::_=>none
 | f,bh,some (k,g)::r=>match ms[k.toNat]? with
  | none=>none
  | some m=>if acw ms (some (k,g))=true/\bh < k/\below (f g.toNat) m.t=true then ttr ms (aH f ⟨g.toNat,(if g=m.lo then m.hi else m.lo).toNat,m.t⟩) k r else none
def tt (ms:List M4)(s:Nat)(a:Int):Option Ds->Option Fn
 | none=>none
 | some ps=>ttr ms (av s a) (-1) (ps.map (·.2))
def eO (H:Hp)(l:Addr)(n:Nat)(ws:List (Addr×Nat×Int)):Prop:=H l=some (.lst (ws.map λx=>V.ref x.1))/\∀ x∈ws,H x.1=some (.tup [.int (x.2.1:Int),.int x.2.2])/\x.2.1 < n
theorem eO.same {H H':Hp}{l:Addr}{n:Nat}{ws:List (Addr×Nat×Int)}(h:eO H l n ws)(s:ay H H'):eO H' l n ws:=⟨s _ _ h.1,λx hx=>⟨s _ _ (h.2 x hx).1,(h.2 x hx).2⟩⟩
theorem PY {g a b:Int}:vC (V.int g) [V.int a,V.int b]=(decide (g=a) || decide (g=b)):=by rw [Sb];congr 1 <;> exact decide_eq_decide.mpr eq_comm
section
variable {K:PySem.W.Frag}{H:Hp}{σ:St}{lt p:Addr}{n g:Nat}{f:Fn}{t:Int}{Q:VK}
end
section
variable {K:PySem.W.Frag}{H:Hp}{a b:Addr}{xs ys:List V}{lo hi:Option Int}{Q:VK}
end
section
variable {K:PySem.W.Frag}{D:Ends}{σ:St}{HI H:Hp}{l la lb lf:Addr}{x:V}{ss A C:List (Addr×Int×Int)}{n:Nat}{o:Option (Int×Int)}
end
section
variable {K:PySem.W.Frag}{D:Ends} {HI H0:Hp}{l la lb lf lm:Addr}{ms:List V}{ss A C:List (Addr×Int×Int)}{n:Nat} {s0 s1 s2 s3 s4 s5 s6 s8:Option V}
end
section
variable {K:PySem.W.Frag}{σ:St}{H:Hp}
end
section
variable {K:PySem.W.Frag}{σ:St}{H:Hp}
end
end Sm
namespace L2
end L2
namespace Sm
open PySem L2
def bag (bs:List Int)(w:Int):Int:=bs.getD w.toNat 0
theorem R0 {α:Type}{ps:List (Addr×α)}{i:Nat}{r:Addr×α}(h:ps[i]?=some r):(ps.map (·.2))[i]?=some r.2:=by rw [zF,h];rfl
def g36 (xs:List Int)(k:Nat):Int:=xs.getD k 0
def pk (rs:List Int)(a:Int):Option Nat->Int
 | none=>a
 | some k=>g36 rs k
theorem Wz {s d M:Int}(e:s=1 + d)(h:d < M):s<=M:=by omega
end Sm
namespace L2
open PySem PySem.Spec PyProof.Rows
section
variable {prog:Program}{w:World}{A:Around}{R:Result->Shared->Prop}{s:Shared} {elt t1 i1 t2 i2:Expr} {agG agF:List Expr}{scope:Scope}{pos:Pos}{it acc:Value}{env:Env}
abbrev tests (ifs:List Expr)(env:Env):Sem Bool:=forIn ifs true λc r=>if r=true then do let ok <- isTrue c env (eval c env);pure (ForInStep.yield ok) else pure (ForInStep.yield r)
end
section
variable {X:Cx}{ai:List (Addr×Obj)}{σ:St}{H:Hp}{s:Shared}
end
section
variable {K:PySem.W.Frag}{a b:Addr}{xs ys:List V}{n:Nat}{caps:List Nat} {g g2:TG} {tc tc2:TT} {wi2:TI}{te:TE} {σ τ0:St}{H:Hp} {aih:List V}{Qf:Addr->Hp->List V->Prop}{C:St->List V->Hp->Prop}
end
end L2
namespace Sm
open PySem L2
theorem getD_at {α:Type}{l:List α}{i:Nat}{x d:α}(h:l[i]?=some x):l.getD i d=x:=by rw [zS,h];rfl
end Sm
namespace Sm
open PySem L2 aQ
def flip (a:Nat):Nat:=if a % 2=0 then a + 1 else a - 1
structure Tie where
 h:Nat
 t:Nat
 m:Int
def hd (ts:List Tie)(a:Nat):Nat:=match ts[a / 2]? with
 | some x=>if a % 2=0 then x.t else x.h
 | none=>0
def tl (ts:List Tie)(a:Nat):Nat:=hd ts (flip a)
def sS (L:L4)(M:M4):Prop:=L.a < M.t/\L.s≠L.w/\(M.lo=(L.s:Int)\/M.hi=(L.s:Int))/\(M.lo=(L.w:Int)\/M.hi=(L.w:Int))
instance (L:L4) (M:M4):Decidable (sS L M):=by unfold sS;infer_instance
section
variable {ah:List Int}{ms:List M4}{ls:List (Addr×L4)}{d:Yz}{m j:Nat}{s:RS}{M:M4}{L:Addr×L4}{o:Option (Nat×Int)}
end
theorem cO:∀ {ms:List M4}{t:Int},(ms.Pairwise λa b=>a.t<=b.t)->∀ {j:Nat}{m:M4},ms[j]?=some m->(j < cnt ms t↔m.t<=t)
 | [],t,_,j,m,h=>by simp at h
 | a::ms,t,o,j,m,h=>by
  have o:=List.pairwise_cons.mp o;by_cases c:a.t<=t
  ·have e:cnt (a::ms) t=cnt ms t + 1:=by unfold cnt;rw [List.filter_cons,if_pos (by simp [c])];rfl
   rw [e];cases j with
   | zero=>cases h;exact ⟨λ_=>c,λ_=>by omega⟩
   | succ j=>rw [<-cO (t:=t) o.2 (j:=j) h];omega
  ·have e:cnt (a::ms) t=0:=by
    unfold cnt;rw [List.filter_cons,if_neg (by simp [c]),List.filter_eq_nil_iff.mpr (λm hm=>by have:=o.1 m hm;simp;omega)];rfl
   rw [e];have:a.t<=m.t:=by
    cases j with
    | zero=>cases h;exact ze _
    | succ j=>exact o.1 m (zC h)
   omega
theorem Vn (ms:List M4)(t:Int):cnt ms t<=ms.length:=yX _ _
theorem jw {ms:List M4}(o:ms.Pairwise λa b=>a.t<=b.t){x z:Int}(h:x<=z):cnt ms x<=cnt ms z:=by refine Classical.byContradiction λc=>?_;have l:=Vn ms x;have e:ms[cnt ms z]?=some ms[cnt ms z]:=zG (by omega);have h1:=(cO (t:=x) o e).mp (by omega);have h2:=(cO (t:=z) o e).mpr (by omega);omega
section
variable {lo hi:Nat->Nat}{g:Nat->Option Nat} {a s0:Nat}
end
end Sm
namespace Sm
open PySem L2
def SS (n:Nat)(f:Nat->Int):Int:=((List.range n).map f).sum
theorem jB {n:Nat}{f:Nat->Int}:SS (n + 1) f=SS n f + f n:=by unfold SS;rw [xI,zD,yJ];simp
theorem MF {n:Nat}{f g:Nat->Int}(h:∀ k,k < n->f k<=g k):SS n f<=SS n g:=by
 induction n with
 | zero=>exact ze _
 | succ n ih=>
  rw [jB,jB];have:=ih λk hk=>h k (by omega);have:=h n (by omega);omega
theorem Qz {n:Nat}{f g:Nat->Int}(h:∀ k,k < n->f k=g k):SS n f=SS n g:=by
 have a:=MF (n:=n) (f:=f) (g:=g) λk hk=>by rw [h k hk];exact ze _
 have b:=MF (n:=n) (f:=g) (g:=f) λk hk=>by rw [h k hk];exact ze _
 omega
theorem ME (n:Nat):SS n (λ_=>0)=0:=by
 induction n with
 | zero=>rfl
 | succ n ih=>rw [jB,ih];rfl
theorem LG {n:Nat}{f:Nat->Int}{j:Nat}{x:Int}(h:j < n):SS n (λk=>if k=j then x else f k) + f j=SS n f + x:=by
 induction n with
 | zero=>omega
 | succ n ih=>
  rw [jB,jB];by_cases e:j=n
  ·subst e;rw [if_pos rfl,Qz (f:=λk=>if k=j then x else f k) (g:=f) λk hk=>by rw [if_neg (by omega)]];omega
  ·have:=ih (by omega);rw [if_neg (by omega:¬ n=j)];omega
theorem Vs {n:Nat}{f g:Nat->Int}{i j:Nat}(hi:i < n)(hj:j < n)(ne:i≠j)(h:∀ k,k < n->k≠i->k≠j->f k<=g k):SS n f + g i + g j<=SS n g + f i + f j:=by
 have a:=LG (n:=n) (f:=g) (x:=f i) hi;have b:=LG (n:=n) (f:=λk=>if k=i then f i else g k) (x:=f j) hj;rw [if_neg (Ne.symm ne)] at b;have c:=MF (n:=n) (f:=f) (g:=λk=>if k=j then f j else if k=i then f i else g k) λk hk=>by
  by_cases e1:k=j
  ·rw [if_pos e1,e1];exact ze _
  ·rw [if_neg e1];by_cases e2:k=i
   ·rw [if_pos e2,e2];exact ze _
   ·rw [if_neg e2];exact h k hk e2 e1
 omega
theorem Vt {n:Nat}{j:Nat}{x:Int}(h:j < n):SS n (λk=>if k=j then x else 0)=x:=by have:=LG (n:=n) (f:=λ_=>0) (x:=x) h;rw [ME] at this;omega
section
variable {ah:List Int}{ms:List M4}{ls ws:List S3}{gs ts:List Bool}{rs:List (List Int)}
end
end Sm
namespace L2
open PySem PySem.Spec PyProof.Rows
end L2
namespace Sm
open PySem L2
abbrev rT:=Addr×List Int
abbrev dD:=Addr×List rT
structure lW (H:Hp) (l:Addr) (nm w sz:Nat) (P:List dD):Prop where
 top:H l=some (.lst (P.map λa=>V.ref a.1))
 str:∀ a∈P,H a.1=some (.lst (a.2.map λb=>V.ref b.1))
 row:∀ a∈P,∀ b∈a.2,H b.1=some (.lst (b.2.map V.int))
 len:P.length=nm + 1
 wid:∀ a∈P,a.2.length=w
 siz:∀ a∈P,∀ b∈a.2,b.2.length=sz
 pos:∀ a∈P,∀ b∈a.2,∀ x∈b.2,(0:Int)<=x
theorem lW.same {H H':Hp}{l:Addr}{nm w sz:Nat}{P:List dD}(h:lW H l nm w sz P)(s:ay H H'):lW H' l nm w sz P:=
 ⟨s _ _ h.top,λa ha=>s _ _ (h.str a ha),λa ha b hb=>s _ _ (h.row a ha b hb),h.len,h.wid,h.siz,h.pos⟩
abbrev Yv:=List (List (List Int))
def aV (P:List dD):Yv:=P.map λa=>a.2.map (·.2)
def cP (V:Yv)(i j s:Nat):Int:=((V.getD i []).getD j []).getD s 0
theorem MD {P:List dD}{i j s:Nat}{a:dD}{b:rT}(h1:P[i]?=some a)(h2:a.2[j]?=some b):cP (aV P) i j s=b.2.getD s 0:=by unfold cP aV;simp only [zS,zF,h1,yi,Option.getD_some,h2]
theorem Vb {xs:List Int}{s:Nat}{x:Int}(h:xs[s]?=some x):xs.getD s 0=x:=by rw [zS,h];rfl
theorem dY (ms:List M4)(z:Int):cnt ms z<=ms.length:=yX _ _
section
variable {H:Hp}{l:Addr}{nm w sz:Nat}{P:List dD}
end
theorem MB (a b:Nat):Builtin.bitAnd (a:Int) (b:Int)=((a &&& b:Nat):Int):=by unfold Builtin.bitAnd;rw [decide_eq_true (by omega:(0:Int)<=(a:Int))];rfl
theorem LR (k:Nat):(1:Int) * 2 ^ (k:Int).toNat=((2 ^ k:Nat):Int):=by rw [Int.one_mul,zf];push_cast;rfl
def j8 (s k:Nat):Nat:=if s.testBit k then s - 2 ^ k else s
theorem SD (s k:Nat):s &&& 2 ^ k=if s.testBit k then 2 ^ k else 0:=by
 refine zz λi=>?_;rw [yK,zw];by_cases e:k=i
 ·subst e;cases h:s.testBit k with
  | true=>rw [if_pos rfl,zw];simp
  | false=>rw [if_neg (by decide)];simp
 ·rw [decide_eq_false e,xY];split
  ·rw [zw,decide_eq_false e]
  ·simp
theorem R5 (s k:Nat):(s:Int) - Builtin.bitAnd (s:Int) (((2 ^ k:Nat):Int))=((j8 s k:Nat):Int):=by
 rw [MB,SD];unfold j8;cases h:s.testBit k with
 | true=>
  have:=Nat.ge_two_pow_of_testBit h;rw [if_pos rfl,if_pos rfl];omega
 | false=>rw [if_neg (by decide),if_neg (by decide)];simp
def gG (s:Nat):List (Nat×Nat):=((List.range (s + 1)).filter λp=>p &&& s == p).map λp=>(p,s - p)
theorem dH {s p q:Nat}:(p,q)∈gG s↔(p<=s/\p &&& s=p)/\q=s - p:=by
 unfold gG;rw [zO];constructor
 ·rintro ⟨x,hx,e⟩;rw [yh,zo,beq_iff_eq] at hx;cases e;exact ⟨⟨by omega,hx.2⟩,rfl⟩
 ·rintro ⟨⟨h1,h2⟩,rfl⟩;exact ⟨p,by rw [yh,zo,beq_iff_eq];exact ⟨by omega,h2⟩,rfl⟩
def Ru:Sp:=λvs H Q _=>∃ l ws n,vs=[.ref l]/\eO H l n ws/\ws.length<=60/\Q (.int (((2 ^ ws.length:Nat):Int) - 1)) H
def OF:Sp:=λvs H Q _=>∃ s k:Nat,vs=[.int (s:Int),.int (k:Int)]/\k<=60/\Q (.int ((j8 s k:Nat):Int)) H
def OB:Sp:=λvs H Q _=>∃ s:Nat,vs=[.int (s:Int)]/\s<=900/\∀ l (rs:List (Addr×Nat×Nat)) H',ay H H'->H' l=some (.lst (rs.map λr=>V.ref r.1))->(∀ r∈rs,H' r.1=some (.tup [.int (r.2.1:Int),.int (r.2.2:Int)]))->rs.map (·.2)=gG s->Q (.ref l) H'
structure jH (H:Hp) (b l lp:Addr) (ah:List Int) (tr tm:Addr) (ps:List (Addr×M4)) (ws:List (Addr×Nat×Int)) (P:List dD):Prop where
 bk:aM H b ah tr tm ps
 gd:Good ah.length (ps.map (·.2))
 r1:1<=ah.length
 oO:ah.length<=12
 wa:eO H l ah.length ws
 w1:1<=ws.length
 w4:ws.length<=4
 pr:lW H lp ps.length ah.length (2 ^ ws.length) P
theorem jH.same {H H':Hp}{b l lp:Addr}{ah:List Int}{tr tm:Addr}{ps:List (Addr×M4)}{ws:List (Addr×Nat×Int)}{P:List dD}(h:jH H b l lp ah tr tm ps ws P)(s:ay H H'):jH H' b l lp ah tr tm ps ws P:=
 ⟨h.bk.same s,h.gd,h.r1,h.oO,h.wa.same s,h.w1,h.w4,h.pr.same s⟩
theorem SV {n:Nat}(h:n<=4):2 ^ n<=16:=Nat.pow_le_pow_right (by decide) h
theorem fH {xs:List Int}{n:Nat}(h:n < xs.length):dI (xs.map V.int) (n:Int)=some (V.int (xs.getD n 0)):=
 wB (by rw [zF,zS,zG h];rfl)
theorem split_le {s:Nat}{r:Nat×Nat}(h:r∈gG s):r.1<=s/\r.2<=s:=by obtain ⟨p,q⟩:=r;obtain ⟨⟨h1,h2⟩,rfl⟩:=dH.mp h;exact ⟨h1,by simp only;omega⟩
theorem split_len (s:Nat):(gG s).length<=s + 1:=by unfold gG;rw [zA];exact zi (yX _ _) (by rw [List.length_range];exact zE _)
theorem eO.X7 {p:Addr}{H H':Hp}{l:Addr}{n:Nat}{ws:List (Addr×Nat×Int)}(h:eO H l n ws)(pu:bX H p)(n1:l≠p)(g:Go p H H'):eO H' l n ws:=
 ⟨g.1 _ _ n1 h.1,λx hx=>⟨g.aT pu _ _ (h.2 x hx).1,(h.2 x hx).2⟩⟩
section
variable {H H':Hp}{p f a:Addr}{o:HO}{nm w sz:Nat}
end
section
variable {H H' H0 H1 H2 HS:Hp}{p f c:Addr}{o:HO}{nm w sz:Nat}{xs:List V}
end
theorem O9 {a b:Nat}(h:a &&& b=0):a ||| b=a + b:=by
 obtain ⟨n,hn⟩:∃ n,a + b < 2 ^ n:=⟨a + b,Nat.lt_two_pow_self⟩;have ha:a < 2 ^ n:=by omega
 have hb:b < 2 ^ n:=by omega
 have z:BitVec.ofNat n a &&& BitVec.ofNat n b=0#n:=by
  apply BitVec.eq_of_toNat_eq;rw [BitVec.toNat_and,BitVec.toNat_ofNat,BitVec.toNat_ofNat,xS ha,xS hb,h];simp
 have e:=congrArg BitVec.toNat (BitVec.add_eq_or_of_and_eq_zero _ _ z);rw [BitVec.toNat_add,BitVec.toNat_or,BitVec.toNat_ofNat,BitVec.toNat_ofNat,xS ha,xS hb,xS hn] at e;exact e.symm
theorem tw {a b:Nat}(h:a &&& b=0):(a ||| b) - a=b:=by rw [O9 h];omega
def bS (p s:Nat):Prop:=∀ i,p.testBit i=true->s.testBit i=true
theorem fK {p s:Nat}:p &&& s=p↔bS p s:=by
 constructor
 ·intro h i hi;have:=congrArg (λz=>Nat.testBit z i) h;simp only [yK,hi,yr] at this;exact this
 ·intro h;refine zz λi=>?_;rw [yK];cases e:p.testBit i with
  | false=>rfl
  | true=>rw [h i e];rfl
theorem bS.le {p s:Nat}(h:bS p s):p<=s:=by rw [<-fK.mpr h];exact Nat.and_le_right
theorem jX {p s:Nat}(h:bS p s):p ||| (s - p)=s/\p &&& (s - p)=0/\∀ i,(s - p).testBit i=(s.testBit i && !p.testBit i):=by
 have d:p &&& (s ^^^ p)=0:=by
  refine zz λi=>?_;rw [yK,Nat.testBit_xor,yB];cases e:p.testBit i with
  | false=>rfl
  | true=>rw [h i e];rfl
 have o:p ||| (s ^^^ p)=s:=by
  refine zz λi=>?_;rw [zm,Nat.testBit_xor];cases e:p.testBit i with
  | false=>simp
  | true=>rw [h i e];rfl
 have e:s - p=s ^^^ p:=by have:=tw d;rw [o] at this;exact this
 rw [e];refine ⟨o,d,λi=>?_⟩;rw [Nat.testBit_xor];cases e:p.testBit i with
 | false=>simp
 | true=>rw [h i e];rfl
theorem oA {s:Nat}(h:∀ i,s.testBit i=false):s=0:=zz λi=>by rw [h i,yB]
theorem Ql {a b:Nat}(h:∀ i,a.testBit i=true->b.testBit i=false):a &&& b=0:=oA λi=>by
 rw [yK];cases e:a.testBit i with
 | false=>rfl
 | true=>rw [h i e];rfl
def cA (P:Nat->Bool):Nat->Nat
 | 0=>0
 | k + 1=>cA P k ||| (if P k then 2 ^ k else 0)
theorem fM (P:Nat->Bool):∀ k i,(cA P k).testBit i=(decide (i < k) && P i)
 | 0,i=>by rw [cA,yB];simp
 | k + 1,i=>by
  rw [cA,zm,fM P k i];by_cases e:i=k
  ·subst e;cases h:P i <;> simp [h]
  ·cases h:P k
   ·rw [if_neg (by decide),yB];by_cases l:i < k
    ·simp [l,xL l]
    ·simp [l,show ¬ i < k + 1 by omega]
   ·rw [if_pos rfl,zw,decide_eq_false (Ne.symm e)];by_cases l:i < k
    ·simp [l,xL l]
    ·simp [l,show ¬ i < k + 1 by omega]
theorem Good.cE {w:Int}{ms:List M4}(gd:Good w ms):ms.Pairwise λa b=>a.t<=b.t:=gd.order.imp λh=>by rcases h with h | h <;> omega
abbrev Wq:=List (Nat×Int)
structure jF (ms:List M4) (V:Nat->Nat->Nat->Int) (W K:Nat) (ws:Wq):Prop where
 zero:∀ j,j<=ms.length->∀ w,w < W->V j w 0=0
 out:∀ k x,ws[k]?=some x->∀ j,j<=cnt ms x.2->∀ s,s < 2 ^ K->s.testBit k=true->V j x.1 s<=V j x.1 (s - 2 ^ k)
 keep:∀ j < ms.length,∀ w < W,∀ s < 2 ^ K,V j w s<=V (j + 1) w s
 give:∀ j g o t,bO ms j g o t->∀ a b,a &&& b=0->a ||| b < 2 ^ K->V j g (a ||| b)<=1 + V (j + 1) g a + V (j + 1) o b
theorem jF.keeps {ms:List M4}{V:Nat->Nat->Nat->Int}{W K:Nat}{ws:Wq}(F:jF ms V W K ws){w s:Nat}(hw:w < W)(hs:s < 2 ^ K){j:Nat}:∀ d,j + d<=ms.length->V j w s<=V (j + d) w s
 | 0,_=>ze _
 | d + 1,h=>xD (F.keeps hw hs d (by omega)) (F.keep (j + d) (by omega) w hw s hs)
inductive eS (ms:List M4):Nat->Fn->List (Nat×Nat)->Fn->Prop
 | nil (j:Nat) (f:Fn):eS ms j f [] f
 | cons {j m g o:Nat}{t x:Int}{f h:Fn}{T:List (Nat×Nat)} (hj:j<=m) (l:bO ms m g o t) (hx:f g=some x) (lt:x < t) (r:eS ms (m + 1) (if f o=none then put f o (some t) else f) T h):eS ms j f ((m,g)::T) h
def ck (f:Fn)(ws:Wq)(k:Nat):Bool:=match ws[k]? with
 | some x=>bq (f x.1) x.2
 | none=>true
def aD (f:Fn)(ws:Wq):Prop:=∀ k:Nat,∀ x:Nat×Int,ws[k]?=some x->bq (f x.1) x.2=true
theorem vm {ms:List M4}{V:Nat->Nat->Nat->Int}{W K:Nat}{ws:Wq}(F:jF ms V W K ws){j v a:Nat}(ha:a < 2 ^ K){P:Nat->Bool}(hP:∀ k,P k=true->∃ l,ws[k]?=some (v,l)/\j<=cnt ms l)(d:∀ k,P k=true->a.testBit k=false):∀ n,n<=K->V j v (a ||| cA P n)<=V j v a
 | 0,_=>by rw [cA,Nat.or_zero];exact ze _
 | n + 1,hn=>by
  have ih:=vm F ha hP d n (by omega);rw [cA];cases e:P n with
  | false=>rw [if_neg (by decide),Nat.or_zero];exact ih
  | true=>
   rw [if_pos rfl,<- Nat.or_assoc];obtain ⟨l,hl,le⟩:=hP n e;have nb:(a ||| cA P n).testBit n=false:=by rw [zm,d n e,fM];simp
   have dj:2 ^ n &&& (a ||| cA P n)=0:=Ql λi hi=>by
    rw [zw] at hi;rw [<-of_decide_eq_true hi];exact nb
   have ml:cA P n < 2 ^ K:=Nat.lt_pow_two_of_testBit _ λi hi=>by rw [fM];simp;omega
   have lt:a ||| cA P n ||| 2 ^ n < 2 ^ K:=Nat.or_lt_two_pow (Nat.or_lt_two_pow ha ml) (Nat.pow_lt_pow_right (by decide) (by omega));have:=F.out n (v,l) hl j le _ lt (by rw [zm,zw];simp);rw [Nat.or_comm (a ||| cA P n) (2 ^ n),tw dj] at this;rw [Nat.or_comm];exact xD this ih
theorem gT {f:Fn}{ws:Wq}{k:Nat}{x:Nat×Int}(h:ws[k]?=some x):ck f ws k=bq (f x.1) x.2:=by unfold ck;rw [h]
theorem R1 {ms:List M4}{V:Nat->Nat->Nat->Int}{W K:Nat}{ws:Wq}(F:jF ms V W K ws)(gd:Good W ms)(hK:ws.length=K):∀ {j:Nat}{f h:Fn}{T:List (Nat×Nat)},eS ms j f T h->j<=ms.length->(∀ i x,f i=some x->i < W)->aD h ws ->
  ∃ s:Nat->Nat,(∀ w,s w < 2 ^ K)/\(∀ w,s w≠0->f w≠none)/\(∀ w w' k,(s w).testBit k=true->(s w').testBit k=true->w=w')/\(∀ w k,(s w).testBit k=true->k < K/\ck f ws k=false)/\(∀ k < K,ck f ws k=false->∃ w < W,(s w).testBit k=true)/\SS W (λw=>V j w (s w))<=T.length:=by
 intro j f h T tr;induction tr with
 | nil j f=>
  intro jn fw sv;refine ⟨λ_=>0,λ_=>yk K,λ_ h=>absurd rfl h,(λw w' k h=>by rw [yB] at h;cases h),(λw k h=>by rw [yB] at h;cases h),λk hk hf=>?_,?_⟩
  ·obtain ⟨x,hx⟩:∃ x,ws[k]?=some x:=⟨_,zG (by omega)⟩;rw [gT hx,sv k x hx] at hf;cases hf
  ·rw [Qz (g:=λ_=>0) λw hw=>F.zero j jn w hw,ME];exact ze _
 | @cons j m g o t x f h T hj l hx lt r ih=>
  intro jn fw sv;obtain ⟨gW,oW,go⟩:=l.inside gd;have mn:m < ms.length:=by obtain ⟨m',hm,_⟩:=l;exact (zB.mp hm).1
  obtain ⟨s,s1,s2,s3,s4,s5,s6⟩:=ih (by omega) (λi y hy=>by
   split at hy
   ·by_cases e:i=o
    ·rw [e];exact oW
    ·rw [wn e] at hy;exact fw i y hy
   ·exact fw i y hy) sv
  have kp:∀ w < W,∀ z < 2 ^ K,V j w z<=V m w z:=λw hw z hz=>by
   have:=F.keeps hw hz (j:=j) (m - j) (by omega);rwa [show j + (m - j)=m by omega] at this
  by_cases fo:f o=none
  ·rw [if_pos fo] at s2 s4 s5;rw [zR]
   let P:Nat->Bool:=λk=>ck (put f o (some t)) ws k && !ck f ws k
   have hP:∀ k,P k=true->∃ l,ws[k]?=some (o,l)/\m + 1<=cnt ms l:=λk hk=>by
    simp only [P,zc,Bool.not_eq_true'] at hk;cases hw:ws[k]? with
    | none=>rw [show ck f ws k=true by unfold ck;rw [hw]] at hk;cases hk.2
    | some y=>
     rw [gT hw,gT hw] at hk;by_cases e:y.1=o
     ·refine ⟨y.2,by rw [<-e],?_⟩;rw [e,wt] at hk;obtain ⟨z,hz,le⟩:=aA.mp hk.1;cases hz;obtain ⟨m',hm,et,_⟩:=l;exact (cO gd.cE hm).mpr (by rw [et];exact le)
     ·rw [wn e] at hk;rw [hk.1] at hk;cases hk.2
   have hold:∀ k,ck f ws k=true->ck (put f o (some t)) ws k=true:=λk hk=>by
    cases hw:ws[k]? with
    | none=>unfold ck;rw [hw]
    | some y=>
     rw [gT hw] at hk ⊢;by_cases e:y.1=o
     ·rw [e,fo] at hk;cases hk
     ·rw [wn e];exact hk
   let N:=cA P K
   have nb:∀ i,N.testBit i=(decide (i < K) && P i):=fM P K;have nS:∀ w i,(s w).testBit i=true->N.testBit i=false:=λw i h=>by
    have:=(s4 w i h).2;rw [nb];simp only [P,this,yS,xY]
   have Nl:N < 2 ^ K:=Nat.lt_pow_two_of_testBit _ λi hi=>by rw [nb];simp;omega
   have so:s o ||| N < 2 ^ K:=Nat.or_lt_two_pow (s1 o) Nl;have d2:s g &&& (s o ||| N)=0:=Ql λi hi=>by
    rw [zm,nS g i hi];cases e:(s o).testBit i with
    | false=>rfl
    | true=>exact absurd (s3 g o i hi e) go
   have gl:s g ||| (s o ||| N) < 2 ^ K:=Nat.or_lt_two_pow (s1 g) so;have q1:=F.give m g o t l (s g) (s o ||| N) d2 gl;have q2:=vm F (s1 o) hP (λk hk=>by
    cases e:(s o).testBit k with
    | false=>rfl
    | true=>
     have:=(s4 o k e).2;simp only [P,this,yS] at hk;cases hk) K (zE _)
   have q2':V (m + 1) o (s o ||| N)<=V (m + 1) o (s o):=q2;have q3:=kp g gW _ gl;refine ⟨λw=>if w=g then s g ||| (s o ||| N) else if w=o then 0 else s w,λw=>?_,λw hw=>?_,λw w' k h1 h2=>?_,λw k hk=>?_,λk hk hf=>?_,?_⟩
   ·simp only;split
    ·exact gl
    ·split
     ·exact yk K
     ·exact s1 w
   ·by_cases e1:w=g
    ·rw [e1,hx];exact λz=>nomatch z
    ·simp only [if_neg e1] at hw;by_cases e2:w=o
     ·rw [if_pos e2] at hw;exact absurd rfl hw
     ·rw [if_neg e2] at hw;have:=s2 w hw;rwa [wn e2] at this
   ·have get:∀ u,(if u=g then s g ||| (s o ||| N) else if u=o then 0 else s u).testBit k=true->(u=g/\((s g).testBit k=true\/(s o).testBit k=true\/N.testBit k=true))\/(u≠g/\u≠o/\(s u).testBit k=true):=λu hu=>by
     by_cases e1:u=g
     ·rw [if_pos e1,zm,zm,xX,xX] at hu;exact .inl ⟨e1,hu⟩
     ·rw [if_neg e1] at hu;by_cases e2:u=o
      ·rw [if_pos e2,yB] at hu;cases hu
      ·rw [if_neg e2] at hu;exact .inr ⟨e1,e2,hu⟩
    rcases get w h1 with ⟨a1,b1⟩ | ⟨a1,c1,b1⟩ <;> rcases get w' h2 with ⟨a2,b2⟩ | ⟨a2,c2,b2⟩
    ·rw [a1,a2]
    ·rcases b1 with b1 | b1 | b1
     ·exact absurd (s3 _ _ _ b2 b1) a2
     ·exact absurd (s3 _ _ _ b2 b1) c2
     ·rw [nS _ _ b2] at b1;cases b1
    ·rcases b2 with b2 | b2 | b2
     ·exact absurd (s3 _ _ _ b1 b2) a1
     ·exact absurd (s3 _ _ _ b1 b2) c1
     ·rw [nS _ _ b1] at b2;cases b2
    ·exact s3 _ _ _ b1 b2
   ·dsimp only at hk;have low:∀ u,(s u).testBit k=true->k < K/\ck f ws k=false:=λu hu=>by
     refine ⟨(s4 u k hu).1,?_⟩;cases e:ck f ws k with
     | false=>rfl
     | true=>have:=(s4 u k hu).2;rw [hold k e] at this;cases this
    by_cases e1:w=g
    ·rw [if_pos e1,zm,zm,xX,xX] at hk;rcases hk with h | h | h
     ·exact low _ h
     ·exact low _ h
     ·rw [nb] at h;simp only [P,zc,decide_eq_true_eq,Bool.not_eq_true'] at h;exact ⟨h.1,h.2.2⟩
    ·rw [if_neg e1] at hk;by_cases e2:w=o
     ·rw [if_pos e2,yB] at hk;cases hk
     ·rw [if_neg e2] at hk;exact low _ hk
   ·cases e:ck (put f o (some t)) ws k with
    | true=>
     refine ⟨g,gW,?_⟩;dsimp only;rw [if_pos rfl,zm,zm,nb];simp [P,e,hf,hk]
    | false=>
     obtain ⟨w,hw,hb⟩:=s5 k hk e;by_cases e1:w=g
     ·exact ⟨g,gW,by dsimp only;rw [if_pos rfl,zm,<- e1,hb];rfl⟩
     ·by_cases e2:w=o
      ·exact ⟨g,gW,by dsimp only;rw [if_pos rfl,zm,zm,<- e2,hb];simp⟩
      ·exact ⟨w,hw,by dsimp only;rw [if_neg e1,if_neg e2];exact hb⟩
   ·have z:=Vs (n:=W) (f:=λw=>V j w (if w=g then s g ||| (s o ||| N) else if w=o then 0 else s w)) (g:=λw=>V (m + 1) w (s w)) gW oW go λw hw n1 n2=>by
     simp only [if_neg n1,if_neg n2];exact xD (kp w hw _ (s1 w)) (F.keep m mn w hw _ (s1 w))
    simp only [if_pos,if_neg (Ne.symm go),if_true] at z;have z0:=F.zero j jn o oW;rw [z0] at z
    push_cast
    omega
  ·rw [if_neg fo] at s2 s4 s5;refine ⟨s,s1,s2,s3,s4,s5,xD (MF λw hw=>xD (kp w hw _ (s1 w)) (F.keep m mn w hw _ (s1 w))) (xD s6 ?_)⟩;rw [zR];omega
theorem vd {ms:List M4}{V:Nat->Nat->Nat->Int}{W K:Nat}{ws:Wq}(F:jF ms V W K ws)(gd:Good W ms)(hK:ws.length=K){v:Nat}{a:Int}{h:Fn}{T:List (Nat×Nat)}(hv:v < W)(tr:eS ms (cnt ms a) (av v a) T h)(sv:aD h ws):V (cnt ms a) v (2 ^ K - 1)<=T.length:=by
 have cl:=dY ms a;obtain ⟨s,s1,s2,s3,s4,s5,s6⟩:=R1 F gd hK tr cl (λi x hx=>by
  unfold av at hx;split at hx
  ·rename_i e;rw [e];exact hv
  ·cases hx) sv
 have only:∀ w,w≠v->s w=0:=λw hw=>by
  by_cases e:s w=0
  ·exact e
  ·exact absurd (if_neg hw) (s2 w e)
 let P:Nat->Bool:=λk=>ck (av v a) ws k
 have hP:∀ k,(P k && decide (k < K))=true->∃ l,ws[k]?=some (v,l)/\cnt ms a<=cnt ms l:=λk hk=>by
  simp only [P,zc,decide_eq_true_eq] at hk;obtain ⟨x,hx⟩:∃ x,ws[k]?=some x:=⟨_,zG (by omega)⟩;rw [gT hx] at hk;obtain ⟨y,hy,le⟩:=aA.mp hk.1;unfold av at hy;split at hy
  ·rename_i e;cases hy;exact ⟨x.2,by rw [<-e];exact hx,jw gd.cE le⟩
  ·cases hy
 have q:=vm F (s1 v) hP (λk hk=>by
  simp only [P,zc] at hk;cases e:(s v).testBit k with
  | false=>rfl
  | true=>rw [(s4 v k e).2] at hk;cases hk.1) K (zE _)
 have e:s v ||| cA (λk=>P k && decide (k < K)) K=2 ^ K - 1:=by
  refine zz λi=>?_;rw [zm,fM,Nat.testBit_two_pow_sub_one];by_cases hi:i < K
  ·cases hb:ck (av v a) ws i with
   | true=>simp [P,hb,hi]
   | false=>
    obtain ⟨w,hw,b⟩:=s5 i hi hb;by_cases e:w=v
    ·rw [e] at b;simp [b,hi]
    ·rw [only w e,yB] at b;cases b
  ·have:(s v).testBit i=false:=by
    cases b:(s v).testBit i with
    | false=>rfl
    | true=>exact absurd (s4 v i b).1 hi
   simp [this,hi]
 rw [e] at q;have z:SS W (λw=>V (cnt ms a) w (s w))=V (cnt ms a) v (s v):=by
  rw [<-Vt (n:=W) (j:=v) (x:=V (cnt ms a) v (s v)) hv];refine Qz λw hw=>?_;by_cases e:w=v
  ·subst e;rw [if_pos rfl]
  ·rw [if_neg e,only w e];exact F.zero _ cl w hw
 omega
def eZ (ms:List M4)(ws:Wq)(j w i:Nat):Bool:=match ws[i]? with
 | some x=>decide (x.1=w) && decide (j<=cnt ms x.2)
 | none=>false
def aC (ms:List M4)(ws:Wq)(j w s:Nat):Nat:=cA (λi=>s.testBit i && !eZ ms ws j w i) ws.length
theorem qE {ms:List M4}{ws:Wq}{j w s:Nat}(hs:s < 2 ^ ws.length)(i:Nat):(aC ms ws j w s).testBit i=(s.testBit i && !eZ ms ws j w i):=by
 unfold aC;rw [fM];by_cases h:i < ws.length
 ·simp [h]
 ·rw [Nat.testBit_lt_two_pow (zW hs (Nat.pow_le_pow_right (by decide) (by omega)))];simp
theorem wg {ms:List M4}{ws:Wq}{j w s:Nat}(hs:s < 2 ^ ws.length):bS (aC ms ws j w s) s:=λi hi=>by
 rw [qE hs,zc] at hi;exact hi.1
theorem bS.lt {p s n:Nat}(h:bS p s)(hs:s < n):p < n:=zq h.le hs
theorem pR {ms:List M4}{ws:Wq}{j w s:Nat}(hs:s < 2 ^ ws.length):aC ms ws j w (aC ms ws j w s)=aC ms ws j w s:=
 zz λi=>by
  rw [qE ((wg hs).lt hs),qE hs];cases s.testBit i <;> cases eZ ms ws j w i <;> rfl
theorem pU {ms:List M4}{ws:Wq}{j w s t:Nat}(ht:t < 2 ^ ws.length)(h:bS s t):bS (aC ms ws j w s) (aC ms ws j w t):=λi hi=>by
 rw [qE (h.lt ht),zc] at hi;rw [qE ht,h i hi.1,hi.2];rfl
def ff (ms:List M4)(j:Nat)(F:Option (Nat->Nat->Int))(w s:Nat)(x:Int):Prop:=
 (s=0/\x=0)\/(s≠0/\match F with
  | none=>x=(ms.length:Int) + 1
  | some F=>((∀ o t,¬ bO ms j w o t)/\x=F w s)\/∃ o t,bO ms j w o t/\x<=F w s/\(∀ p,bS p s->x<=1 + F w p + F o (s - p))/\(x=F w s\/∃ p,bS p s/\x=1 + F w p + F o (s - p)))
def kO (ms:List M4)(ws:Wq)(j:Nat)(F:Option (Nat->Nat->Int))(w:Nat)(r:Nat->Int):Prop:=
 ∀ s < 2 ^ ws.length,(aC ms ws j w s=s->ff ms j F w s (r s))/\r s=r (aC ms ws j w s)
theorem kX {W:Nat}{ms:List M4}(gd:Good W ms){j g o o':Nat}{t t':Int}(h:bO ms j g o t)(h':bO ms j g o' t'):o=o'/\t=t':=by have i1:=(h.inside gd).2.2;have i2:=(h'.inside gd).2.2;obtain ⟨m,hm,e,c⟩:=h;obtain ⟨m',oR,e',c'⟩:=h';rw [hm] at oR;cases oR;rcases c with ⟨a1,a2⟩ | ⟨a1,a2⟩ <;> rcases c' with ⟨b1,b2⟩ | ⟨b1,b2⟩ <;> first | exact ⟨by omega,by omega⟩ | omega
structure eL (ms:List M4) (V:Nat->Nat->Nat->Int) (W:Nat) (ws:Wq):Prop where
 last:∀ w < W,kO ms ws ms.length none w (V ms.length w)
 prev:∀ j < ms.length,∀ w < W,kO ms ws j (some (V (j + 1))) w (V j w)
section
variable {ms:List M4}{V:Nat->Nat->Nat->Int}{W:Nat}{ws:Wq}
theorem eL.row (D:eL ms V W ws){j w s:Nat}(hj:j<=ms.length)(hw:w < W)(hs:s < 2 ^ ws.length):∃ F,(∀ G,F=some G->j < ms.length/\G=V (j + 1))/\(F=none->j=ms.length)/\ff ms j F w (aC ms ws j w s) (V j w s):=by
 have os:=(wg (ms:=ms) (j:=j) (w:=w) hs).lt hs;by_cases e:j=ms.length
 ·subst e;refine ⟨none,(λG z=>nomatch z),λ_=>rfl,?_⟩;have:=D.last w hw s hs;rw [this.2];exact (D.last w hw _ os).1 (pR hs)
 ·refine ⟨some (V (j + 1)),λG z=>⟨by omega,by cases z;rfl⟩,(λz=>nomatch z),?_⟩;have:=D.prev j (by omega) w hw s hs;rw [this.2];exact (D.prev j (by omega) w hw _ os).1 (pR hs)
theorem eL.nonneg (D:eL ms V W ws)(gd:Good W ms):∀ d j,j + d=ms.length->∀ w < W,∀ s < 2 ^ ws.length,0<=V j w s:=by
 intro d;induction d with
 | zero=>
  intro j e w hw s hs;obtain ⟨F,hF,hN,l⟩:=D.row (j:=j) (by omega) hw hs;rcases l with ⟨_,l⟩ | ⟨_,l⟩
  ·omega
  ·cases F with
   | none=>simp only at l;omega
   | some G=>have:=(hF G rfl).1;omega
 | succ d ih=>
  intro j e w hw s hs;obtain ⟨F,hF,hN,l⟩:=D.row (j:=j) (by omega) hw hs;have os:=(wg (ms:=ms) (j:=j) (w:=w) hs).lt hs;rcases l with ⟨_,l⟩ | ⟨_,l⟩
  ·omega
  ·cases F with
   | none=>simp only at l;omega
   | some G=>
    obtain ⟨_,rfl⟩:=hF G rfl;have n1:=ih (j + 1) (by omega) w hw _ os;rcases l with ⟨_,l⟩ | ⟨o,t,k,_,_,l | ⟨p,sp,l⟩⟩
    ·omega
    ·omega
    ·have n2:=ih (j + 1) (by omega) w hw p (sp.lt os);have n3:=ih (j + 1) (by omega) o (k.inside gd).2.1 _ (zq (Nat.sub_le _ p) os);omega
theorem eL.mono (D:eL ms V W ws)(gd:Good W ms):∀ d j,j + d=ms.length->∀ w < W,∀ s t,t < 2 ^ ws.length->bS s t->V j w s<=V j w t:=by
 intro d;induction d with
 | zero=>
  intro j e w hw s t ht st;have hs:=st.lt ht;obtain ⟨F,hF,hN,l⟩:=D.row (j:=j) (by omega) hw hs;obtain ⟨F',hF',hN',l'⟩:=D.row (j:=j) (by omega) hw ht;have so:=pU (ms:=ms) (j:=j) (w:=w) ht st;have nn:=D.nonneg gd 0 j e w hw t ht;rcases l with ⟨_,l⟩ | ⟨n0,l⟩
  ·omega
  ·rcases l' with ⟨z,_⟩ | ⟨_,l'⟩
   ·rw [z] at so;exact absurd (Nat.le_zero.mp so.le) n0
   ·cases F with
    | some G=>have:=(hF G rfl).1;omega
    | none=>cases F' with
     | some G=>have:=(hF' G rfl).1;omega
     | none=>simp only at l l';omega
 | succ d ih=>
  intro j e w hw s t ht st;have hs:=st.lt ht;obtain ⟨F,hF,hN,l⟩:=D.row (j:=j) (by omega) hw hs;obtain ⟨F',hF',hN',l'⟩:=D.row (j:=j) (by omega) hw ht;have so:=pU (ms:=ms) (j:=j) (w:=w) ht st;have nn:=D.nonneg gd (d + 1) j e w hw t ht;have os:=(wg (ms:=ms) (j:=j) (w:=w) hs).lt hs;have ot:=(wg (ms:=ms) (j:=j) (w:=w) ht).lt ht;have up:=ih (j + 1) (by omega);rcases l with ⟨_,l⟩ | ⟨n0,l⟩
  ·omega
  ·rcases l' with ⟨z,_⟩ | ⟨_,l'⟩
   ·rw [z] at so;exact absurd (Nat.le_zero.mp so.le) n0
   ·cases F with
    | none=>have:=hN rfl;omega
    | some G=>cases F' with
     | none=>have:=hN' rfl;omega
     | some G'=>
      obtain ⟨_,rfl⟩:=hF G rfl;obtain ⟨_,rfl⟩:=hF' G' rfl;have u1:=up w hw _ _ ot so;rcases l with ⟨nl,l⟩ | ⟨o,tt,k,l1,l2,_⟩
      ·rcases l' with ⟨_,l'⟩ | ⟨o,tt,k,_⟩
       ·omega
       ·exact absurd k (nl o tt)
      ·rcases l' with ⟨nl,_⟩ | ⟨o',tt',k',_,_,l' | ⟨p,sp,l'⟩⟩
       ·exact absurd k (nl o tt)
       ·omega
       ·obtain ⟨rfl,rfl⟩:=kX gd k k';have pi:bS (p &&& aC ms ws j w s) (aC ms ws j w s):=λi hi=>by rw [yK,zc] at hi;exact hi.2
        have pp:bS (p &&& aC ms ws j w s) p:=λi hi=>by rw [yK,zc] at hi;exact hi.1
        have rr:bS (aC ms ws j w s - (p &&& aC ms ws j w s)) (aC ms ws j w t - p):=λi hi=>by
         rw [(jX pi).2.2,yK] at hi;rw [(jX sp).2.2];cases a1:(aC ms ws j w s).testBit i with
         | false=>rw [a1] at hi;cases hi
         | true=>
          rw [a1] at hi;rw [so i a1];cases a2:p.testBit i with
          | false=>rfl
          | true=>rw [a2] at hi;cases hi
        have v1:=l2 _ pi;have v2:=up w hw _ _ (sp.lt ot) pp;have v3:=up o (k.inside gd).2.1 _ _ (zq (Nat.sub_le _ p) ot) rr;omega
theorem eL.eq (D:eL ms V W ws){j w s:Nat}(hj:j<=ms.length)(hw:w < W)(hs:s < 2 ^ ws.length):V j w s=V j w (aC ms ws j w s):=by
 by_cases e:j=ms.length
 ·subst e;exact (D.last w hw s hs).2
 ·exact (D.prev j (by omega) w hw s hs).2
theorem eL.Vf (D:eL ms V W ws)(gd:Good W ms)(Se:∀ x∈ws,x.1 < W):jF ms V W ws.length ws:=by
 have nn:∀ {j w s},j<=ms.length->w < W->s < 2 ^ ws.length->0<=V j w s:=λ{j w s} hj hw hs=>D.nonneg gd (ms.length - j) j (by omega) w hw s hs;have mo:∀ {j w s t},j<=ms.length->w < W->t < 2 ^ ws.length->bS s t->V j w s<=V j w t:=λ{j w s t} hj hw ht st=>D.mono gd (ms.length - j) j (by omega) w hw s t ht st;refine ⟨λj hj w hw=>?_,λk x hx j hj s hs hb=>?_,λj hj w hw s hs=>?_,λj g o t k a b d lt=>?_⟩
 ·have z:aC ms ws j w 0=0:=oA λi=>by rw [qE (yk _),yB];rfl
  obtain ⟨F,_,_,l⟩:=D.row hj hw (yk ws.length);rw [z] at l;rcases l with ⟨_,l⟩ | ⟨n0,_⟩
  ·exact l
  ·exact absurd rfl n0
 ·have hw:=Se x (zC hx);have r9:j<=ms.length:=zi hj (dY _ _);have p2:bS (2 ^ k) s:=λi hi=>by
   rw [zw] at hi;rw [<-of_decide_eq_true hi];exact hb
  rw [D.eq r9 hw hs,D.eq r9 hw (s:=s - 2 ^ k) (zq (Nat.sub_le _ _) hs)];refine Int.le_of_eq (congrArg _ (zz λi=>?_));rw [qE hs,qE (zq (Nat.sub_le _ _) hs),(jX p2).2.2,zw];by_cases e:k=i
  ·subst e;have:eZ ms ws j x.1 k=true:=by
    unfold eZ;rw [hx];simp only [decide_true,yr];exact decide_eq_true hj
   rw [this];simp
  ·simp [e]
 ·obtain ⟨F,hF,hN,l⟩:=D.row (j:=j) (by omega) hw hs;have os:=wg (ms:=ms) (j:=j) (w:=w) hs;rcases l with ⟨_,l⟩ | ⟨_,l⟩
  ·rw [l];exact nn hj hw hs
  ·cases F with
   | none=>have:=hN rfl;omega
   | some G=>
    obtain ⟨_,rfl⟩:=hF G rfl;have u:=mo (j:=j + 1) hj hw hs os;rcases l with ⟨_,l⟩ | ⟨_,_,_,l,_⟩ <;> omega
 ·obtain ⟨gW,oW,_⟩:=k.inside gd;have jn:j < ms.length:=by obtain ⟨m',hm,_⟩:=k;exact (zB.mp hm).1
  obtain ⟨F,hF,hN,l⟩:=D.row (j:=j) (by omega) gW lt;have al:a < 2 ^ ws.length:=zq Nat.left_le_or lt;have bl:b < 2 ^ ws.length:=zq Nat.right_le_or lt;have os:=wg (ms:=ms) (j:=j) (w:=g) lt;have n1:=nn (j:=j + 1) (by omega) gW al;have n2:=nn (j:=j + 1) (by omega) oW bl;rcases l with ⟨_,l⟩ | ⟨_,l⟩
  ·omega
  ·cases F with
   | none=>have:=hN rfl;omega
   | some G=>
    obtain ⟨_,rfl⟩:=hF G rfl;rcases l with ⟨nl,_⟩ | ⟨o',t',k',_,l,_⟩
    ·exact absurd k (nl o t)
    ·obtain ⟨rfl,rfl⟩:=kX gd k k';have pi:bS (a &&& aC ms ws j g (a ||| b)) (aC ms ws j g (a ||| b)):=λi hi=>by rw [yK,zc] at hi;exact hi.2
     have pp:bS (a &&& aC ms ws j g (a ||| b)) a:=λi hi=>by rw [yK,zc] at hi;exact hi.1
     have rr:bS (aC ms ws j g (a ||| b) - (a &&& aC ms ws j g (a ||| b))) b:=λi hi=>by
      rw [(jX pi).2.2,yK] at hi;cases a1:(aC ms ws j g (a ||| b)).testBit i with
      | false=>rw [a1] at hi;cases hi
      | true=>
       have:=os i a1;rw [a1] at hi;rw [zm] at this;cases a2:a.testBit i with
       | false=>rw [a2] at this;exact this
       | true=>rw [a2] at hi;cases hi
     have v1:=l _ pi;have v2:=mo (j:=j + 1) (by omega) gW al pp;have v3:=mo (j:=j + 1) (by omega) oW bl rr;omega
end
inductive aY (ms:List M4) (v j0:Nat) (G:List (Nat×Nat)):Nat->Nat->Prop
 | root:aY ms v j0 G j0 v
 | keep {j w:Nat}:aY ms v j0 G j w->aY ms v j0 G (j + 1) w
 | give {j g o:Nat}{t:Int}:aY ms v j0 G j g->(j,g)∈G->bO ms j g o t->aY ms v j0 G (j + 1) o
theorem aY.ge {ms:List M4}{v j0 j w:Nat}{G:List (Nat×Nat)}(h:aY ms v j0 G j w):j0<=j:=by
 induction h with
 | root=>exact zE _
 | keep _ ih=>omega
 | give _ _ _ ih=>omega
theorem aY.mono {ms:List M4}{v j0 j w:Nat}{G G':List (Nat×Nat)}(s:∀ x∈G,x∈G')(h:aY ms v j0 G j w):aY ms v j0 G' j w:=by
 induction h with
 | root=>exact .root
 | keep _ ih=>exact .keep ih
 | give _ m l ih=>exact .give ih (s _ m) l
theorem aY.inv {ms:List M4}{v j0 j w:Nat}{G:List (Nat×Nat)}(h:aY ms v j0 G (j + 1) w)(ge:j0<=j):aY ms v j0 G j w\/∃ g t,aY ms v j0 G j g/\(j,g)∈G/\bO ms j g w t:=by
 generalize e:j + 1=i at h;cases h with
 | root=>omega
 | keep k=>obtain rfl:=Nat.succ.inj e;exact .inl k
 | give k m l=>obtain rfl:=Nat.succ.inj e;exact .inr ⟨_,_,k,m,l⟩
def dF (ms:List M4)(v:Nat)(a:Int)(i w:Nat)(x:Int):Prop:=(x=a/\w=v)\/∃ m o,m < i/\bO ms m o w x
theorem dF.mono {ms:List M4}{v:Nat}{a:Int}{i k w:Nat}{x:Int}(h:dF ms v a i w x)(le:i<=k):dF ms v a k w x:=by
 rcases h with h | ⟨m,o,l,k⟩
 ·exact .inl h
 ·exact .inr ⟨m,o,by omega,k⟩
theorem Nm {W:Nat}{ms:List M4}(gd:Good W ms){m m' w o o':Nat}{x t:Int}(h:bO ms m o w x)(h':bO ms m' w o' t)(lt:m < m'):x < t:=by
 obtain ⟨r,hr,e,c⟩:=h;obtain ⟨r',uF,e',c'⟩:=h';have f:=gd.each r (zC hr);have f':=gd.each r' (zC uF);have od:=z4.mp gd.order m m' (zB.mp hr).1 (zB.mp uF).1 lt;rw [(zB.mp hr).2,(zB.mp uF).2] at od;rcases od with od | ⟨_,_,ap⟩
 ·omega
 ·unfold apart at ap;rcases c with ⟨a1,a2⟩ | ⟨a1,a2⟩ <;> rcases c' with ⟨b1,b2⟩ | ⟨b1,b2⟩ <;> omega
theorem dF.lt {W:Nat}{ms:List M4}(gd:Good W ms){v:Nat}{a:Int}{m w o:Nat}{x t:Int}(h:dF ms v a m w x)(ge:cnt ms a<=m)(k:bO ms m w o t):x < t:=by
 rcases h with ⟨rfl,_⟩ | ⟨m',o',l,k'⟩
 ·obtain ⟨r,hr,e,_⟩:=k;have:=cO gd.cE hr (t:=x);rw [e] at this;omega
 ·exact Nm gd k' k l
theorem eS.lower {ms:List M4}{j:Nat}{f h:Fn}{T:List (Nat×Nat)}(tr:eS ms (j + 1) f T h):eS ms j f T h:=by
 cases tr with
 | nil=>exact .nil j f
 | cons hj l hx lt r=>exact .cons (by omega) l hx lt r
theorem OZ {W:Nat}{ms:List M4}(gd:Good W ms){v:Nat}{a:Int}{G:List (Nat×Nat)}:∀ d j (f:Fn),j + d=ms.length->cnt ms a<=j->(∀ w,aY ms v (cnt ms a) G j w->∃ x,f w=some x/\dF ms v a j w x)->(∀ w x,f w=some x->dF ms v a j w x) ->
  ∃ T h,eS ms j f T h/\(∀ x∈T,x∈G)/\(∀ x∈T,j<=x.1)/\(T.Pairwise λx y=>x.1 < y.1)/\(∀ w x,f w=some x->h w=some x)/\(∀ i w,j<=i->i<=ms.length->aY ms v (cnt ms a) G i w->∃ x,h w=some x/\dF ms v a i w x):=by
 intro d;induction d with
 | zero=>
  intro j f e ge hf hE;refine ⟨[],f,.nil j f,(λ_ z=>nomatch z),(λ_ z=>nomatch z),.nil,λ_ _ h=>h,λi w h1 h2 k=>?_⟩;obtain rfl:i=j:=by omega
  exact hf w k
 | succ d ih=>
  intro j f e ge hf hE;obtain ⟨r,hr⟩:∃ r,ms[j]?=some r:=⟨_,zG (by omega)⟩;have fr:=gd.each r (zC hr)
  -- VC three afc of this Y6
  by_cases gv:∃ g o t,bO ms j g o t/\f g≠none/\f o=none/\(j,g)∈G
  ·obtain ⟨g,o,t,l,fg,fo,mG⟩:=gv;obtain ⟨x,hx⟩:∃ x,f g=some x:=Option.ne_none_iff_exists'.mp fg;have lt:=(hE g x hx).lt gd ge l;have inv:∀ w x,(put f o (some t)) w=some x->dF ms v a (j + 1) w x:=λw x h=>by
    by_cases e:w=o
    ·subst e;rw [wt] at h;cases h;exact .inr ⟨j,g,yu _,l⟩
    ·rw [wn e] at h;exact (hE w x h).mono (zx _)
   obtain ⟨T,h,tr,tG,tj,tp,keep,all⟩:=ih (j + 1) (put f o (some t)) (by omega) (by omega) (λw k=>by
    rcases k.inv ge with k | ⟨g',t',k,m,l'⟩
    ·obtain ⟨x,hx,ex⟩:=hf w k;exact ⟨x,by rw [wn λe=>by rw [e,fo] at hx;cases hx];exact hx,ex.mono (zx _)⟩
    ·obtain ⟨x',Zb,_⟩:=hf g' k;by_cases e:w=o
     ·subst e;exact ⟨t,wt,.inr ⟨j,g,yu _,l⟩⟩
     ·-- then w is VC aeE itself
      have:w=g:=by
       obtain ⟨m1,h1,_,c1⟩:=l;obtain ⟨m2,h2,_,c2⟩:=l';rw [h1] at h2;cases h2;rcases c1 with ⟨p1,p2⟩ | ⟨p1,p2⟩ <;> rcases c2 with ⟨q1,q2⟩ | ⟨q1,q2⟩ <;> omega
      subst this;exact ⟨x,by rw [wn e];exact hx,(hE w x hx).mono (zx _)⟩) inv
   refine ⟨(j,g)::T,h,.cons (zE _) l hx lt (by rw [if_pos fo];exact tr),?_,?_,?_,λw y hy=>keep w y (by rw [wn λe=>by rw [e,fo] at hy;cases hy];exact hy),λi w h1 h2 k=>?_⟩
   ·intro y hy;rcases zN.mp hy with e | e
    ·rw [e];exact mG
    ·exact tG y e
   ·intro y hy;rcases zN.mp hy with e | e
    ·rw [e];exact zE _
    ·exact Nat.le_of_succ_le (tj y e)
   ·exact .cons (λy hy=>tj y hy) tp
   ·by_cases e:i=j
    ·subst e;obtain ⟨x,hx,ex⟩:=hf w k;exact ⟨x,keep w x (by rw [wn λe=>by rw [e,fo] at hx;cases hx];exact hx),ex⟩
    ·exact all i w (by omega) h2 k
  ·obtain ⟨T,h,tr,tG,tj,tp,keep,all⟩:=ih (j + 1) f (by omega) (by omega) (λw k=>by
    rcases k.inv ge with k | ⟨g',t',k,m,l'⟩
    ·obtain ⟨x,hx,ex⟩:=hf w k;exact ⟨x,hx,ex.mono (zx _)⟩
    ·obtain ⟨x',Zb,_⟩:=hf g' k;cases fw:f w with
     | some x=>exact ⟨x,rfl,(hE w x fw).mono (zx _)⟩
     | none=>exact absurd ⟨g',w,t',l',by rw [Zb];exact (λz=>nomatch z),fw,m⟩ gv) (λw x h=>(hE w x h).mono (zx _))
   refine ⟨T,h,tr.lower,tG,λy hy=>Nat.le_of_succ_le (tj y hy),tp,keep,λi w h1 h2 k=>?_⟩;by_cases e:i=j
   ·subst e;obtain ⟨x,hx,ex⟩:=hf w k;exact ⟨x,keep w x hx,ex⟩
   ·exact all i w (by omega) h2 k
theorem Mp {W:Nat}{ms:List M4}(gd:Good W ms):∀ d j (f:Fn),j + d=ms.length->∃ T,eS ms j f T (fwd (ms.drop j) f)/\T.length<=d:=by
 intro d;induction d with
 | zero=>
  intro j f e;rw [List.drop_eq_nil_of_le (by omega)];exact ⟨[],.nil j f,zE _⟩
 | succ d ih=>
  intro j f e;obtain ⟨m,hm⟩:∃ m,ms[j]?=some m:=⟨_,zG (by omega)⟩;have ed:ms.drop j=m::ms.drop (j + 1):=by
   rw [List.drop_eq_getElem_cons (by omega)];rw [(zB.mp hm).2]
  rw [ed,Qd];have l1:bO ms j m.lo.toNat m.hi.toNat m.t:=⟨m,hm,rfl,.inl ⟨rfl,rfl⟩⟩;have l2:bO ms j m.hi.toNat m.lo.toNat m.t:=⟨m,hm,rfl,.inr ⟨rfl,rfl⟩⟩;have ne:=(l1.inside gd).2.2;by_cases c1:f m.hi.toNat=none/\below (f m.lo.toNat) m.t=true
  ·obtain ⟨y,hy,lt⟩:=aL.mp c1.2;have e1:aH f ⟨m.lo.toNat,m.hi.toNat,m.t⟩=put f m.hi.toNat (some m.t):=if_pos c1;have e2:aH (put f m.hi.toNat (some m.t)) ⟨m.hi.toNat,m.lo.toNat,m.t⟩=put f m.hi.toNat (some m.t):=if_neg λz=>by
    have:=z.1;simp only at this;rw [wn ne,hy] at this;cases this
   rw [e1,e2];obtain ⟨T,tr,le⟩:=ih (j + 1) (put f m.hi.toNat (some m.t)) (by omega);exact ⟨(j,m.lo.toNat)::T,.cons (zE _) l1 hy lt (by rw [if_pos c1.1];exact tr),yw le⟩
  ·have e1:aH f ⟨m.lo.toNat,m.hi.toNat,m.t⟩=f:=if_neg c1;rw [e1];by_cases c2:f m.lo.toNat=none/\below (f m.hi.toNat) m.t=true
   ·obtain ⟨y,hy,lt⟩:=aL.mp c2.2;have e2:aH f ⟨m.hi.toNat,m.lo.toNat,m.t⟩=put f m.lo.toNat (some m.t):=if_pos c2;rw [e2];obtain ⟨T,tr,le⟩:=ih (j + 1) (put f m.lo.toNat (some m.t)) (by omega);exact ⟨(j,m.hi.toNat)::T,.cons (zE _) l2 hy lt (by rw [if_pos c2.1];exact tr),yw le⟩
   ·have e2:aH f ⟨m.hi.toNat,m.lo.toNat,m.t⟩=f:=if_neg c2;rw [e2];obtain ⟨T,tr,le⟩:=ih (j + 1) f (by omega);exact ⟨T,tr.lower,by omega⟩
theorem eS.since {W:Nat}{ms:List M4}(gd:Good W ms){v:Nat}{a:Int}{h:Fn}{T:List (Nat×Nat)}(tr:eS ms 0 (av v a) T h):eS ms (cnt ms a) (av v a) T h:=by
 generalize ef:av v a=f at tr ⊢;cases tr with
 | nil=>exact .nil _ _
 | @cons _ m g o t x _ _ T hj l hx lt r=>
  refine .cons ?_ l hx lt r;rw [<-ef] at hx;unfold av at hx;split at hx
  ·cases hx;obtain ⟨m',hm,e,_⟩:=l;have:=cO gd.cE hm (t:=a);rw [e] at this;omega
  ·cases hx
theorem Q6 {ms:List M4}{V:Nat->Nat->Nat->Int}{W:Nat}{ws:Wq}(F:jF ms V W ws.length ws)(gd:Good W ms){v:Nat}{a:Int}(hv:v < W)(sv:aD (fwd ms (av v a)) ws):V (cnt ms a) v (2 ^ ws.length - 1)<=ms.length:=by obtain ⟨T,tr,le⟩:=Mp gd ms.length 0 (av v a) (by omega);rw [List.drop_zero] at tr;have:=vd F gd rfl hv (tr.since gd) sv;omega
theorem vj {α:Type}[DecidableEq α]:∀ {T G:List α},T.Nodup->(∀ x∈T,x∈G)->G.length<=T.length->T.Perm G
 | [],G,_,_,l=>by
  have:G=[]:=List.eq_nil_of_length_eq_zero (Nat.le_zero.mp l);rw [this]
 | x::T,G,nd,s,l=>by
  rw [yW] at nd;have mx:=s x (.head _);have le:=List.length_erase_of_mem mx;have pos:0 < G.length:=List.length_pos_of_mem mx;refine ((vj (T:=T) (G:=G.erase x) nd.2 (λy hy=>?_) (by rw [zR] at l;omega)).cons x).trans (List.perm_cons_erase mx).symm;exact (List.mem_erase_of_ne λe=>nd.1 (by rw [<-e];exact hy)).mpr (s y (.tail _ hy))
theorem Tt {ms:List M4}{V:Nat->Nat->Nat->Int}{W:Nat}{ws:Wq}(F:jF ms V W ws.length ws)(gd:Good W ms){v:Nat}{a:Int}(hv:v < W){G:List (Nat×Nat)}(eG:(G.length:Int)=V (cnt ms a) v (2 ^ ws.length - 1))(sG:∀ (k:Nat) (x:Nat×Int),ws[k]?=some x->∃ j,j<=cnt ms x.2/\aY ms v (cnt ms a) G j x.1)(own:∀ x∈ws,x.1=v->a<=x.2) :
  ∃ T h,eS ms (cnt ms a) (av v a) T h/\aD h ws/\(T.length:Int)=V (cnt ms a) v (2 ^ ws.length - 1)/\T.Perm G/\T.Pairwise λx y=>x.1 < y.1:=by
 have cl:=dY ms a;obtain ⟨T,h,tr,tG,_,tp,_,all⟩:=OZ gd (v:=v) (a:=a) (G:=G) (ms.length - cnt ms a) (cnt ms a) (av v a) (by omega) (zE _) (λw k=>by
  have:w=v:=by
   generalize e:cnt ms a=i at k;have k':=k;cases k with
   | root=>rfl
   | keep q=>have:=q.ge;omega
   | give q=>have:=q.ge;omega
  subst this;exact ⟨a,if_pos rfl,.inl ⟨rfl,rfl⟩⟩) (λw x hx=>by
   unfold av at hx;split at hx
   ·rename_i e;cases hx;exact .inl ⟨rfl,e⟩
   ·cases hx)
 have sv:aD h ws:=λk x hx=>by
  obtain ⟨j,hj,hh⟩:=sG k x hx;obtain ⟨y,hy,ey⟩:=all j x.1 hh.ge (zi hj (dY _ _)) hh;rw [hy];refine aA.mpr ⟨y,rfl,?_⟩;rcases ey with ⟨rfl,e⟩ | ⟨m,o,lt,l⟩
  ·exact own x (zC hx) e
  ·obtain ⟨m',hm,e,_⟩:=l;have:=(cO gd.cE hm (t:=x.2)).mp (by omega);omega
 have nd:T.Nodup:=tp.imp λl e=>by rw [e] at l;exact absurd l (z6 _)
 have lo:=vd F gd rfl hv tr sv;have pm:=vj nd tG (by omega);exact ⟨T,h,tr,sv,by rw [pm.length_eq];exact eG,pm,tp⟩
abbrev gq:=Nat×Nat×Nat
structure bY (ms:List M4) (V:Nat->Nat->Nat->Int) (W:Nat) (ws:Wq) (v:Nat) (a:Int) (G:List (Nat×Nat)) (ps:List gq):Prop where
 p:∀ x∈ps,x.1<=ms.length/\x.2.1 < W/\x.2.2 < 2 ^ ws.length/\aY ms v (cnt ms a) G x.1 x.2.1
 g:∀ x∈G,x.1 < ms.length/\x.2 < W
 c:(G.length:Int) + (ps.map λx=>V x.1 x.2.1 x.2.2).sum=V (cnt ms a) v (2 ^ ws.length - 1)
 s:∀ (k:Nat) (x:Nat×Int),ws[k]?=some x->(∃ y∈ps,y.2.2.testBit k=true)\/∃ j,j<=cnt ms x.2/\aY ms v (cnt ms a) G j x.1
def gR (n:Nat)(ps:List gq):Nat:=(ps.map λx=>3 ^ (n - x.1)).sum
theorem jj (n:Nat)(ps:List gq)(x:gq):gR n (ps++[x])=gR n ps + 3 ^ (n - x.1):=by unfold gR;rw [zD,yJ];simp
section
variable {ms:List M4}{V:Nat->Nat->Nat->Int}{W:Nat}{ws:Wq}{v:Nat}{a:Int}{G:List (Nat×Nat)}{ps:List gq}{j w s:Nat}
theorem bY.start (hv:v < W):bY ms V W ws v a [] [(cnt ms a,v,2 ^ ws.length - 1)]:=by
 refine ⟨λx hx=>?_,(λ_ z=>nomatch z),?_,λk x hx=>.inl ⟨_,.head _,?_⟩⟩
 ·cases zJ.mp hx;have:=yk ws.length;exact ⟨dY _ _,hv,by show _ - 1 < _;omega,.root⟩
 ·simp
 ·show (2 ^ ws.length - 1).testBit k=true;rw [Nat.testBit_two_pow_sub_one];exact decide_eq_true (zB.mp hx).1
theorem bY.kT (D:eL ms V W ws)(gd:Good W ms)(e:bY ms V W ws v a G (ps++[(j,w,s)])):0<=(ps.map λx=>V x.1 x.2.1 x.2.2).sum:=by
 have:∀ qs:List gq,(∀ x∈qs,x.1<=ms.length/\x.2.1 < W/\x.2.2 < 2 ^ ws.length)->0<=(qs.map λx=>V x.1 x.2.1 x.2.2).sum:=λqs=>by
  induction qs with
  | nil=>intro _;exact ze _
  | cons x qs ih=>
   intro h;obtain ⟨h1,h2,h3⟩:=h x (.head _);have:=D.nonneg gd (ms.length - x.1) x.1 (by omega) x.2.1 h2 x.2.2 h3;have:=ih λy hy=>h y (.tail _ hy);rw [zZ,xK];omega
 exact this ps λx hx=>by
  have:=e.p x (zY _ hx);exact ⟨this.1,this.2.1,this.2.2.1⟩
theorem bY.last (e:bY ms V W ws v a G (ps++[(j,w,s)])):j<=ms.length/\w < W/\s < 2 ^ ws.length/\aY ms v (cnt ms a) G j w:=e.p (j,w,s) (zI _ (.head _))
theorem bY.sum (e:bY ms V W ws v a G (ps++[(j,w,s)])):(G.length:Int) + (ps.map λx=>V x.1 x.2.1 x.2.2).sum + V j w s=V (cnt ms a) v (2 ^ ws.length - 1):=by have:=e.c;rw [zD,yJ] at this;simp only [zZ,yG,xK,xQ] at this;omega
theorem bY.bits (e:bY ms V W ws v a G (ps++[(j,w,s)]))(k:Nat)(x:Nat×Int)(hx:ws[k]?=some x):(∃ y∈ps,y.2.2.testBit k=true)\/(aC ms ws j w s).testBit k=true\/∃ j,j<=cnt ms x.2/\aY ms v (cnt ms a) G j x.1:=by
 rcases e.s k x hx with ⟨y,hy,b⟩ | h
 ·rcases zT.mp hy with m | m
  ·exact .inl ⟨y,m,b⟩
  ·cases zJ.mp m;rw [qE e.last.2.2.1];cases d:eZ ms ws j w k with
   | false=>right;left;simp only at b;rw [b];rfl
   | true=>
    right;right;unfold eZ at d;rw [hx] at d;simp only [zc,decide_eq_true_eq] at d;exact ⟨j,d.2,by rw [d.1];exact e.last.2.2.2⟩
 ·exact .inr (.inr h)
theorem bY.drop (D:eL ms V W ws)(F:jF ms V W ws.length ws)(e:bY ms V W ws v a G (ps++[(j,w,s)]))(z:aC ms ws j w s=0):bY ms V W ws v a G ps:=by
 obtain ⟨l1,l2,l3,l4⟩:=e.last;have es:=e.sum;rw [D.eq l1 l2 l3,z,F.zero j l1 w l2] at es;refine ⟨λx hx=>e.p x (zY _ hx),e.g,by omega,λk x hx=>?_⟩;rcases e.bits k x hx with h | h | h
 ·exact .inl h
 ·rw [z,yB] at h;cases h
 ·exact .inr h
theorem bY.go (D:eL ms V W ws)(e:bY ms V W ws v a G (ps++[(j,w,s)]))(lt:j < ms.length)(z:V j w (aC ms ws j w s)=V (j + 1) w (aC ms ws j w s)):bY ms V W ws v a G (ps++[(j + 1,w,aC ms ws j w s)]):=by
 obtain ⟨l1,l2,l3,l4⟩:=e.last;have es:=e.sum;rw [D.eq l1 l2 l3,z] at es;have os:=(wg (ms:=ms) (j:=j) (w:=w) l3).lt l3;refine ⟨λx hx=>?_,e.g,?_,λk x hx=>?_⟩
 ·rcases zT.mp hx with m | m
  ·exact e.p x (zY _ m)
  ·cases zJ.mp m;exact ⟨lt,l2,os,.keep l4⟩
 ·rw [zD,yJ];simp only [zZ,yG,xK,xQ];omega
 ·rcases e.bits k x hx with ⟨y,hy,h⟩ | h | h
  ·exact .inl ⟨y,zY _ hy,h⟩
  ·exact .inl ⟨_,zI _ (.head _),h⟩
  ·exact .inr h
theorem bY.give (D:eL ms V W ws)(gd:Good W ms)(e:bY ms V W ws v a G (ps++[(j,w,s)])){o p:Nat}{t:Int}(l:bO ms j w o t)(sp:bS p (aC ms ws j w s))(z:V j w (aC ms ws j w s)=1 + V (j + 1) w p + V (j + 1) o (aC ms ws j w s - p)):bY ms V W ws v a (G++[(j,w)]) (ps++[(j + 1,w,p)]++[(j + 1,o,aC ms ws j w s - p)]):=by
 obtain ⟨l1,l2,l3,l4⟩:=e.last;have es:=e.sum;rw [D.eq l1 l2 l3,z] at es;have lt:j < ms.length:=by obtain ⟨m',hm,_⟩:=l;exact (zB.mp hm).1
 have os:=(wg (ms:=ms) (j:=j) (w:=w) l3).lt l3;have up:∀ x∈G,x∈G++[(j,w)]:=λx hx=>zY _ hx;have hj:=l4.mono up;refine ⟨λx hx=>?_,λx hx=>?_,?_,λk x hx=>?_⟩
 ·rcases zT.mp hx with m | m
  ·rcases zT.mp m with m | m
   ·have:=e.p x (zY _ m);exact ⟨this.1,this.2.1,this.2.2.1,this.2.2.2.mono up⟩
   ·cases zJ.mp m;exact ⟨lt,l2,sp.lt os,.keep hj⟩
  ·cases zJ.mp m;exact ⟨lt,(l.inside gd).2.1,zq (Nat.sub_le _ _) os,.give hj (zI _ (.head _)) l⟩
 ·rcases zT.mp hx with m | m
  ·exact e.g x m
  ·cases zJ.mp m;exact ⟨lt,l2⟩
 ·rw [zD,zD,yJ,yJ,zL];simp only [zZ,yG,xK,xQ,zR,yT]
  push_cast
  omega
 ·rcases e.bits k x hx with ⟨y,hy,h⟩ | h | ⟨i,h1,h2⟩
  ·exact .inl ⟨y,zY _ (zY _ hy),h⟩
  ·cases b:p.testBit k with
   | true=>exact .inl ⟨_,zY _ (zI _ (.head _)),b⟩
   | false=>
    refine .inl ⟨_,zI _ (.head _),?_⟩;show (aC ms ws j w s - p).testBit k=true;rw [(jX sp).2.2,h,b];rfl
  ·exact .inr ⟨i,h1,h2.mono up⟩
theorem bY.RO (D:eL ms V W ws)(gd:Good W ms)(e:bY ms V W ws v a G (ps++[(j,w,s)]))(C:V (cnt ms a) v (2 ^ ws.length - 1)<=ms.length)(z:aC ms ws j w s≠0):j < ms.length:=by
 obtain ⟨l1,l2,l3,l4⟩:=e.last;have es:=e.sum;have nn:=e.kT D gd;by_cases q:j=ms.length
 ·exfalso;obtain ⟨F,hF,_,l⟩:=D.row l1 l2 l3;rcases l with ⟨z',_⟩ | ⟨_,l⟩
  ·exact z z'
  ·cases F with
   | some H=>have:=(hF H rfl).1;omega
   | none=>simp only at l;omega
 ·omega
end
end Sm
namespace L2
open PySem PySem.Spec PyProof.Rows PySem.W aQ
section
variable {X:Cx}{ai:List (Addr×Obj)}{σ:St} {H0:Hp}{A:Around}{R:Result->Shared->Prop}{l S Ia:Addr}{fa:Addr}{ps:List (Addr×List Int)}{kf:List Int->Int}
theorem iY.to {H H':Hp}{b:Addr}(h:iY X ai H b)(n:H' b=none):iY X ai H' b:=⟨n,h.2⟩
theorem Ng (hh:A.in1.handled=none)(hl:H0 l=some (.lst (ps.map λa=>V.ref a.1)))(U4:S≠Ia)(hz:ps.length<=sizeLine)
  (turn:∀ (gf:List (Addr×Obj)) (a:Addr) (r:List Int) (s':Shared) (H':Hp),(∀ p∈ai,p∈gf)->(a,r)∈ps->Inv X gf σ H' s'->(∀ b u,H0 b=some u->H' b=some u) ->
   wpAny (model X.prog X.w) A.in1 (call (.ref fa) [.ref a]) (EP X gf σ λv Vx=>v=.int (kf r)/\ay H' Vx) (λ_ _=>False) s')
  (q:∀ a s' H',a∈ps->(∀ b∈ps,kf a.2<=kf b.2)->Inv X ai σ H' s'->(∀ b u,H0 b=some u->H' b=some u)->R (.ok (.ret (.ref a.1))) s') :
  ∀ (r j i:Nat) (s:Shared) (H:Hp) (a:Addr×List Int) (tb:Tok) (c:Nat),ps.length - (j + 1)=r->j + 1<=ps.length->Inv X ai σ H s->(∀ b u,H0 b=some u->H b=some u)->iY X ai H S->iY X ai H Ia ->
   s.heap.get? S=some (seqObj "list" #[.ref a.1,.int (kf a.2) tb] c)->s.heap.IsListIter Ia l (j + 1)->ps[i]?=some a->i<=j->(∀ j' b,j'<=j->ps[j']?=some b->kf a.2<=kf b.2) ->
   codeAny (model X.prog X.w) A (.builtin "min.loop" ⟨[.ref Ia,.ref fa,.ref S],[]⟩) R s:=by
 have tY:(toString "min" ++ toString ".loop" : String) = "min.loop" := by decide
 intro r;induction r with
 | zero=>
  intro j i s H a tb c hr hj I ext fS fI hS hit ha rH best;have hin:j + 1=ps.length:=by omega
  obtain ⟨az,rv,p,_⟩:=I.list (aG.of (ext _ _ hl));have li:=rv.length;rw [zA] at li;refine codeAny_builtin PySem.F.entry_min_loop ?_;rw [Around.under_plainId yM _];show wpAny _ A.in1 (seqItems? (.ref S) >>= _) _ _ _;refine wpAny_bind (wpAny_seqItems hS rfl ?_);show wpAny _ A.in1 (tryCatch (pyNext (.ref Ia)) _ >>= _) _ _ _;refine wpAny_bind (wpAny_tryCatch (wpAny_pyNext_list_end hh hit p.isList (by simp;omega) λh' eb=>?_));have I1:Inv X ai σ H { s with heap:=h' }:=I.turned (t':=s.toks) (λb o hb e=>eb b o hb e) fI.1 fI.2.1 fI.2.2.2.1 fI.2.2.2.2.1 fI.2.2.2.2.2;have XY:=eb S _ U4 hS;show wpAny _ A.in1 (updateSeq S (λ_=>#[]) >>= _) _ _ _;refine wpAny_bind ?_;refine wpAny_updateSeq XY rfl (wpAny_bind (wpAny_letGo (wpAny_pure ?_)));have I2:Inv X ai σ H { s with heap:=h'.update S (Obj.mapSeq λ_=>(#[]:Array Value)) }:=I1.turned (t':=s.toks) (λb o hb e=>(Heap.get?_update_other _ _ (Ne.symm hb)).trans e) fS.1 fS.2.1 fS.2.2.2.1 fS.2.2.2.2.1 fS.2.2.2.2.2;refine q a _ H (zC ha) (λb hb=>?_) I2 ext;obtain ⟨j',r9⟩:=zv.mp hb;exact best j' b (by have:=(zB.mp r9).1;omega) r9
 | succ r ih=>
  intro j i s H a tb c hr hj I ext fS fI hS hit ha rH best;have dU:j + 1 < ps.length:=by omega
  obtain ⟨a',XW⟩:∃ a',ps[j + 1]?=some a':=⟨_,zG dU⟩;obtain ⟨az,rv,p,_⟩:=I.list (aG.of (ext _ _ hl));obtain ⟨u,hu,ru⟩:=rv.get (i:=j + 1) (by rw [zF,XW];rfl);cases ru;refine codeAny_builtin PySem.F.entry_min_loop ?_;rw [Around.under_plainId yM _];show wpAny _ A.in1 (seqItems? (.ref S) >>= _) _ _ _;refine wpAny_bind (wpAny_seqItems hS rfl ?_);show wpAny _ A.in1 (tryCatch (pyNext (.ref Ia)) _ >>= _) _ _ _;refine wpAny_bind (wpAny_tryCatch (wpAny_pyNext_list_item hit p.isList (x:=.ref a'.1) (by simpa using hu) λh' qu sb=>?_));have I1:Inv X ai σ H { s with heap:=h' }:=I.turned (t':=s.toks) (λb o hb e=>(sb.2 b hb).trans e) fI.1 fI.2.1 fI.2.2.2.1 fI.2.2.2.2.1 fI.2.2.2.2.2;have XY:=(sb.2 S U4).trans hS;obtain ⟨oI,hoI,UR,VO⟩:=id qu;have I2:Inv X ((S,seqObj "list" #[.ref a.1,.int (kf a.2) tb] c)::(Ia,oI)::ai) σ H { s with heap:=h' }:=I1.cS λx hx=>by
   rcases zN.mp hx with rfl | hx
   ·exact ⟨XY,fS.1,fS.2.1,fS.2.2.1,by intro v z;cases z⟩
   ·rcases zN.mp hx with rfl | hx
    ·exact ⟨hoI,fI.1,fI.2.1,fI.2.2.1,by intro v z;rw [VO] at z;cases z⟩
    ·exact I1.pin x (zI _ hx)
  show wpAny _ A.in1 (tryCatch (holding [.ref a'.1] (call (.ref fa) [.ref a'.1])) _ >>= _) _ _ _;refine wpAny_bind (wpAny_tryCatch (wpAny_holding (wpAny_mono (turn _ a'.1 a'.2 _ H (λx hx=>.tail _ (.tail _ hx)) (zC XW) I2 ext) (λx rY he=>?_) λ_ _ hF=>hF.elim)));obtain ⟨v',H2,J2,rv2,rfl,sm⟩:=he;obtain ⟨t2,rfl⟩:=rv2;have pS:=J2.pin (S,seqObj "list" #[.ref a.1,.int (kf a.2) tb] c) (zI _ (.head _));have pI:=J2.pin (Ia,oI) (zI _ (.tail _ (.head _)));have J3:Inv X ai σ H2 rY:=J2.cS λx hx=>J2.pin x (zI _ (.tail _ (.tail _ hx)));have Mq:=fS.to (H':=H2) pS.2.1;have Zq:=fI.to (H':=H2) pI.2.1;have ext2:∀ b u,H0 b=some u->H2 b=some u:=λb u e=>sm _ _ (ext b u e);have ab9:rY.heap.IsListIter Ia l (j + 1 + 1):=⟨oI,pI.1,UR,VO⟩;show wpAny _ A.in1 (tryCatch (holding [.ref a'.1,.int (kf a'.2) t2] (richCompare .Lt (.int (kf a'.2) t2) (.int (kf a.2) tb) >>= _)) _ >>= _) _ _ _;refine wpAny_bind (wpAny_tryCatch (wpAny_holding (wpAny_bind (CmpOf.ints_lt (prog:=X.prog) (w:=X.w) (A:=A.in1) (P:=λi v=>∃ t,v=.int ((λn=>if n=0 then kf a'.2 else kf a.2) i) t) (λn=>if n=0 then kf a'.2 else kf a.2) (λi v h=>h) 0 1 _ _ _ _ _ ⟨t2,rfl⟩ ⟨tb,rfl⟩ ?_))));refine wpAny_bind (wpAny_holding (wpAny_truthy_bool ?_));refine wpAny_bind (wpAny_letGo (wpAny_pure ?_));by_cases lU:kf a'.2 < kf a.2
  ·have s1:=Heap.SameBut.update rY.heap S (Obj.mapSeq λ_=>#[.ref a'.1,.int (kf a'.2) t2]);obtain ⟨c2,VQ⟩:∃ c2,(rY.heap.update S (Obj.mapSeq λ_=>#[.ref a'.1,.int (kf a'.2) t2])).get? S=some (seqObj "list" #[.ref a'.1,.int (kf a'.2) t2] c2):=⟨_,get?_update_seq pS.1 λ_=>#[.ref a'.1,.int (kf a'.2) t2]⟩;have hd:decide ((if (0:Nat)=0 then kf a'.2 else kf a.2) < (if (1:Nat)=0 then kf a'.2 else kf a.2))=true:=decide_eq_true (by simpa using lU);simp only [if_true,Nat.one_ne_zero,if_false,lU,decide_true];refine wpAny_bind ?_;refine wpAny_updateSeq pS.1 rfl (wpAny_bind (wpAny_letGo ?_));rw [tY];have J4:Inv X ai σ H2 { rY with heap:=rY.heap.update S (Obj.mapSeq λ_=>#[.ref a'.1,.int (kf a'.2) t2]) }:=J3.turned (t':=rY.toks) (λb o hb e=>(Heap.get?_update_other _ _ (Ne.symm hb)).trans e) Mq.1 Mq.2.1 Mq.2.2.2.1 Mq.2.2.2.2.1 Mq.2.2.2.2.2;refine wpAny_pure ⟨plainId_quiet yM _,ih (j + 1) (j + 1) _ H2 a' t2 c2 (by omega) dU J4 ext2 Mq Zq VQ ⟨oI,(s1.2 Ia U4.symm).trans pI.1,UR,VO⟩ XW (zE _) λj' b r9 hb=>?_⟩;by_cases e:j'=j + 1
   ·subst e;rw [XW] at hb;cases hb;exact ze _
   ·have:=best j' b (by omega) hb;omega
  ·have hd:decide ((if (0:Nat)=0 then kf a'.2 else kf a.2) < (if (1:Nat)=0 then kf a'.2 else kf a.2))=false:=decide_eq_false (by simpa using lU);simp only [if_true,Nat.one_ne_zero,if_false,lU,decide_false,Bool.false_eq_true];refine wpAny_bind (wpAny_letGo ?_);rw [tY];refine wpAny_pure ⟨plainId_quiet yM _,ih (j + 1) i _ H2 a tb c (by omega) dU J3 ext2 Mq Zq pS.1 ab9 ha (by omega) λj' b r9 hb=>?_⟩;by_cases e:j'=j + 1
   ·subst e;rw [XW] at hb;cases hb;omega
   ·exact best j' b (by omega) hb
theorem Nh {E:Value->Shared->Prop}{Q:Value->Shared->Prop}{s:Shared}(hh:A.in1.handled=none)(I:Inv X ai σ H0 s)(hl:H0 l=some (.lst (ps.map λa=>V.ref a.1)))(oY:0 < ps.length)(hz:ps.length<=sizeLine)
  (turn:∀ (gf:List (Addr×Obj)) (a:Addr) (r:List Int) (s':Shared) (H':Hp),(∀ p∈ai,p∈gf)->(a,r)∈ps->Inv X gf σ H' s'->(∀ b u,H0 b=some u->H' b=some u) ->
   wpAny (model X.prog X.w) A.in1 (call (.ref fa) [.ref a]) (EP X gf σ λv Vx=>v=.int (kf r)/\ay H' Vx) (λ_ _=>False) s')
  (q:∀ a s' H',a∈ps->(∀ b∈ps,kf a.2<=kf b.2)->Inv X ai σ H' s'->(∀ b u,H0 b=some u->H' b=some u)->Q (.ref a.1) s') :
  wpAny (model X.prog X.w) A (call (.builtin "min") [.ref l] [(Str.ofString "key", .ref fa)]) Q E s:=by
 have tY:(toString "min" ++ toString ".loop" : String) = "min.loop" := by decide
 obtain ⟨az,rv,p,_⟩:=I.list (aG.of hl);obtain ⟨a0,XU⟩:∃ a,ps[0]?=some a:=⟨_,zG oY⟩;obtain ⟨u,hu,ru⟩:=rv.get (i:=0) (by rw [zF,XU];rfl);cases ru;have li:=rv.length;rw [zA] at li;refine kmk_tree PySem.F.kind_min PySem.F.plain_min PySem.F.entry_min (kmk_min_key _ _) ?_;show wpAny _ A.in1 (Builtin.Builtins.bindParams "min" ["key", "default"] 0 ⟨[],[(Str.ofString "key", .ref fa)]⟩ >>= _) _ _ s;refine wpAny_bind (wpAny_of_eq (show Builtin.Builtins.bindParams "min" ["key", "default"] 0 ⟨[],[(Str.ofString "key", .ref fa)]⟩=pure [some (.ref fa),none] from rfl) ?_);refine wpAny_bind (wpAny_pure ?_);refine wpAny_bind (wpAny_pyIter_list p.isList ?_);refine wpAny_bind (wpAny_newList ?_ (zX _));rw [tY];have hS:(s.heap.push { cls:=.type "list_iterator", data:=.fields #[.ref l,.int 0 0] }).objs.size=s.heap.objs.size + 1:=size_push' ..;refine wpAny_pure ⟨plainId_quiet yM _,?_⟩;have gI:((s.heap.push { cls:=.type "list_iterator", data:=.fields #[.ref l,.int 0 0] }).push (seqObj "list" #[] 0)).get? s.heap.objs.size=some { cls:=.type "list_iterator", data:=.fields #[.ref l,.int 0 0] }:=
  Heap.get?_push_of_some _ (Heap.get?_push_size _ rfl)
 have gS:=Heap.get?_push_size (s.heap.push { cls:=.type "list_iterator", data:=.fields #[.ref l,.int 0 0] }) (o:=seqObj "list" #[] 0) rfl;have fI:=I.rJ (b:=s.heap.objs.size) (zE _) I.fresh;have fS:=I.rJ (b:=(s.heap.push { cls:=.type "list_iterator", data:=.fields #[.ref l,.int 0 0] }).objs.size) (by rw [hS];exact zx _) (I.aR.fresh (by rw [hS];exact zx _));have U4:(s.heap.push { cls:=.type "list_iterator", data:=.fields #[.ref l,.int 0 0] }).objs.size≠s.heap.objs.size:=by rw [hS];exact ym (yu _)
 have I0:∀ t',Inv X ai σ H0 { s with heap:=(s.heap.push { cls:=.type "list_iterator", data:=.fields #[.ref l,.int 0 0] }).push (seqObj "list" #[] 0),toks:=t' }:=λt'=>I.kept (t':=t') λb o e=>Heap.get?_push_of_some _ (Heap.get?_push_of_some _ e);generalize (s.heap.push { cls:=.type "list_iterator", data:=.fields #[.ref l,.int 0 0] }).objs.size=S at *;generalize (s.heap.push { cls:=.type "list_iterator", data:=.fields #[.ref l,.int 0 0] }).push (seqObj "list" #[] 0)=h1 at *;generalize s.heap.objs.size=Ia at *;refine codeAny_builtin PySem.F.entry_min_loop ?_;rw [Around.under_plainId yM _];show wpAny _ A.in1 (seqItems? (.ref S) >>= _) _ _ _;refine wpAny_bind (wpAny_seqItems gS rfl ?_);show wpAny _ A.in1 (tryCatch (pyNext (.ref Ia)) _ >>= _) _ _ _;have hIt:h1.IsListIter Ia l 0:=⟨_,gI,rfl,rfl⟩;obtain ⟨its',rv',p',_⟩:=(I0 s.toks).list (aG.of hl);obtain ⟨u',hu',OS⟩:=rv'.get (i:=0) (by rw [zF,XU];rfl);cases OS;refine wpAny_bind (wpAny_tryCatch (wpAny_pyNext_list_item hIt p'.isList (x:=.ref a0.1) (by simpa using hu') λh' qu sb=>?_));have I1:∀ t',Inv X ai σ H0 { s with heap:=h',toks:=t' }:=λt'=>(I0 s.toks).turned (t':=t') (λb o hb e=>(sb.2 b hb).trans e) fI.1 fI.2.1 fI.2.2.2.1 fI.2.2.2.2.1 fI.2.2.2.2.2;have XY:=(sb.2 S U4).trans gS;obtain ⟨oI,hoI,UR,VO⟩:=id qu;have I2:∀ t',Inv X ((S,seqObj "list" #[] 0)::(Ia,oI)::ai) σ H0 { s with heap:=h',toks:=t' }:=λt'=>(I1 t').cS λx hx=>by
  rcases zN.mp hx with rfl | hx
  ·exact ⟨XY,fS.1,fS.2.1,fS.2.2.1,by intro v z;cases z⟩
  ·rcases zN.mp hx with rfl | hx
   ·exact ⟨hoI,fI.1,fI.2.1,fI.2.2.1,by intro v z;rw [VO] at z;cases z⟩
   ·exact (I1 t').pin x (zI _ hx)
 show wpAny _ A.in1 (tryCatch (holding [.ref a0.1] (call (.ref fa) [.ref a0.1])) _ >>= _) _ _ _;refine wpAny_bind (wpAny_tryCatch (wpAny_holding (wpAny_mono (turn _ a0.1 a0.2 _ H0 (λx hx=>.tail _ (.tail _ hx)) (zC XU) (I2 _) λb u e=>e) (λx rY he=>?_) λ_ _ hF=>hF.elim)));obtain ⟨v',H2,J2,rv2,rfl,sm⟩:=he;obtain ⟨t2,rfl⟩:=rv2;have pS:=J2.pin (S,seqObj "list" #[] 0) (zI _ (.head _));have pI:=J2.pin (Ia,oI) (zI _ (.tail _ (.head _)));have J3:Inv X ai σ H2 rY:=J2.cS λx hx=>J2.pin x (zI _ (.tail _ (.tail _ hx)));have Mq:=fS.to (H':=H2) pS.2.1;have Zq:=fI.to (H':=H2) pI.2.1;have s1:=Heap.SameBut.update rY.heap S (Obj.mapSeq λ_=>#[.ref a0.1,.int (kf a0.2) t2]);obtain ⟨c2,VQ⟩:∃ c2,(rY.heap.update S (Obj.mapSeq λ_=>#[.ref a0.1,.int (kf a0.2) t2])).get? S=some (seqObj "list" #[.ref a0.1,.int (kf a0.2) t2] c2):=⟨_,get?_update_seq pS.1 λ_=>#[.ref a0.1,.int (kf a0.2) t2]⟩;show wpAny _ A.in1 (updateSeq S (λ_=>#[.ref a0.1,.int (kf a0.2) t2]) >>= _) _ _ _;refine wpAny_bind ?_;refine wpAny_updateSeq pS.1 rfl ?_;rw [tY];have J4:Inv X ai σ H2 { rY with heap:=rY.heap.update S (Obj.mapSeq λ_=>#[.ref a0.1,.int (kf a0.2) t2]) }:=J3.turned (t':=rY.toks) (λb o hb e=>(Heap.get?_update_other _ _ (Ne.symm hb)).trans e) Mq.1 Mq.2.1 Mq.2.2.2.1 Mq.2.2.2.2.1 Mq.2.2.2.2.2;refine wpAny_pure ⟨plainId_quiet yM _,Ng hh hl U4 hz turn q _ 0 0 _ H2 a0 t2 c2 rfl oY J4 (λb u e=>sm _ _ e) Mq Zq VQ ⟨oI,(s1.2 Ia U4.symm).trans pI.1,UR,VO⟩ XU (zE _) λj' b r9 hb=>?_⟩;have e:j'=0:=by omega
 subst e;rw [XU] at hb;cases hb;exact ze _
end
structure jD (ps:List Str) (caps:List Nat) (N:List Str) (sc scope:Scope):Prop where
 kind:scope.kind=.function
 co:scope.isCoroutine=false
 gen:scope.isGenerator=false
 j5:∀ y∈scope.names,y.2≠.cell
 par:∀ x∈ps,scope.names.lookup x=some .local
 fr:∀ y∈scope.names,y.2=.free->sc.names.lookup y.1=some .cell\/sc.names.lookup y.1=some .free
 cap:∀ i∈caps,i < N.length/\scope.names.lookup ((N[i]?).getD Str.empty)=some .free
 nd:ps.Nodup
def vN (X:Cx)(qual:Str)(scope:Scope)(L f:Addr)(cd:Value):Env:={ scope:=scope,locals:=L,globals:=mainGlobals,cells:=fO scope.names X.env [],qual:=qual ++ ".<locals>.", func:=some f,code:=cd,frame:=some L,builtins:=builtinsNs }
def Qn (X:Cx)(ps:List Str)(caps:List Nat)(qual:Str)(scope:Scope)(f:Addr)(cd:Value)(A:Around)(s:Shared)(H:Hp):Cx:=
 { X with A:=A.deeper (vN X qual scope s.heap.objs.size f cd),N:=ps++caps.map (λi=>(X.N[i]?).getD Str.empty),cI:=s,LJ:=H,env:=vN X qual scope s.heap.objs.size f cd,outer:=X.stack,stack:=vN X qual scope s.heap.objs.size f cd::X.stack,ex:=[],fn:=λ_=>false,calm:=true,pn:=[],xe:=λ_ _=>False }
def iR (vs:List V)(caps:List Nat)(σ:St):St:=vs.map some++caps.map λi=>(σ[i]?).join
theorem sj {x:Str}{u:Value}:∀ {ps:List Str}{us:List Value}{i:Nat},ps.Nodup->ps[i]?=some x->us[i]?=some u->(ps.zip us).reverse.lookup x=some u
 | [],_,i,_,h,_=>by simp at h
 | p::ps,[],i,_,_,h=>by simp at h
 | p::ps,v::us,0,nd,h,h'=>by
  obtain rfl:p=x:=Option.some.inj h;obtain rfl:v=u:=Option.some.inj h';rw [List.zip_cons_cons,yo,List.lookup_append];have:(ps.zip us).reverse.lookup p=none:=by
   rw [List.lookup_eq_none_iff];rintro ⟨a,b⟩ hb;have:=(xU (yU.mp hb)).1;have ne:a≠p:=λe=>(yW.mp nd).1 (by rw [<-e];exact this);simpa using Ne.symm ne
  rw [this];simp
 | p::ps,v::us,i + 1,nd,h,h'=>by
  rw [List.zip_cons_cons,yo,List.lookup_append,sj (yW.mp nd).2 h h'];rfl
section
variable {X:Cx}{ai:List (Addr×Obj)}{σ:St}{H:Hp}{s:Shared}
theorem Sa {ps:List Str}{caps:List Nat}{qual:Str}{scope:Scope}{f:Addr}{cd:Value}{A:Around}{us:List Value}{vs:List V}{h1:Heap}{tk:Nat}(I:Inv X ai σ H s)(S:jD ps caps X.N X.env.scope scope)
  (hh:A.handled=none) (hf:A.frames=some X.stack) (hl:vs.length=ps.length) (r:Vals vs us)
  (QL:h1.Ns s.heap.objs.size λx=>(ps.zip us).reverse.lookup x) (S4:Heap.SameBut s.heap.objs.size (s.heap.push { cls:=.type "frame", data:=.dict #[] }) h1) :
  Inv (Qn X ps caps qual scope f cd A s H) [] (iR vs caps σ) H { s with heap:=h1,toks:=tk }:=by
 have keep:∀ b o,s.heap.get? b=some o->h1.get? b=some o:=λb o e=>(S4.2 b (za (Heap.lt_size e))).trans (Heap.get?_push_of_some _ e);refine ⟨⟨I.ok.mod,S.kind,rfl,rfl,zE _,λx y c h1 h2=>I.ok.inj x y c (wR h1) (wR h2),λx hx=>?_,λx c z _=>absurd (show false=true from z) zK,λ_=>hh,Around.frames_deeper hf,.inr ⟨rfl,rfl⟩,
   λb hb=>absurd (show b∈([]:List Addr) from hb) (by simp),I.bs,zi I.ok.N7 I.sz,λb _ _ z=>absurd (show b∈([]:List Addr) from z) (by simp),λb hb=>absurd (show b∈([]:List Addr) from hb) (by simp),I.stack,I.qt⟩,
  rfl,I.bare,Un.kept keep,⟨_,QL,λi x v e1 e2 e3=>?_⟩,λx c e=>?_,I.aR.fresh (zE _),λx c e=>I.gX x c (wR e),λp hp=>absurd (show p∈([]:List (Addr×Obj)) from hp) (by simp),I.aR.kept keep,?_⟩
 ·have hx:scope.names.lookup x=some .cell\/scope.names.lookup x=some .free:=hx;rcases hx with hx | hx
  ·exact absurd rfl (S.j5 _ (zn hx))
  ·have hm:=zn hx;obtain ⟨c,hc⟩:=I.ok.has x (S.fr _ hm rfl);exact ⟨c,ig hm hc⟩
 ·have Ms:(vs.map some++caps.map λi=>(σ[i]?).join)[i]?=some (some v):=e2;have Mt:(ps++caps.map (λi=>(X.N[i]?).getD Str.empty))[i]?=some x:=e1;by_cases hi:i < ps.length
  ·rw [zl (by simpa [hl] using hi),zF] at Ms;rw [zl hi] at Mt;have hv:vs[i]?=some v:=by
    cases q:vs[i]? with
    | none=>rw [q] at Ms;cases Ms
    | some y=>rw [q] at Ms;cases Ms;rfl
   obtain ⟨u,hu,ru⟩:=r.get hv;have kx:=S.par x (zC Mt);exact ⟨u,ru,.inl ⟨kx,sj S.nd Mt hu⟩⟩
  ·have hi:ps.length<=i:=xP hi;rw [zb (by simpa [hl] using hi),zA,hl,zF] at Ms;rw [zb hi,zF] at Mt;cases ek:caps[i - ps.length]? with
   | none=>rw [ek] at Mt;cases Mt
   | some k=>
    rw [ek] at Mt Ms;have ex:(X.N[k]?).getD Str.empty=x:=Option.some.inj Mt;have ev:(σ[k]?).join=some v:=Option.some.inj Ms;have ev':σ[k]?=some (some v):=by
     cases q:σ[k]? with
     | none=>rw [q] at ev;cases ev
     | some y=>rw [q] at ev;exact congrArg some ev
    obtain ⟨XF,XQ⟩:=S.cap k (zC ek);have eN:X.N[k]?=some x:=by
     rw [zG XF] at ex ⊢;exact congrArg some ex
    rw [ex] at XQ;have hm:=zn XQ;have XN:=S.fr _ hm rfl;obtain ⟨m,_,UW⟩:=I.loc;obtain ⟨u,ru,lk⟩:=UW k x v eN ev' (.inr XN);refine ⟨u,ru,.inr ⟨.inr XQ,?_⟩⟩;rcases lk with ⟨kl,_⟩ | ⟨_,c,hc,ob,Sh,hd⟩
    ·have R7:X.env.scope.names.lookup x=some .local:=kl;rcases XN with z | z
     ·have z':X.env.scope.names.lookup x=some .cell:=z;rw [z'] at R7;cases R7
     ·have z':X.env.scope.names.lookup x=some .free:=z;rw [z'] at R7;cases R7
    ·exact ⟨c,ig hm hc,ob,keep c ob Sh,hd⟩
 ·obtain ⟨v,ob,Sh,hd⟩:=I.cell x c (wR e);exact ⟨v,ob,keep c ob Sh,hd⟩
 ·show (iR vs caps σ).length=(ps++caps.map (λi=>(X.N[i]?).getD Str.empty)).length;simp [iR,hl]
theorem PL {c' f:Addr}{k:Nat}{name qual:Str}{params:Arguments}{body:Expr}{scope:Scope}{pm rN:Value}{ps:List Str}{caps:List Nat}{A:Around}{us:List Value}{vs:List V}{Q:VK}(I:Inv X ai σ H s)(S:jD ps caps X.N X.env.scope scope)(hr:cB (k + 1) A)
  (hf:A.frames=some X.stack) (ho:s.heap.get? f=some (kla_obj name qual params body scope (fO scope.names X.env []) pm c' rN)) (tZ:s.heap.CodeRec (.ref c') qual) (hb:bindArgs (kla_fn name qual params body scope (fO scope.names X.env []) pm (.ref c') rN) ⟨us,[]⟩=pure (ps.zip us)) (hl:vs.length=ps.length) (r:Vals vs us)
  (jm:∃ t,PE (Qn X ps caps qual scope f (.ref c') A s H).Pj body t/\t (iR vs caps σ) H Q) :
  wpAny (model X.prog X.w) A (call (.ref f) us) (EP X ai σ Q) (λ_ _=>False) s:=by
 have lim:s.heap.NoLimit:=I.nolimit;have UW:∀ y∈ps.zip us,scope.names.lookup y.1=some .local:=λ⟨n,v⟩ hy=>S.par n (xU hy).1;refine wpAny_call (codeAny_mono (R:=λr s'=>match r with | .ok (.ret u)=>EP X ai σ Q u s' | _=>False) (kla_callFunE hr.depth ho rfl S.co S.gen rfl tZ ?_) λr s3 Xu=>?_)
 ·rw [hb];refine wpAny_pure ?_;refine PySem.wpAny_newFunctionEnv S.j5 UW (λh1 QL S4=>?_) S.kind;have keep:∀ b o,s.heap.get? b=some o->h1.get? b=some o:=λb o e=>(S4.2 b (za (Heap.lt_size e))).trans (Heap.get?_push_of_some _ e);refine ⟨lim.keeps keep,kla_codeExpr ?_⟩;obtain ⟨t,ht,hq⟩:=jm;have J:=Sa (qual:=qual) (f:=f) (cd:=.ref c') (A:=A) (tk:=s.toks + (ps.zip us).length) I S hr.hd hf hl r QL S4;refine wpAny_mono (ht.Pj [] _ (iR vs caps σ) H _ J hq) (λu s' hs=>?_) λe s' hs=>hs.elim;obtain ⟨v,H',J',rv,q⟩:=hs;exact I.after ⟨v,H',J'.os,J'.bare,J'.base,J'.aR,rv,q⟩
 ·cases r with
  | error e=>exact Xu.elim
  | ok fl=>
   cases fl with
   | ret u=>exact Xu
   | next=>exact False.elim Xu
   | brk=>exact False.elim Xu
   | cont=>exact False.elim Xu
end
end L2
namespace L2
open PySem PySem.Spec PyProof.Rows PySem.W aQ PySem.Calls
def Wc (P:Addr)(tQ:Pos)(qual:Str)(caps:List Nat)(te tb:TE):TE:=fun σ H Q=>te σ H λx H1=>∃ l,∃ ps:List (Addr×List Int),∃ kf:List Int->Int,[x]=[V.ref l]/\H1 l=some (.lst (ps.map λa=>V.ref a.1))/\0 < ps.length/\MT P tQ qual H1/\(∀ a∈ps,H1 a.1=some (.tup (a.2.map V.int))) /\
 (∀ a∈ps,∀ H',Sm.bN P H1 H'->tb (iR [V.ref a.1] caps σ) H' λv Vx=>v=.int (kf a.2)/\ay H' Vx) /\
 ∀ a H2,a∈ps->(∀ b∈ps,kf a.2<=kf b.2)->Sm.bN P H1 H2->MT P tQ qual H2->Q (.ref a.1) H2
section
variable {X:Cx}{e body:Expr}{te tb:TE}{np kp tQ pos:Pos}{params:Arguments}{scope:Scope}{P c:Addr}{caps:List Nat}{pn:Str}
theorem M6 (XS:X.calm=true)(hg:Gl X "min")(hm:X.mg "min" = none)(Ml:X.env.code=.ref c)(tZ:codeHdIn X.K c P=true)(bm:aO X.mg X.base)(UZ:defaultsOf params X.env=([],[]))(hr:cB 3 X.A)
  (S:jD [pn] caps X.N X.env.scope scope) (P6:∀ om pm c' rN u,bindArgs (kla_fn "<lambda>" (X.env.qual ++ "<lambda>") params body scope om pm (.ref c') rN) ⟨[u],[]⟩=pure (List.zip [pn] [u]))
  (jm:∀ f c' A s H,PE (Qn X [pn] caps (X.env.qual ++ "<lambda>") scope f (.ref c') A s H).Pj body tb)
  (he:PE X e te) (ns:notStar e=true) :
  PE X (.Call (.Name "min" np) [e] [⟨some "key", .Lambda params body scope tQ,kp⟩] pos) (Wc P tQ (X.env.qual ++ "<lambda>") caps te tb):=by
 intro ai s σ H Q I h;have ha:PA X [e] (mO te sO):=xb (xc he xo ns);have hh:X.A.handled=none:=I.ok.hd XS;refine wpAny_Call_Name_kw (fE I hg hm yY ?_ (by decide) (by decide));refine callWith_kw (aZ (ha pos ai s σ H (λvs H1=>∃ l,∃ ps:List (Addr×List Int),∃ kf:List Int->Int,vs=[V.ref l]/\H1 l=some (.lst (ps.map λa=>V.ref a.1))/\0 < ps.length/\MT P tQ (X.env.qual ++ "<lambda>") H1/\(∀ a∈ps,H1 a.1=some (.tup (a.2.map V.int))) /\
  (∀ a∈ps,∀ H',Sm.bN P H1 H'->tb (iR [V.ref a.1] caps σ) H' λv Vx=>v=.int (kf a.2)/\ay H' Vx) /\
  ∀ a H2,a∈ps->(∀ b∈ps,kf a.2<=kf b.2)->Sm.bN P H1 H2->MT P tQ (X.env.qual ++ "<lambda>") H2->Q (.ref a.1) H2) I h)
  λus s1 ⟨vs,H1,I1,r1,q1⟩=>kws_cons ?_) (by rw [jT ns];rfl) (by rw [jT ns];rfl)
 obtain ⟨l,ps,kf,rfl,hl,oY,mt,rows,hb,q⟩:=q1;obtain ⟨u,rfl,ru⟩:=vals1 r1;cases ru;have Zi:closureFor scope X.env=pure (fO scope.names X.env []):=iK λy hy hf=>I1.ok.has y.1 (S.fr y hy hf);refine PM I1 mt Ml tZ bm UZ Zi λf c' rN pm H' s' J VR bt mt'=>kws_nil ?_;have neP:∀ b u,H1 b=some u->(∀ ys,u≠.jQ ys)->b≠P:=λb u e n z=>by
  rcases mt with m | ⟨_,m,_⟩ <;> (rw [z,m] at e;cases e;exact n _ rfl)
 have XF:=bt _ _ (neP _ _ hl (by intro ys z;cases z)) hl;obtain ⟨hz,_⟩:=I1.tO hl;rw [zA] at hz;have Xz:(f,kla_obj "<lambda>" (X.env.qual ++ "<lambda>") params body scope (fO scope.names X.env []) pm c' rN)∈(f,kla_obj "<lambda>" (X.env.qual ++ "<lambda>") params body scope (fO scope.names X.env []) pm c' rN)::ai:=.head _;refine Nh (kf:=kf) (by first | exact hh | simpa using hh) J XF oY hz (λgf a r s2 H2 sub ha J2 ext=>?_) λa s2 H2 ha best J2 ext=>?_
 ·have hf:=J2.pin _ (zI _ (sub _ Xz));have hcr:s2.heap.CodeRec (.ref c') (X.env.qual ++ "<lambda>"):=(J2.aR c' _ (ext _ _ VR)).1;exact PL (k:=1) J2 S hr.in1 J2.Vh.in1.frames hf.1 hcr (P6 _ pm c' rN (.ref a)) (vs:=[V.ref a]) rfl (.cons rfl .nil) ⟨tb,jm f c' X.A.in1 s2 H2,hb (a,r) ha H2 λb u n e=>ext b u (bt b u n e)⟩
 ·refine ⟨.ref a.1,H2,J2.cS λp hp=>J2.pin p (zI _ (.tail _ hp)),rfl,q a H2 ha best (λb u n e=>ext b u (bt b u n e)) ?_⟩;rcases mt' with m | ⟨c1,m,m2⟩
  ·exact .inl (ext _ _ m)
  ·exact .inr ⟨c1,ext _ _ m,ext _ _ m2⟩
end
end L2
namespace Sm
open PySem L2
def j9:Str:=(("best_split" : Str) ++ ".<locals>.") ++ "<lambda>"
def qv (K:PySem.W.Frag)(T:Addr)(lp:Pos):Sp:=λvs H Q _=>∃ (a:Addr) (ns:List Int),vs=[.ref a]/\aG K H a (ns.map V.int)/\ns.length<=63/\MT T lp j9 H/\∀ H',Q (.bl true) H'
theorem _root_.L2.MT.dO {P:Addr}{pos:Pos}{q:Str}{H H':Hp}(m:MT P pos q H)(s:ay H H'):MT P pos q H':=by
 rcases m with m | ⟨c,m,k⟩
 ·exact .inl (s _ _ m)
 ·exact .inr ⟨c,s _ _ m,s _ _ k⟩
theorem _root_.L2.MT.Pq {P a:Addr}{pos:Pos}{q:Str}{H:Hp}{xs:List V}(m:MT P pos q H)(k:H a=some (.lst xs)):a≠P:=by rintro rfl;rcases m with m | ⟨c,m,_⟩ <;> (rw [k] at m;cases m)
theorem _root_.L2.MT.vn {P a:Addr}{pos:Pos}{q:Str}{H:Hp}{xs:List V}(m:MT P pos q H)(k:H a=some (.tup xs)):a≠P:=by rintro rfl;rcases m with m | ⟨c,m,_⟩ <;> (rw [k] at m;cases m)
abbrev wq (ws:List (Addr×Nat×Int)):Wq:=ws.map (·.2)
structure uC (H:Hp) (b l:Addr) (ah:List Int) (tr tm:Addr) (ps:List (Addr×M4)) (ws:List (Addr×Nat×Int)):Prop where
 bk:aM H b ah tr tm ps
 gd:Good ah.length (ps.map (·.2))
 r1:1<=ah.length
 oO:ah.length<=12
 wa:eO H l ah.length ws
 w4:ws.length<=4
theorem uC.same {H H':Hp}{b l:Addr}{ah:List Int}{tr tm:Addr}{ps:List (Addr×M4)}{ws:List (Addr×Nat×Int)}(h:uC H b l ah tr tm ps ws)(s:ay H H'):uC H' b l ah tr tm ps ws:=
 ⟨h.bk.same s,h.gd,h.r1,h.oO,h.wa.same s,h.w4⟩
def MO:Sp:=λvs H Q _=>∃ b l,∃ j w s:Nat,∃ ah tr tm ps ws,vs=[.ref b,.ref l,.int (j:Int),.int (w:Int),.int (s:Int)]/\uC H b l ah tr tm ps ws/\s < 2 ^ ws.length/\∀ H',ay H H'->Q (.int ((aC (ps.map (·.2)) (wq ws) j w s:Nat):Int)) H'
def oM (H:Hp)(v:V)(W sz:Nat)(F:Option (Nat->Nat->Int)):Prop:=(v=.bV/\F=none)\/∃ a,∃ A:List rT,v=.ref a/\H a=some (.lst (A.map λb=>V.ref b.1))/\A.length=W/\(∀ b∈A,H b.1=some (.lst (b.2.map V.int))/\b.2.length=sz)/\F=some λw s=>(((A.map (·.2)).getD w []).getD s 0)
theorem oM.same {H H':Hp}{v:V}{W sz:Nat}{F:Option (Nat->Nat->Int)}(h:oM H v W sz F)(s:ay H H'):oM H' v W sz F:=by
 rcases h with h | ⟨a,A,e,k,l,r,f⟩
 ·exact .inl h
 ·exact .inr ⟨a,A,e,s _ _ k,l,λb hb=>⟨s _ _ (r b hb).1,(r b hb).2⟩,f⟩
def MW:Sp:=λvs H Q _=>∃ b,∃ j w s:Nat,∃ v ah tr tm ps sz F,vs=[.ref b,.int (j:Int),.int (w:Int),.int (s:Int),v]/\aM H b ah tr tm ps/\Good ah.length (ps.map (·.2))/\ah.length<=12/\w < ah.length/\s < sz/\sz<=16/\oM H v ah.length sz F/\(∀ G,F=some G->j < ps.length) /\
 ∀ x H',ay H H'->ff (ps.map (·.2)) j F w s x->Q (.int x) H'
def Rn:Sp:=λvs H Q _=>∃ b l,∃ j w:Nat,∃ v ah tr tm ps ws F,vs=[.ref b,.ref l,.int (j:Int),.int (w:Int),v]/\uC H b l ah tr tm ps ws/\w < ah.length/\oM H v ah.length (2 ^ ws.length) F/\(∀ G,F=some G->j < ps.length) /\
 ∀ lr (r:List Int) H',ay H H'->H lr=none->H' lr=some (.lst (r.map V.int))->r.length=2 ^ ws.length->kO (ps.map (·.2)) (wq ws) j F w (λs=>r.getD s 0)->Q (.ref lr) H'
def uU:Sp:=λvs H Q _=>∃ b l ah tr tm ps ws,vs=[.ref b,.ref l]/\uC H b l ah tr tm ps ws /\
 ∀ lp P H',ay H H'->H lp=none->(∀ a∈P,H a.1=none/\∀ b∈a.2,H b.1=none)->lW H' lp ps.length ah.length (2 ^ ws.length) P->eL (ps.map (·.2)) (cP (aV P)) ah.length (wq ws)->Q (.ref lp) H'
def OL (T:Addr)(lp:Pos):Sp:=λvs H Q _=>∃ lk lg,∃ s:Nat,∃ xs ys:List Int,∃ sz,vs=[.ref lk,.ref lg,.int (s:Int)]/\H lk=some (.lst (xs.map V.int))/\H lg=some (.lst (ys.map V.int))/\xs.length=sz/\ys.length=sz/\s < sz/\sz<=16/\MT T lp j9 H /\
 ∀ t (p:Nat) H',bN T H H'->MT T lp j9 H'->H' t=some (.tup [.int (p:Int),.int ((s - p:Nat):Int)])->bS p s->(∀ p',bS p' s->xs.getD p 0 + ys.getD (s - p) 0<=xs.getD p' 0 + ys.getD (s - p') 0)->Q (.ref t) H'
structure Qx (H:Hp) (lt:Addr) (ms:List M4) (v:Nat) (a:Int) (ws:Wq) (Tl:List (Addr×Nat×Nat)) (h:Fn):Prop where
 top:H lt=some (.lst (Tl.map λx=>V.ref x.1))
 row:∀ x∈Tl,H x.1=some (.tup [.int (x.2.1:Int),.int (x.2.2:Int)])
 tr:eS ms (cnt ms a) (av v a) (Tl.map (·.2)) h
 sv:aD h ws
def Oz (T:Addr)(iy:Pos):Sp:=λvs H Q _=>∃ b,∃ k:Nat,∃ a l lp ah tr tm ps ws P,vs=[.ref b,.int (k:Int),.int a,.ref l,.ref lp]/\jH H b l lp ah tr tm ps ws P/\k < ah.length/\eL (ps.map (·.2)) (cP (aV P)) ah.length (wq ws) /\
 cP (aV P) (cnt (ps.map (·.2)) a) k (2 ^ ws.length - 1)<=ps.length/\(∀ x∈wq ws,x.1=k->a<=x.2)/\MT T iy j9 H /\
 ∀ lt Tl h H',bN T H H'->MT T iy j9 H'->H lt=none->Qx H' lt (ps.map (·.2)) k a (wq ws) Tl h->(Tl.length:Int)=cP (aV P) (cnt (ps.map (·.2)) a) k (2 ^ ws.length - 1)->Q (.ref lt) H'
def MG (ms:List M4)(k:Nat)(a:Int)(ws:Wq)(i:Nat):Prop:=(∃ x,ws[i]?=some x/\bq (fwd ms (av k a) x.1) x.2=false)/\∀ j,j < i->∀ x,ws[j]?=some x->bq (fwd ms (av k a) x.1) x.2=true
end Sm
namespace Sm
open PySem L2 aQ
theorem R3 {k:Nat}{x:Int}:av k x k=some x:=by unfold av;rw [if_pos rfl]
theorem qa {i:Nat}{y:Int}:∀ {ws:List W3}{st:Fn},st i=some y->ws.foldl aH st i=some y
 | [],_,h=>h
 | x::ws,st,h=>qa (ws:=ws) (st:=aH st x) (nQ h)
theorem gU (ms:List M4)(s:Nat)(a:Int):fwd ms (av s a) s=some a:=qa R3
end Sm
namespace L2
open PySem PySem.Spec PyProof.Rows
section
variable {prog:Program}{w:World}{A:Around}{E:Value->Shared->Prop}{s:Shared}
theorem lN:isSubtype (.type "range_iterator") (.type "reversed")=pure false:=by rw [isSubtype_type];kernel_rfl
def nX (n:Nat):Obj:={ cls:=.type "range_iterator", data:=.fields #[rawInt ((n:Int) - 1),rawInt (n:Int),rawInt (-1)] }
theorem o7 {r:Addr}{n:Nat}{t u v:Tok}{Q:Value->Shared->Prop}(hr:IsRange s.heap r 0 (n:Int) 1 t u v)(hn:(n:Int) < 2 ^ 62)
  (h:Q (.ref s.heap.objs.size) { s with heap:=s.heap.push (nX n) }):wpAny (model prog w) A (call (.builtin "range.__reversed__") [.ref r]) Q E s:=by
 refine wpAny_call_entry F.slot_range_reversed ⟨_,hr,rfl⟩ F.entry_range_reversed ?_ (F.args_range_reversed_1 _);unfold Builtin.«range.__reversed__»;refine wpAny_bind (wpAny_of_eq (a:=Value.ref r) rfl ?_);have sz:Builtin.Range.rangeSize 0 (n:Int) 1=(n:Int):=by rw [rangeSize_one];split <;> omega
 have fit:∀ x:Int,-(2 ^ 62)<=x->x < 2 ^ 62->Builtin.Range.rangeFitsLong x=true:=λx h1 h2=>by
  unfold Builtin.Range.rangeFitsLong;simp only [zc,decide_eq_true_eq];constructor <;> omega
 unfold Builtin.Range.rangeFields;have ea:∀ (i:Int) (t:Tok),asInt? (Value.int i t)=(pure (some i):Sem (Option Int)):=λ_ _=>rfl;refine wpAny_bind (wpAny_bind (wpAny_field hr rfl (x:=.int 0 t) rfl ?_));rw [ea,pure_bind];refine wpAny_bind (wpAny_field hr rfl (x:=.int n u) rfl ?_);rw [ea,pure_bind];refine wpAny_bind (wpAny_field hr rfl (x:=.int 1 v) rfl ?_);rw [ea,pure_bind];refine wpAny_pure ?_;have sm:(Builtin.Range.rangeFitsLong 0 && Builtin.Range.rangeFitsLong (n:Int) && Builtin.Range.rangeFitsLong 1 && Builtin.Range.rangeFitsLong (-1) && Builtin.Range.rangeFitsLong (0 - 1) && Builtin.Range.rangeFitsLong (n:Int))=true:=by
  rw [fit 0 (by decide) (by decide),fit n (by omega) (by omega),fit 1 (by decide) (by decide),fit (-1) (by decide) (by decide),fit (0 - 1) (by decide) (by decide)];rfl
 dsimp only;rw [sz,sm];simp only [Bool.not_true,Bool.false_eq_true,if_false,if_true];have e:(0:Int) + ((n:Int) - 1) * 1=(n:Int) - 1:=by omega
 rw [e];exact wpAny_bind (wpAny_newObj_type (wpAny_pure ⟨_,rfl,h⟩))
theorem NQ {r:Addr}{n:Nat}{t u v:Tok}{Q₁:Value->Shared->Prop}(hr:IsRange s.heap r 0 (n:Int) 1 t u v)(hn:(n:Int) < 2 ^ 62)
  (h:Q₁ (.ref s.heap.objs.size) { s with heap:=s.heap.push (nX n) }) :
  codeAny (model prog w) A (.call (.builtin "reversed.__new__") ⟨[.type "reversed", .ref r],[]⟩) (wants Q₁ E) s:=by
 have hT:s.TypeIs (.ref r) "range" := ⟨_,hr,rfl⟩;refine codeAny_of_tree ?_;show wpAny _ A.in1 (do checkBuiltinCall "reversed.__new__" ⟨[.type "reversed", .ref r],[]⟩;again (.builtin "reversed.__new__" ⟨[.type "reversed", .ref r],[]⟩)) _ _ s;refine wpAny_bind (wpAny_of_eq (F.newCall_reversed_1 _) (wpAny_pure ⟨plainId_quiet F.plain_reversed_new _,codeAny_builtin F.entry_reversed_new ?_⟩));rw [Around.under_plainId F.plain_reversed_new _];unfold Builtin.«reversed.__new__»;refine wpAny_bind (wpAny_of_eq (newClass_reversed _) ?_);try dsimp only
 refine wpAny_bind (wpAny_of_eq (a:=()) (by first | rfl | kernel_rfl) ?_);refine wpAny_bind (wpAny_of_eq (a:=()) (by first | rfl | kernel_rfl) ?_);try dsimp only
 refine wpAny_bind (wpAny_specialOf hT F.slot_range_reversed.lookup ?_);try dsimp only
 refine wpAny_bind (wpAny_of_eq (F.slot_range_reversed.bind _) ?_);try dsimp only
 first
 | rw [if_neg (show ¬ ((Value.builtin "range.__reversed__" == Value.none)=true) from zK)]
 | (show wpAny _ _ (if (Value.builtin "range.__reversed__" == Value.none)=true then _ else _) _ _ _;rw [if_neg (show ¬ ((Value.builtin "range.__reversed__" == Value.none)=true) from zK)])
 refine wpAny_bind (wpAny_rule ?_);refine wpAny_bind (m:=runValue (.call (.builtin "range.__reversed__") ⟨[.ref r],[]⟩)) (show wpAny _ _ (call (.builtin "range.__reversed__") [.ref r]) _ _ _ from o7 hr hn ?_)
 first
 | exact wpAny_pure h
 | exact wpAny_bind (wpAny_pure (wpAny_pure h))
theorem NR {r:Addr}{n:Nat}{t u v:Tok}{Q:Value->Shared->Prop}(hr:IsRange s.heap r 0 (n:Int) 1 t u v)(hn:(n:Int) < 2 ^ 62)
  (h:Q (.ref s.heap.objs.size) { s with heap:=s.heap.push (nX n) }):wpAny (model prog w) A (call (.type "reversed") [.ref r]) Q E s:=by
 refine callType_other (U := "range_iterator") (Q₁:=λobj aS=>obj=.ref s.heap.objs.size/\aS={ s with heap:=s.heap.push (nX n) }) (by decide +kernel) F.create_reversed ⟨_,_,F.mro_reversed⟩ F.made_reversed lN (F.typeCall_reversed_1 _) (NQ hr hn ⟨rfl,rfl⟩) ?_;rintro obj aS ⟨rfl,rfl⟩;exact ⟨⟨_,Heap.get?_push_size _ rfl,rfl⟩,h⟩
end
def Xi (ta:TA):TI:=fun σ H R=>ta σ H λvs H1=>∃ n:Nat,vs=[.int (n:Int)]/\(n:Int) < 2 ^ 62/\R (YH ((n:Int) - 1) (-1) n) H1
theorem RD {X:Cx}{tg a:Expr}{ta:TA}{p pos p2 qV:Pos}(hg:Gl X "reversed")(hm:X.mg "reversed" = none)(hg2:Gl X "range")(hm2:X.mg "range" = none)(ha:PA X [a] ta)(hs:starEach [a] X.env=[(false,eval a X.env)]:=by rfl)
  (N3:starEach [.Call (.Name "range" p2) [a] [] qV] X.env=[(false,eval (.Call (.Name "range" p2) [a] [] qV) X.env)]:=by rfl) :
  PI X tg (.Call (.Name "reversed" p) [.Call (.Name "range" p2) [a] [] qV] [] pos) (Xi ta):=by
 intro ai s σ H R I h;refine Call_ (fE I hg hm boot_reversed (zu (rest:=[]) ?_ N3 rfl));rw [N3];show wpAny _ _ (spliced ((false,eval (.Call (.Name "range" p2) [a] [] qV) X.env)::backTo pos (starEach [] X.env))) _ _ s;refine Calls.spliced_cons (Call_ (fE I hg2 hm2 boot_range (zu (aZ (ha qV ai s σ H _ I h) λus s1 ⟨vs,H1,I1,r1,q1⟩=>?_) hs rfl)));obtain ⟨n,e,hn,q⟩:=q1;subst e;cases r1 with
 | cons r rr=>
  cases rr;obtain ⟨t,rfl⟩:=r;refine call_range_1 (Calls.spliced_nil ?_);have I1':Inv X ai σ H1 { s1 with heap:=s1.heap.push { cls:=.type "range", data:=.fields #[.int 0 s1.toks,.int (n:Int) t,.int 1 (s1.toks + 1)] },toks:=s1.toks + 1 + 1 }:=I1.kept λb o e=>Heap.get?_push_of_some _ e;refine NR (n:=n) (IsRange.new ..) hn ?_;have I2:Inv X ai σ H1 { s1 with heap:=(s1.heap.push { cls:=.type "range", data:=.fields #[.int 0 s1.toks,.int (n:Int) t,.int 1 (s1.toks + 1)] }).push (nX n),toks:=s1.toks + 1 + 1 }:=I1'.kept λb o e=>Heap.get?_push_of_some _ e;have hit:IsRangeIter ((s1.heap.push { cls:=.type "range", data:=.fields #[.int 0 s1.toks,.int (n:Int) t,.int 1 (s1.toks + 1)] }).push (nX n)) (s1.heap.push { cls:=.type "range", data:=.fields #[.int 0 s1.toks,.int (n:Int) t,.int 1 (s1.toks + 1)] }).objs.size (((n:Int) - 1) + ((0:Nat):Int) * (-1)) ((n:Int) - ((0:Nat):Int)) (-1):=by
   have:=Heap.get?_push_size (s1.heap.push { cls:=.type "range", data:=.fields #[.int 0 s1.toks,.int (n:Int) t,.int 1 (s1.toks + 1)] }) (o:=nX n) rfl;rw [show ((n:Int) - 1) + ((0:Nat):Int) * (-1)=(n:Int) - 1 by omega,show (n:Int) - ((0:Nat):Int)=n by omega];exact this
  have T:=sJ (P:=X.prog) (w:=X.w) (K:=X.K) (tg:=tg) (s1.heap.push { cls:=.type "range", data:=.fields #[.int 0 s1.toks,.int (n:Int) t,.int 1 (s1.toks + 1)] }).objs.size ((n:Int) - 1) (-1) n;refine T.self X.A 0 _ _ _ hit ?_;refine ⟨_,[(s1.heap.push { cls:=.type "range", data:=.fields #[.int 0 s1.toks,.int (n:Int) t,.int 1 (s1.toks + 1)] }).objs.size],_,_,H1,rfl,I2,T,hit,λb hb=>?_,q⟩;have e:b=(s1.heap.push { cls:=.type "range", data:=.fields #[.int 0 s1.toks,.int (n:Int) t,.int 1 (s1.toks + 1)] }).objs.size:=by simpa using hb
  subst e;exact I1'.rJ (zE _) (I1'.aR.fresh (zE _))
end L2
namespace Sm
open PySem L2
theorem PJ (s k i:Nat):(j8 s k).testBit i=(s.testBit i && !decide (i=k)):=by
 unfold j8;by_cases h:s.testBit k=true
 ·rw [if_pos h];have p2:bS (2 ^ k) s:=λi hi=>by
   rw [zw] at hi;rw [<-of_decide_eq_true hi];exact h
  rw [(jX p2).2.2,zw];by_cases e:i=k
  ·subst e;simp
  ·simp [e,Ne.symm e]
 ·rw [if_neg h];by_cases e:i=k
  ·subst e;simp only [Bool.not_eq_true] at h;rw [h];rfl
  ·simp [e]
theorem Sy {ms:List M4}{ws:List (Addr×Nat×Int)}{j w i:Nat}{x:Addr×Nat×Int}(h:ws[i]?=some x):eZ ms (wq ws) j w i=(decide (x.2.1=w) && decide (j<=cnt ms x.2.2)):=by unfold eZ wq;rw [zF,h];rfl
theorem done_none {ms:List M4}{ws:Wq}{j w i:Nat}(h:ws.length<=i):eZ ms ws j w i=false:=by unfold eZ;rw [yR h]
theorem gE (ws:List (Addr×Nat×Int)):(wq ws).length=ws.length:=zA _
theorem vI {r:List Int}{x:Int}{i:Nat}(h:i < r.length):(r++[x]).getD i 0=r.getD i 0:=by rw [zS,zS,zl h]
theorem Va {r:List Int}{x:Int}:(r++[x]).getD r.length 0=x:=by rw [zS,zb (zE _),xE];rfl
theorem mW {ms:List M4}{ws:Wq}{j w s:Nat}{F:Option (Nat->Nat->Int)}{r:List Int}{x:Int}(lr:r.length=s)(hs:s < 2 ^ ws.length)
  (old:∀ s',s' < s->(aC ms ws j w s'=s'->ff ms j F w s' (r.getD s' 0))/\r.getD s' 0=r.getD (aC ms ws j w s') 0) (n1:aC ms ws j w s=s->ff ms j F w s x) (n2:aC ms ws j w s≠s->x=r.getD (aC ms ws j w s) 0) :
  ∀ s',s' < s + 1->(aC ms ws j w s'=s'->ff ms j F w s' ((r++[x]).getD s' 0))/\(r++[x]).getD s' 0=(r++[x]).getD (aC ms ws j w s') 0:=λs' h=>by
 by_cases e:s'=s
 ·subst e;have le:=(wg (ms:=ms) (ws:=ws) (j:=j) (w:=w) hs).le;have g:(r++[x]).getD s' 0=x:=by rw [<-lr];exact Va
  rw [g];refine ⟨n1,?_⟩;by_cases e1:aC ms ws j w s'=s'
  ·rw [e1,g]
  ·rw [vI (by omega)];exact n2 e1
 ·have VL:s' < s:=by omega
  have le:=(wg (ms:=ms) (ws:=ws) (j:=j) (w:=w) (Nat.lt_trans VL hs)).le;have:=old s' VL;rw [vI (by omega),vI (by omega)];exact this
structure QB (H0 H:Hp) (lp:Addr) (sz:Nat) (ms:List M4) (ws:Wq) (j:Nat) (F:Option (Nat->Nat->Int)) (B:List rT):Prop where
 row:∀ b∈B,H b.1=some (.lst (b.2.map V.int))/\b.2.length=sz/\H0 b.1=none/\b.1≠lp
 dp:∀ w b,B[w]?=some b->kO ms ws j F w λs=>b.2.getD s 0
theorem QB.same {H0 H H':Hp}{lp:Addr}{sz:Nat}{ms:List M4}{ws:Wq}{j:Nat}{F:Option (Nat->Nat->Int)}{B:List rT}(h:QB H0 H lp sz ms ws j F B)(s:ay H H'):QB H0 H' lp sz ms ws j F B:=
 ⟨λb hb=>⟨s _ _ (h.row b hb).1,(h.row b hb).2⟩,h.dp⟩
theorem QB.nil {H0 H:Hp}{lp:Addr}{sz:Nat}{ms:List M4}{ws:Wq}{j:Nat}{F:Option (Nat->Nat->Int)}:QB H0 H lp sz ms ws j F []:=⟨(λ_ z=>nomatch z),(λ_ _ z=>nomatch z)⟩
theorem nO {α:Type}{A:List α}{a:α}{k:Nat}{x:α}(h:(A++[a])[k]?=some x):(k < A.length/\A[k]?=some x)\/(k=A.length/\x=a):=by
 by_cases l:k < A.length
 ·rw [zl l] at h;exact .inl ⟨l,h⟩
 ·rw [zb (by omega)] at h;have:k - A.length=0:=by
   by_cases e:k - A.length=0
   ·exact e
   ·rw [yR (by simp only [yQ];omega)] at h;cases h
  rw [this] at h;simp at h;exact .inr ⟨by omega,h.symm⟩
theorem QB.snoc {H0 H:Hp}{lp:Addr}{sz:Nat}{ms:List M4}{ws:Wq}{j:Nat}{F:Option (Nat->Nat->Int)}{B:List rT}(h:QB H0 H lp sz ms ws j F B){l:Addr}{r:List Int}(h1:H l=some (.lst (r.map V.int)))(h2:r.length=sz)(h3:H0 l=none)(h4:l≠lp)(d:kO ms ws j F B.length λs=>r.getD s 0):QB H0 H lp sz ms ws j F (B++[(l,r)]):=by
 refine ⟨λb hb=>?_,λw b hb=>?_⟩
 ·rcases zT.mp hb with m | m
  ·exact h.row b m
  ·cases zJ.mp m;exact ⟨h1,h2,h3,h4⟩
 ·rcases nO hb with ⟨_,k⟩ | ⟨rfl,rfl⟩
  ·exact h.dp w b k
  ·exact d
structure iZ (H0 H:Hp) (lp:Addr) (W sz:Nat) (ms:List M4) (ws:Wq) (A:List dD) (i:Nat):Prop where
 top:H lp=some (.lst (A.map λa=>V.ref a.1))
 str:∀ a∈A,H a.1=some (.lst (a.2.map λb=>V.ref b.1))/\a.2.length=W/\H0 a.1=none/\a.1≠lp
 row:∀ a∈A,∀ b∈a.2,H b.1=some (.lst (b.2.map V.int))/\b.2.length=sz/\H0 b.1=none/\b.1≠lp
 len:A.length=i
 dp:∀ k,k < i->∀ w,w < W->kO ms ws (ms.length - k) (if k=0 then none else some (cP (aV A) (k - 1))) w (cP (aV A) k w)
theorem iZ.same {H0 H H':Hp}{lp:Addr}{W sz:Nat}{ms:List M4}{ws:Wq}{A:List dD}{i:Nat}(h:iZ H0 H lp W sz ms ws A i)(s:ay H H'):iZ H0 H' lp W sz ms ws A i:=
 ⟨s _ _ h.top,λa ha=>⟨s _ _ (h.str a ha).1,(h.str a ha).2⟩,λa ha b hb=>⟨s _ _ (h.row a ha b hb).1,(h.row a ha b hb).2⟩,h.len,h.dp⟩
theorem fQ {A:List dD}{k:Nat}{a:dD}(h:A[k]?=some a):cP (aV A) k=λw s=>((a.2.map (·.2)).getD w []).getD s 0:=by funext w s;unfold cP aV;rw [zS (l:=A.map _),zF,h];rfl
theorem kM {A:List dD}{a:dD}{k:Nat}(h:k < A.length):cP (aV (A++[a])) k=cP (aV A) k:=by obtain ⟨x,hx⟩:∃ x,A[k]?=some x:=⟨_,zG h⟩;rw [fQ hx,fQ (by rw [zl h];exact hx)]
theorem iZ.snoc {H0 H H':Hp}{lp:Addr}{W sz:Nat}{ms:List M4}{ws:Wq}{A:List dD}{i:Nat}(h:iZ H0 H lp W sz ms ws A i){la:Addr}{B:List rT}{F:Option (Nat->Nat->Int)}
  (bt:∀ c u,c≠lp->H c=some u->H' c=some u) (top:H' lp=some (.lst (A.map (λa=>V.ref a.1)++[V.ref la]))) (k:H' la=some (.lst (B.map λb=>V.ref b.1))) (f0:H0 la=none) (ne:la≠lp) (lB:B.length=W) (rB:QB H0 H' lp sz ms ws (ms.length - i) F B)
  (eF:F=if i=0 then none else some (cP (aV A) (i - 1))):iZ H0 H' lp W sz ms ws (A++[(la,B)]) (i + 1):=by
 have li:=h.len;refine ⟨by rw [top,zD];rfl,λa ha=>?_,λa ha b hb=>?_,by rw [zL,li];rfl,λk' hk' w hw=>?_⟩
 ·rcases zT.mp ha with m | m
  ·have:=h.str a m;exact ⟨bt _ _ this.2.2.2 this.1,this.2⟩
  ·cases zJ.mp m;exact ⟨k,lB,f0,ne⟩
 ·rcases zT.mp ha with m | m
  ·have:=h.row a m b hb;exact ⟨bt _ _ this.2.2.2 this.1,this.2⟩
  ·cases zJ.mp m;exact rB.row b hb
 ·by_cases e:k'=i
  ·subst e;obtain ⟨b,hb⟩:∃ b,B[w]?=some b:=⟨_,zG (by omega)⟩;have d:=rB.dp w b hb;have e1:cP (aV (A++[(la,B)])) k' w=λs=>b.2.getD s 0:=by
    rw [fQ (a:=(la,B)) (by rw [zb (by omega),li,xE];rfl)];funext s;simp only [zS,zF,hb,yi,Option.getD_some]
   rw [e1];rw [eF] at d;by_cases z:k'=0
   ·rw [if_pos z] at d ⊢;exact d
   ·rw [if_neg z] at d ⊢;rw [kM (by omega)];exact d
  ·have:=h.dp k' (by omega) w hw;rw [kM (k:=k') (by omega)];by_cases z:k'=0
   ·rw [if_pos z] at this ⊢;exact this
   ·rw [if_neg z] at this ⊢;rw [kM (by omega)];exact this
theorem iZ.fol {H0 H:Hp}{lp:Addr}{W sz:Nat}{ms:List M4}{ws:Wq}{A:List dD}{i:Nat}(h:iZ H0 H lp W sz ms ws A (i + 1)):∃ a,A[i]?=some a/\oM H (.ref a.1) W sz (some (cP (aV A) i)):=by obtain ⟨a,ha⟩:∃ a,A[i]?=some a:=⟨_,zG (by rw [h.len];omega)⟩;have m:=zC ha;refine ⟨a,ha,.inr ⟨a.1,a.2,rfl,(h.str a m).1,(h.str a m).2.1,λb hb=>⟨(h.row a m b hb).1,(h.row a m b hb).2.1⟩,?_⟩⟩;rw [fQ ha]
theorem oF {A:List dD}{n j:Nat}(l:A.length=n + 1)(h:j<=n):cP (aV A.reverse) j=cP (aV A) (n - j):=by obtain ⟨x,hx⟩:∃ x,A[n - j]?=some x:=⟨_,zG (by omega)⟩;rw [fQ hx,fQ (a:=x) (by rw [List.getElem?_reverse (by omega),l];rw [show n + 1 - 1 - j=n - j by omega];exact hx)]
theorem iZ.done {H0 H:Hp}{lp:Addr}{W:Nat}{ms:List M4}{ws:Wq}{A:List dD}(gd:Good W ms)(h:iZ H0 H lp W (2 ^ ws.length) ms ws A (ms.length + 1)):eL ms (cP (aV A.reverse)) W ws:=by
 refine ⟨λw hw=>?_,λj hj w hw=>?_⟩
 ·have:=h.dp 0 (by omega) w hw;rw [if_pos rfl,Nat.sub_zero] at this;rw [oF h.len (zE _),xE];exact this
 ·have:=h.dp (ms.length - j) (by omega) w hw;rw [if_neg (by omega),show ms.length - (ms.length - j)=j by omega,show ms.length - j - 1=ms.length - (j + 1) by omega] at this;rw [oF h.len (by omega),oF h.len (by omega)];exact this
theorem iZ.pr {H0 H H':Hp}{lp lq:Addr}{W:Nat}{ms:List M4}{ws:Wq}{A:List dD}(gd:Good W ms)(h:iZ H0 H lp W (2 ^ ws.length) ms ws A (ms.length + 1))(s:ay H H')(top:H' lq=some (.lst (A.reverse.map λa=>V.ref a.1))):lW H' lq ms.length W (2 ^ ws.length) A.reverse:=by have D:=h.done gd;refine ⟨top,λa ha=>s _ _ (h.str a (yU.mp ha)).1,λa ha b hb=>s _ _ (h.row a (yU.mp ha) b hb).1,by rw [yO,h.len],λa ha=>(h.str a (yU.mp ha)).2.1,λa ha b hb=>(h.row a (yU.mp ha) b hb).2.1,λa ha b hb x hx=>?_⟩;obtain ⟨j,hj⟩:=zv.mp ha;obtain ⟨w,hw⟩:=zv.mp hb;obtain ⟨k,hk⟩:=zv.mp hx;have lb:=(h.row a (yU.mp ha) b hb).2.1;have j1:=(zB.mp hj).1;have w1:=(zB.mp hw).1;have k1:=(zB.mp hk).1;rw [yO,h.len] at j1;rw [(h.str a (yU.mp ha)).2.1] at w1;have:=D.nonneg gd (ms.length - j) j (by omega) w w1 k (by omega);rw [MD hj hw,Vb hk] at this;exact this
theorem NT {xs:List V}{n:Nat}{x:V}(l:xs.length=n + 1)(h:xs[n]?=some x):dI xs (-1)=some x:=by
 have e:xs=xs.take n++[x]:=by rw [<-wK h,<- l,yA]
 rw [e];exact L2.oE _ _
theorem iZ.via {K:PySem.W.Frag}{H0 H:Hp}{lp:Addr}{W sz:Nat}{ms:List M4}{ws:Wq}{A:List dD}{i:Nat}{σ:St}(h:iZ H0 H lp W sz ms ws A i)(hs:σ[2]?=some (some (.ref lp))):∃ v F,oM H v W sz F/\F=(if i=0 then none else some (cP (aV A) (i - 1))) /\
  ∀ Q:VK,Q v H->if (!(A.map λa=>V.ref a.1).isEmpty)=true then Rg (vf K) (uO 2) (TF (rU λi=>V.int (-i)) (tC (V.int 1))) σ H Q else tC V.bV σ H Q:=by
 cases i with
 | zero=>
  have:A=[]:=List.length_eq_zero_iff.mp h.len;subst this;exact ⟨.bV,none,.inl ⟨rfl,rfl⟩,rfl,λQ q=>by rw [if_neg (λz=>nomatch z)];exact q⟩
 | succ i=>
  obtain ⟨a,ha,fo⟩:=h.fol;refine ⟨_,_,fo,by rw [if_neg (Nat.succ_ne_zero _)];rfl,λQ q=>?_⟩;have:(!(A.map λa=>V.ref a.1).isEmpty)=true:=by
   cases A with
   | nil=>cases ha
   | cons _ _=>rfl
  rw [if_pos this];exact ⟨_,hs,_,rfl,lp,_,_,_,rfl,rfl,aG.of h.top,NT (n:=i) (by rw [zA,h.len]) (by rw [zF,ha];rfl),q⟩
end Sm
namespace L2
open PySem PySem.Spec PyProof.Rows
theorem Q4 {c:TT}{tb:TS}{D:Ends}{σ:St}{H:Hp}{m0:Nat}(Pv:Nat->St->Hp->Prop)(h0:Pv m0 σ H)
  (hs:∀ m σ H,Pv m σ H->c σ H λb H1=>if b=true then tb (D.lp fun bU H'=>∃ m',m' < m/\Pv m' bU H') σ H1 else D.nx σ H1)
  (mono:∀ σ H Q Q',(∀ b H1,Q b H1->Q' b H1)->c σ H Q->c σ H Q'):mL c tb D σ H:=by
 refine ⟨Pv,⟨_,h0⟩,?_⟩;intro m σ H p;refine mono σ H _ _ (λb H1 q=>?_) (hs m σ H p);cases b with
 | true=>exact ⟨_,fun bU H' h=>h,q⟩
 | false=>exact q
theorem acN {i:Nat}{x:V}{σ:St}{H:Hp}{D:Ends}{c:TT}{tb u:TS}(h:mL c tb (D.go (u D)) (σ.set i (some x)) H):lu i x σ H (D.go (sM (mL c tb) u D)).nx:=h
end L2
namespace Sm
open PySem L2 aQ
theorem aM.oz {T:Addr}{lp:Pos}{q:Str}{H H':Hp}{b tr tm:Addr}{ah:List Int}{ps:List (Addr×M4)}(h:aM H b ah tr tm ps)(m:MT T lp q H)(bt:bN T H H'):aM H' b ah tr tm ps:=h.aT (MT.Oh m bt)
theorem cX {T:Addr}{lp:Pos}{q:Str}{H H':Hp}{a:Addr}{xs:List V}(m:MT T lp q H)(bt:bN T H H')(k:H a=some (.lst xs)):H' a=some (.lst xs):=bt _ _ (m.Pq k) k
theorem Oi {T:Addr}{lp:Pos}{q:Str}{H H':Hp}{a:Addr}{xs:List V}(m:MT T lp q H)(bt:bN T H H')(k:H a=some (.tup xs)):H' a=some (.tup xs):=bt _ _ (m.vn k) k
theorem eO.oz {T:Addr}{lp:Pos}{q:Str}{H H':Hp}{l:Addr}{n:Nat}{ws:List (Addr×Nat×Int)}(h:eO H l n ws)(m:MT T lp q H)(bt:bN T H H'):eO H' l n ws:=
 ⟨cX m bt h.1,λx hx=>⟨Oi m bt (h.2 x hx).1,(h.2 x hx).2⟩⟩
theorem lW.oz {T:Addr}{p0:Pos}{q:Str}{H H':Hp}{l:Addr}{nm w sz:Nat}{P:List dD}(h:lW H l nm w sz P)(m:MT T p0 q H)(bt:bN T H H'):lW H' l nm w sz P:=
 ⟨cX m bt h.top,λa ha=>cX m bt (h.str a ha),λa ha b hb=>cX m bt (h.row a ha b hb),h.len,h.wid,h.siz,h.pos⟩
theorem jH.oz {T:Addr}{p0:Pos}{q:Str}{H H':Hp}{b l lp:Addr}{ah:List Int}{tr tm:Addr}{ps:List (Addr×M4)}{ws:List (Addr×Nat×Int)}{P:List dD}(h:jH H b l lp ah tr tm ps ws P)(m:MT T p0 q H)(bt:bN T H H'):jH H' b l lp ah tr tm ps ws P:=
 ⟨h.bk.oz m bt,h.gd,h.r1,h.oO,h.wa.oz m bt,h.w1,h.w4,h.pr.oz m bt⟩
theorem jH.cb {H:Hp}{b l lp:Addr}{ah:List Int}{tr tm:Addr}{ps:List (Addr×M4)}{ws:List (Addr×Nat×Int)}{P:List dD}(h:jH H b l lp ah tr tm ps ws P):uC H b l ah tr tm ps ws:=⟨h.bk,h.gd,h.r1,h.oO,h.wa,h.w4⟩
theorem bN.SR {p l:Addr}{H H':Hp}{o:HO}(b:bN p H H')(h:H l=none):bN p H (upd H' l o):=λc u n e=>by rw [xl (xg e h)];exact b c u n e
theorem bN.jW {p:Addr}{H H1 H2:Hp}(b:bN p H H1)(s:ay H1 H2):bN p H H2:=λc u n e=>s c u (b c u n e)
theorem Vd {T:Addr}{p0:Pos}{q:Str}{H H':Hp}(m:MT T p0 q H')(b:bN T H H'){l:Addr}(h:H' l=none):H l=none:=by
 cases e:H l with
 | none=>rfl
 | some o=>
  have:l≠T:=by
   rintro rfl;rcases m with m | ⟨_,m,_⟩ <;> (rw [h] at m;cases m)
  rw [b _ _ this e] at h;cases h
theorem ay.uw {p:Addr}{H H1:Hp}(s:ay H H1):bN p H H1:=λc u _ e=>s c u e
def oJ (H:Hp)(ps:List (Addr×gq)):Prop:=∀ x∈ps,H x.1=some (.tup [.int (x.2.1:Int),.int (x.2.2.1:Int),.int (x.2.2.2:Int)])
def jE (H:Hp)(ps:List (Addr×Nat×Nat)):Prop:=∀ x∈ps,H x.1=some (.tup [.int (x.2.1:Int),.int (x.2.2:Int)])
section
variable {T:Addr} {iy:Pos} {H0 H H':Hp}{lg lq:Addr}{ms:List M4}{Vv:Nat->Nat->Nat->Int}{W:Nat}{ws:Wq}{v:Nat}{a:Int}{G:List (Addr×Nat×Nat)}{Qs:List (Addr×gq)}
theorem sY (h:oJ H Qs){l:Addr}{o:HO}{xs:List V}(k:H l=some (.lst xs)):oJ (upd H l o) Qs:=λx hx=>by
 rw [xl (wU (h x hx) k (by intro z;cases z))];exact h x hx
theorem t6 (h:jE H G){l:Addr}{o:HO}{xs:List V}(k:H l=some (.lst xs)):jE (upd H l o) G:=λx hx=>by
 rw [xl (wU (h x hx) k (by intro z;cases z))];exact h x hx
theorem jE.aT (h:jE H G)(t:bM H H'):jE H' G:=λx hx=>t _ _ (h x hx)
theorem oJ.aT (h:oJ H Qs)(t:bM H H'):oJ H' Qs:=λx hx=>t _ _ (h x hx)
structure gY (T:Addr) (iy:Pos) (H0 H:Hp) (lg lq:Addr) (G:List (Addr×Nat×Nat)) (Qs:List (Addr×gq)):Prop where
 bt:bN T H0 H
 mt:MT T iy j9 H
 fg:H0 lg=none
 fq:H0 lq=none
 ne:lg≠lq
 kg:H lg=some (.lst (G.map λx=>V.ref x.1))
 kq:H lq=some (.lst (Qs.map λx=>V.ref x.1))
 pg:jE H G
 pq:oJ H Qs
theorem gY.same (h:gY T iy H0 H lg lq G Qs)(s:ay H H'):gY T iy H0 H' lg lq G Qs:=
 ⟨h.bt.jW s,h.mt.dO s,h.fg,h.fq,h.ne,s _ _ h.kg,s _ _ h.kq,h.pg.aT (bM.same s),h.pq.aT (bM.same s)⟩
theorem gY.but (h:gY T iy H0 H lg lq G Qs)(b:bN T H H')(m:MT T iy j9 H'):gY T iy H0 H' lg lq G Qs:=
 ⟨h.bt.trans b,m,h.fg,h.fq,h.ne,cX h.mt b h.kg,cX h.mt b h.kq,h.pg.aT (MT.Oh h.mt b),h.pq.aT (MT.Oh h.mt b)⟩
theorem gY.Ws {Q':List (Addr×gq)}(h:gY T iy H0 H lg lq G Qs)(p:oJ H Q'):gY T iy H0 (upd H lq (.lst (Q'.map λx=>V.ref x.1))) lg lq G Q':=
 ⟨h.bt.SR h.fq,h.mt.put h.kq,h.fg,h.fq,h.ne,by rw [xl h.ne];exact h.kg,xa,t6 h.pg h.kq,sY p h.kq⟩
theorem gY.Vr (h:gY T iy H0 H lg lq G Qs){t:Addr}{x:gq}(k:H t=some (.tup [.int (x.1:Int),.int (x.2.1:Int),.int (x.2.2:Int)])):gY T iy H0 (upd H lq (.lst ((Qs.map λx=>V.ref x.1)++[V.ref t]))) lg lq G (Qs++[(t,x)]):=by
 have:=h.Ws (Q':=Qs++[(t,x)]) λy hy=>by
  rcases zT.mp hy with m | m
  ·exact h.pq y m
  ·cases zJ.mp m;exact k
 rw [zD] at this;exact this
theorem gY.acP (h:gY T iy H0 H lg lq G Qs){t:Addr}{x:Nat×Nat}(k:H t=some (.tup [.int (x.1:Int),.int (x.2:Int)])):gY T iy H0 (upd H lg (.lst ((G.map λx=>V.ref x.1)++[V.ref t]))) lg lq (G++[(t,x)]) Qs:=by
 refine ⟨h.bt.SR h.fg,h.mt.put h.kg,h.fg,h.fq,h.ne,by rw [xa,zD];rfl,by rw [xl (Ne.symm h.ne)];exact h.kq,?_,sY h.pq h.kg⟩;have:jE H (G++[(t,x)]):=λy hy=>by
  rcases zT.mp hy with m | m
  ·exact h.pg y m
  ·cases zJ.mp m;exact k
 exact t6 this h.kg
end
theorem U9 {ms:List M4}{Vv:Nat->Nat->Nat->Int}{W:Nat}{ws:Wq}(D:eL ms Vv W ws){j w s:Nat}(lt:j < ms.length)(hw:w < W)(hs:s < 2 ^ ws.length)(z:aC ms ws j w s≠0)(ne:Vv j w (aC ms ws j w s)≠Vv (j + 1) w (aC ms ws j w s)) :
  ∃ o t,bO ms j w o t/\∀ p,bS p (aC ms ws j w s)->(∀ p',bS p' (aC ms ws j w s)->Vv (j + 1) w p + Vv (j + 1) o (aC ms ws j w s - p)<=Vv (j + 1) w p' + Vv (j + 1) o (aC ms ws j w s - p'))->Vv j w (aC ms ws j w s)=1 + Vv (j + 1) w p + Vv (j + 1) o (aC ms ws j w s - p):=by
 obtain ⟨F,hF,hN,l⟩:=D.row (yl lt) hw hs;have e:=D.eq (yl lt) hw hs;rcases l with ⟨z',_⟩ | ⟨_,l⟩
 ·exact absurd z' z
 ·cases F with
  | none=>have:=hN rfl;omega
  | some F=>
   obtain ⟨_,rfl⟩:=hF _ rfl;rcases l with ⟨_,l⟩ | ⟨o,t,k,_,l,c⟩
   ·omega
   ·refine ⟨o,t,k,λp sp mn=>?_⟩;have l1:=l p sp;rcases c with c | ⟨p',sp',c⟩
    ·omega
    ·have:=mn p' sp';omega
theorem aba (n j:Nat)(h:j < n):3 ^ (n - j)=3 * 3 ^ (n - (j + 1)):=by rw [show n - j=n - (j + 1) + 1 by omega,Nat.pow_succ,Nat.mul_comm]
theorem vh {α β:Type}{f:α->β}{l l':List β}(p:l.Perm l'):∀ xs:List α,l'=xs.map f->∃ ys:List α,ys.Perm xs/\l=ys.map f:=by
 induction p with
 | nil=>intro xs e;cases xs with
  | nil=>exact ⟨[],.refl _,rfl⟩
  | cons _ _=>cases e
 | cons x p ih=>intro xs e;cases xs with
  | nil=>cases e
  | cons y xs=>
   rw [zZ] at e;cases e;obtain ⟨ys,h1,rfl⟩:=ih xs rfl;exact ⟨y::ys,h1.cons _,rfl⟩
 | swap x y l=>intro xs e;match xs,e with
  | u::v::xs,e=>rw [zZ,zZ] at e;cases e;exact ⟨v::u::xs,.swap _ _ _,rfl⟩
 | trans p q ih1 ih2=>
  intro xs e;obtain ⟨ys,h1,e1⟩:=ih2 xs e;obtain ⟨zs,h2,e2⟩:=ih1 ys e1;exact ⟨zs,h2.trans h1,e2⟩
theorem Tw {G:List (Addr×Nat×Nat)}{qs:List (Addr×List Int)}(p:qs.Perm (G.map λx=>(x.1,[(x.2.1:Int),(x.2.2:Int)])))(s:qs.Pairwise λa b=>lx b.2 a.2=false){T:List (Nat×Nat)}(pt:T.Perm (G.map (·.2)))(tp:T.Pairwise λx y=>x.1 < y.1) :
  ∃ Tl:List (Addr×Nat×Nat),Tl.Perm G/\qs=(Tl.map λx=>(x.1,[(x.2.1:Int),(x.2.2:Int)]))/\Tl.map (·.2)=T:=by
 obtain ⟨Tl,pm,rfl⟩:=vh p G rfl;refine ⟨Tl,pm,rfl,?_⟩;have s':(Tl.map (·.2)).Pairwise λx y:Nat×Nat=>lx [(y.1:Int),(y.2:Int)] [(x.1:Int),(x.2:Int)]=false:=by
  rw [List.pairwise_map] at s ⊢;exact s
 refine List.Perm.eq_of_pairwise (le:=λx y:Nat×Nat=>lx [(y.1:Int),(y.2:Int)] [(x.1:Int),(x.2:Int)]=false) (λa b _ _ x y=>?_) s' (tp.imp λ{x y} h=>?_) ((pm.map _).trans pt.symm)
 ·have:=vt y x;obtain ⟨a1,a2⟩:=a;obtain ⟨b1,b2⟩:=b;simp only [List.cons.injEq,and_true] at this;rw [Prod.mk.injEq];omega
 ·unfold lx;rw [if_neg (by omega)];exact decide_eq_false (by omega)
theorem lW.get {H:Hp}{l:Addr}{nm w sz:Nat}{P:List dD}(h:lW H l nm w sz P){j k:Nat}(hj:j<=nm)(hk:k < w):∃ a b,P[j]?=some a/\a.2[k]?=some b/\a∈P/\b∈a.2/\b.2.length=sz/\∀ s,b.2.getD s 0=cP (aV P) j k s:=by obtain ⟨a,ha⟩:∃ a,P[j]?=some a:=⟨_,zG (by rw [h.len];omega)⟩;have ma:=zC ha;obtain ⟨b,hb⟩:∃ b,a.2[k]?=some b:=⟨_,zG (by rw [h.wid a ma];exact hk)⟩;have mb:=zC hb;exact ⟨a,b,ha,hb,ma,mb,h.siz a ma b mb,λs=>(MD ha hb).symm⟩
def oG (Qs:List (Addr×gq)):Prop:=∀ (i:Nat) x,Qs[i]?=some x->i<=x.2.1 + 1
theorem oG.pop {Q0:List (Addr×gq)}{x:Addr×gq}(h:oG (Q0++[x])):oG Q0/\Q0.length<=x.2.1 + 1:=
 ⟨λi y hy=>h i y (by rw [zl (zB.mp hy).1];exact hy),h _ _ (by rw [zb (zE _),xE];rfl)⟩
theorem oG.push {Q0:List (Addr×gq)}{x:Addr×gq}(h:oG Q0)(l:Q0.length<=x.2.1 + 1):oG (Q0++[x]):=λi y hy=>by
 rcases nO hy with ⟨_,k⟩ | ⟨rfl,rfl⟩
 ·exact h i y k
 ·exact l
theorem bY.lC {ms:List M4}{Vv:Nat->Nat->Nat->Int}{W:Nat}{ws:Wq}{v:Nat}{a:Int}{G:List (Nat×Nat)}{ps:List gq}{j w s:Nat}(e:bY ms Vv W ws v a G (ps++[(j,w,s)]))(D:eL ms Vv W ws)(gd:Good W ms)(C:Vv (cnt ms a) v (2 ^ ws.length - 1)<=ms.length):G.length<=ms.length:=by have h1:=e.sum;have h2:=e.kT D gd;obtain ⟨l1,l2,l3,_⟩:=e.last;have h3:=D.nonneg gd (ms.length - j) j (by omega) w l2 s l3;omega
theorem aK {h:Fn}{ws:Wq}:aD h ws↔∀ x∈ws,bq (h x.1) x.2=true:=
 ⟨λs x hx=>by obtain ⟨i,hi⟩:=zv.mp hx;exact s i x hi,λs i x hx=>s x (zC hx)⟩
theorem eS.V5 {ms:List M4}{f h:Fn}{T:List (Nat×Nat)}:∀ {j:Nat},eS ms j f T h->eS ms 0 f T h
 | 0,t=>t
 | j + 1,t=>eS.V5 t.lower
theorem eS.keep {ms:List M4}{j:Nat}{f h:Fn}{T:List (Nat×Nat)}(tr:eS ms j f T h):∀ {w:Nat}{y:Int},f w=some y->h w=some y:=by
 induction tr with
 | nil=>exact id
 | @cons j m g o t x f h T hj l hx lt r ih=>
  intro w y e;refine ih ?_;split
  ·rename_i fo;unfold put;split
   ·rename_i ew;rw [ew,fo] at e;cases e
   ·exact e
  ·exact e
theorem aY.to {ms:List M4}{v j0 w:Nat}{G:List (Nat×Nat)}{i:Nat}(h:aY ms v j0 G i w):∀ d,aY ms v j0 G (i + d) w
 | 0=>h
 | d + 1=>.keep (h.to d)
theorem aY.upTo {ms:List M4}{v j0 w:Nat}{G:List (Nat×Nat)}{i m:Nat}(h:aY ms v j0 G i w)(le:i<=m):aY ms v j0 G m w:=by have:=h.to (m - i);rwa [show i + (m - i)=m by omega] at this
theorem eS.XT {W:Nat}{ms:List M4}(gd:Good W ms){v j0:Nat}{G:List (Nat×Nat)}{j:Nat}{f h:Fn}{T:List (Nat×Nat)}(tr:eS ms j f T h):(∀ x∈T,x∈G)->(∀ w y,f w=some y->∃ i,i<=j/\aY ms v j0 G i w/\∀ z,y<=z->i<=cnt ms z) ->
  ∀ w y,h w=some y->∃ i,aY ms v j0 G i w/\∀ z,y<=z->i<=cnt ms z:=by
 induction tr with
 | nil=>intro _ hI w y e;obtain ⟨i,_,h1,h2⟩:=hI w y e;exact ⟨i,h1,h2⟩
 | @cons j m g o t x f h T hj l hx lt r ih=>
  intro hT hI;refine ih (λy hy=>hT y (.tail _ hy)) λw y e=>?_;have old:f w=some y->∃ i,i<=m + 1/\aY ms v j0 G i w/\∀ z,y<=z->i<=cnt ms z:=λe=>by
   obtain ⟨i,h0,h1,h2⟩:=hI w y e;exact ⟨i,by omega,h1,h2⟩
  split at e
  ·unfold put at e;split at e
   ·rename_i ew;cases e;subst ew;obtain ⟨i,h0,h1,_⟩:=hI g x hx;refine ⟨m + 1,zE _,.give (h1.upTo (by omega)) (hT _ (.head _)) l,λz hz=>?_⟩;obtain ⟨m',hm,em,_⟩:=l;have:=(cO gd.cE hm (t:=z)).mpr (by omega);omega
   ·exact old e
  ·exact old e
def Vz (ms:List M4)(v:Nat)(a:Int)(G:List (Nat×Nat))(ws:Wq):Prop:=∀ x∈ws,(∃ i,i<=cnt ms x.2/\aY ms v (cnt ms a) G i x.1)/\(x.1=v->a<=x.2)
theorem eS.Yp {W:Nat}{ms:List M4}(gd:Good W ms){v:Nat}{a:Int}{T:List (Nat×Nat)}{h:Fn}{ws:Wq}(tr:eS ms 0 (av v a) T h)(sv:aD h ws):Vz ms v a T ws:=λx hx=>by
 obtain ⟨y,hy,le⟩:=aA.mp (aK.mp sv x hx);obtain ⟨i,h1,h2⟩:=(tr.since gd).XT gd (v:=v) (j0:=cnt ms a) (G:=T) (λ_ h=>h) (λw y e=>by
  unfold av at e;split at e
  ·rename_i ew;subst ew;cases e;exact ⟨_,zE _,.root,λz hz=>jw gd.cE hz⟩
  ·cases e) x.1 y hy
 refine ⟨⟨i,h2 _ le,h1⟩,λe=>?_⟩;have:=tr.keep (w:=v) (y:=a) (if_pos rfl);rw [e,this] at hy;cases hy;exact le
theorem qZ {W:Nat}{ms:List M4}(gd:Good W ms){v:Nat}{a:Int}{G:List (Nat×Nat)}{ws:Wq}(b:Vz ms v a G ws):∃ T h,eS ms 0 (av v a) T h/\aD h ws/\T.length<=G.length:=by
 have cl:=dY ms a;obtain ⟨T,h,tr,tG,_,tp,_,all⟩:=OZ gd (v:=v) (a:=a) (G:=G) (ms.length - cnt ms a) (cnt ms a) (av v a) (by omega) (zE _) (λw k=>by
  have:w=v:=by
   generalize e:cnt ms a=i at k;have k':=k;cases k with
   | root=>rfl
   | keep q=>have:=q.ge;omega
   | give q=>have:=q.ge;omega
  subst this;exact ⟨a,if_pos rfl,.inl ⟨rfl,rfl⟩⟩) (λw x hx=>by
   unfold av at hx;split at hx
   ·rename_i e;cases hx;exact .inl ⟨rfl,e⟩
   ·cases hx)
 refine ⟨T,h,tr.V5,aK.mpr λx hx=>?_,?_⟩
 ·obtain ⟨⟨j,hj,hh⟩,own⟩:=b x hx;obtain ⟨y,hy,ey⟩:=all j x.1 hh.ge (zi hj (dY _ _)) hh;rw [hy];refine aA.mpr ⟨y,rfl,?_⟩;rcases ey with ⟨rfl,e⟩ | ⟨m,o,lt,l⟩
  ·exact own e
  ·obtain ⟨m',hm,e,_⟩:=l;have:=(cO gd.cE hm (t:=x.2)).mp (by omega);omega
 ·have nd:T.Nodup:=tp.imp λl e=>by rw [e] at l;exact absurd l (z6 _)
  by_cases le:T.length<=G.length
  ·exact le
  ·have:=(vj nd tG (by omega)).length_eq;omega
def bC (ms:List M4)(v:Nat)(a:Int)(ws:Wq)(x:Int):Prop:=
 (¬ aD (fwd ms (av v a)) ws/\x=-1)\/(aD (fwd ms (av v a)) ws/\∃ T h,eS ms 0 (av v a) T h/\aD h ws/\x=(T.length:Int)/\∀ T' h',eS ms 0 (av v a) T' h'->aD h' ws->T.length<=T'.length)
theorem bC.ge {ms:List M4}{v:Nat}{a:Int}{ws:Wq}{x:Int}(m:bC ms v a ws x):-1<=x:=by rcases m with ⟨_,rfl⟩ | ⟨_,T,h,_,_,rfl,_⟩ <;> omega
theorem bC.same {ms:List M4}{v:Nat}{a:Int}{ws ws':Wq}{x y:Int}(m:bC ms v a ws x)(m':bC ms v a ws' y)(e:∀ z,z∈ws↔z∈ws'):x=y:=by
 have sv:∀ h,aD h ws↔aD h ws':=λh=>by
  rw [aK,aK];exact ⟨λs z hz=>s z ((e z).mpr hz),λs z hz=>s z ((e z).mp hz)⟩
 rcases m with ⟨n,rfl⟩ | ⟨s,T,h,tr,st,rfl,mn⟩ <;> rcases m' with ⟨n',rfl⟩ | ⟨s',T',h',oN,qu,rfl,mn'⟩
 ·rfl
 ·exact absurd ((sv _).mpr s') n
 ·exact absurd ((sv _).mp s) n'
 ·have h1:=mn T' h' oN ((sv _).mpr qu);have h2:=mn' T h tr ((sv _).mp st);omega
theorem bC.part {ms:List M4}{v:Nat}{a:Int}{A ws:Wq}{x z:Int}(m:bC ms v a A x)(m':bC ms v a ws z)(s:∀ y∈A,y∈ws):(z=-1\/x<=z)/\(x=-1->z=-1):=by
 have sv:∀ h,aD h ws->aD h A:=λh t=>aK.mpr λy hy=>aK.mp t y (s y hy);rcases m with ⟨n,rfl⟩ | ⟨t,T,h,tr,st,rfl,mn⟩ <;> rcases m' with ⟨n',rfl⟩ | ⟨t',T',h',oN,qu,rfl,mn'⟩
 ·exact ⟨.inl rfl,λ_=>rfl⟩
 ·exact absurd (sv _ t') n
 ·exact ⟨.inl rfl,λ_=>rfl⟩
 ·have:=mn T' h' oN (sv _ qu);exact ⟨.inr (by omega),λe=>by omega⟩
theorem bC.whole {W:Nat}{ms:List M4}(gd:Good W ms){v:Nat}{a:Int}{A B:Wq}{x y z:Int}(m1:bC ms v a A x)(m2:bC ms v a B y)(m:bC ms v a (A++B) z):(x≠-1->y≠-1->z≠-1/\z<=x + y):=λnx ny=>by
 rcases m1 with ⟨_,rfl⟩ | ⟨t1,T1,h1,tr1,s1,rfl,_⟩
 ·exact absurd rfl nx
 rcases m2 with ⟨_,rfl⟩ | ⟨t2,T2,h2,tr2,s2,rfl,_⟩
 ·exact absurd rfl ny
 have b:Vz ms v a (T1++T2) (A++B):=λw hw=>by
  rcases zT.mp hw with hw | hw
  ·obtain ⟨⟨i,i1,i2⟩,o⟩:=tr1.Yp gd s1 w hw;exact ⟨⟨i,i1,i2.mono λu hu=>zY _ hu⟩,o⟩
  ·obtain ⟨⟨i,i1,i2⟩,o⟩:=tr2.Yp gd s2 w hw;exact ⟨⟨i,i1,i2.mono λu hu=>zI _ hu⟩,o⟩
 rcases m with ⟨n,rfl⟩ | ⟨_,T,h,_,_,rfl,mn⟩
 ·refine absurd (aK.mpr λw hw=>?_) n;rcases zT.mp hw with hw | hw
  ·exact aK.mp t1 w hw
  ·exact aK.mp t2 w hw
 ·obtain ⟨T',h',oN,s',le⟩:=qZ gd b;have:=mn T' h' oN s';rw [zL] at le;exact ⟨by omega,by omega⟩
def rV (ws:List (Addr×Nat×Int)):Prop:=∀ x∈ws,0<=x.2.2/\x.2.2<=1000000000
theorem Nd {ms:List M4}{k:Nat}{a:Int}{ws:Wq}{i:Nat}(h:MG ms k a ws i):¬ aD (fwd ms (av k a)) ws:=λsv=>by
 obtain ⟨⟨x,hx,ex⟩,_⟩:=h;have:=sv i x hx;rw [ex] at this;cases this
theorem eO.bound {H:Hp}{l:Addr}{n:Nat}{ws:List (Addr×Nat×Int)}(wa:eO H l n ws):∀ x∈wq ws,x.1 < n:=λx hx=>by
 obtain ⟨y,hy,rfl⟩:=zO.mp hx;exact (wa.2 y hy).2
theorem ML {ms:List M4}{W:Nat}{ws:Wq}{k:Nat}{a:Int}{V:Nat->Nat->Nat->Int}{T:List (Nat×Nat)}{h:Fn}(gd:Good W ms)(hk:k < W)(Se:∀ x∈ws,x.1 < W)(dp:eL ms V W ws)(sv:aD (fwd ms (av k a)) ws)(tr:eS ms (cnt ms a) (av k a) T h)(st:aD h ws)(len:(T.length:Int)=V (cnt ms a) k (2 ^ ws.length - 1)):bC ms k a ws (T.length:Int):=
 .inr ⟨sv,T,h,tr.V5,st,rfl,λT' h' oN Rh=>by
  have:=vd (dp.Vf gd Se) gd rfl hk (oN.since gd) Rh;omega⟩
section
variable {T p:Addr} {iy:Pos} {H0 H H':Hp}{b lw tr tm:Addr}{ah:List Int}{ps:List (Addr×M4)}{ws:List (Addr×Nat×Int)}
end
theorem Tg (A B:List (Addr×Nat×Int)):wq (A++B)=wq A++wq B:=zD
theorem eO.Wk {H:Hp}{l l':Addr}{n:Nat}{ws vs:List (Addr×Nat×Int)}(wa:eO H l n ws)(s:∀ x∈vs,x∈ws)(k:H l'=some (.lst (vs.map λx=>V.ref x.1))):eO H l' n vs:=⟨k,λx hx=>wa.2 x (s x hx)⟩
theorem RK {W:Nat}{ms:List M4}(gd:Good W ms){v:Nat}{a:Int}{A B ws:Wq}(e:ws=A++B){x y z:Int}(m1:bC ms v a A x)(m2:bC ms v a B y)(m:bC ms v a ws z) :
  -1<=x/\-1<=y/\((x=-1\/y=-1)->z=-1)/\(x≠-1->y≠-1->z≠-1/\x<=z/\y<=z/\z<=x + y):=by
 subst e;have h1:=m1.part m λu hu=>zY _ hu;have h2:=m2.part m λu hu=>zI _ hu;have h3:=bC.whole gd m1 m2 m;have g1:=m1.ge;have g2:=m2.ge;refine ⟨g1,g2,λh=>h.elim h1.2 h2.2,λn1 n2=>?_⟩;obtain ⟨n3,le⟩:=h3 n1 n2;refine ⟨n3,?_,?_,le⟩
 ·exact h1.1.resolve_left n3
 ·exact h2.1.resolve_left n3
def SG (H0 H:Hp)(t:Addr)(n:Nat)(ms:List M4)(k:Nat)(a:Int)(K:Nat)(ws:Wq):Prop:=
 (∃ i lt,H t=some (.tup [.str (Str.ofString "never"),.int ((i:Nat):Int),.ref lt])/\MG ms k a ws i/\H lt=some (.lst ((rep n (fwd ms (av k a))).map oV))/\H0 lt=none) \/
 ∃ lt lp Tl h P,H t=some (.tup [.str (Str.ofString "tree"),.ref lt,.ref lp])/\aD (fwd ms (av k a)) ws/\Qx H lt ms k a ws Tl h/\lW H lp ms.length n (2 ^ K) P/\eL ms (cP (aV P)) n ws/\(Tl.length:Int)=cP (aV P) (cnt ms a) k (2 ^ K - 1) /\
  (H0 lt=none/\H0 lp=none/\∀ a∈P,H0 a.1=none/\∀ b∈a.2,H0 b.1=none)/\lp≠lt/\∀ a∈P,a.1≠lt/\∀ b∈a.2,b.1≠lt
def sU (T:Addr)(iy:Pos):Sp:=λvs H Q _=>∃ b,∃ k:Nat,∃ a l ah tr tm ps ws,vs=[.ref b,.int (k:Int),.int a,.ref l]/\uC H b l ah tr tm ps ws/\ah.length<=8/\ps.length<=24/\1<=ws.length/\k < ah.length/\0<=a/\a<=1000000000/\(∀ x∈ws,0<=x.2.2/\x.2.2<=1000000000)/\MT T iy j9 H /\
 ∀ t H',bN T H H'->MT T iy j9 H'->SG H H' t ah.length (ps.map (·.2)) k a ws.length (wq ws)->Q (.ref t) H'
section
variable {T p:Addr} {iy:Pos} {H0 H H':Hp}{b lw lh tr tm:Addr}{ah:List Int}{ps:List (Addr×M4)}{ws:List (Addr×Nat×Int)}
end
structure rW (T:Addr) (iy:Pos) (H:Hp) (b:Addr) (ah:List Int) (tr tm:Addr) (ps:List (Addr×M4)) (k:Nat) (a:Int) (l:Addr) (ws:List (Addr×Nat×Int)):Prop where
 bk:aM H b ah tr tm ps
 gd:Good ah.length (ps.map (·.2))
 r1:1<=ah.length
 oO:ah.length<=12
 hk:k < ah.length
 a0:0<=a
 a9:a<=1000000000
 wa:eO H l ah.length ws
 lo:rV ws
 w1:1<=ws.length
 w4:ws.length<=4
 mt:MT T iy j9 H
theorem rW.but {T:Addr}{iy:Pos}{H H':Hp}{b:Addr}{ah:List Int}{tr tm:Addr}{ps:List (Addr×M4)}{k:Nat}{a:Int}{l:Addr}{ws:List (Addr×Nat×Int)}(h:rW T iy H b ah tr tm ps k a l ws)(bt:bN T H H')(m:MT T iy j9 H'):rW T iy H' b ah tr tm ps k a l ws:=
 ⟨h.bk.oz h.mt bt,h.gd,h.r1,h.oO,h.hk,h.a0,h.a9,h.wa.oz h.mt bt,h.lo,h.w1,h.w4,m⟩
theorem rW.same {T:Addr}{iy:Pos}{H H':Hp}{b:Addr}{ah:List Int}{tr tm:Addr}{ps:List (Addr×M4)}{k:Nat}{a:Int}{l:Addr}{ws:List (Addr×Nat×Int)}(h:rW T iy H b ah tr tm ps k a l ws)(s:ay H H'):rW T iy H' b ah tr tm ps k a l ws:=h.but (ay.uw s) (h.mt.dO s)
theorem PF {W:Nat}{ms:List M4}{m g o:Nat}{t:Int}(l:bO ms m g o t):(⟨g,o,t⟩:W3)∈aB ms:=by obtain ⟨r,hr,e,c⟩:=l;unfold aB;refine yz.mpr ⟨r,zC hr,?_⟩;unfold two;rcases c with ⟨a,b⟩ | ⟨a,b⟩ <;> subst a b e <;> simp
theorem Oj {ms:List M4}{j:Nat}{f h:Fn}{T:List (Nat×Nat)}(tr:eS ms j f T h){row:Fn}:∀ {i:Nat},(∀ v y,f v=some y->bq (bf (aB ms) row i v) y=true)->∀ v y,h v=some y->bq (bf (aB ms) row (i + T.length) v) y=true:=by
 induction tr with
 | nil=>intro i hf;exact hf
 | @cons j m g o t x f h T hj l hx lt r ih=>
  intro i hf v y e;have dN:∀ u z,f u=some z->bq (bf (aB ms) row (i + 1) u) z=true:=λu z q=>by
   obtain ⟨p,hp,lp⟩:=aA.mp (hf u z q);have:=kj (aB ms) (bf (aB ms) row i) u p hp;obtain ⟨p',VN,lp'⟩:=aA.mp this;exact aA.mpr ⟨p',VN,by omega⟩
  have:=ih (i:=i + 1) (λu z q=>by
   split at q
   ·unfold put at q;split at q
    ·rename_i e1;cases q;subst e1;obtain ⟨p,hp,lp⟩:=aA.mp (hf g x hx);exact Mf (x:=⟨g,u,t⟩) (PF (W:=0) l) (aL.mpr ⟨p,hp,by show p < t;omega⟩)
    ·exact dN u z q
   ·exact dN u z q) v y e
  rw [zR,show i + (T.length + 1)=i + 1 + T.length by omega];exact this
theorem pH {ms:List M4}{k w:Nat}{a z:Int}{T:List (Nat×Nat)}{h:Fn}(tr:eS ms 0 (av k a) T h)(sv:aD h [(w,z)]):bq (bf (aB ms) (av k a) T.length w) z=true:=by obtain ⟨y,hy,le⟩:=aA.mp (aK.mp sv (w,z) (.head _));have:=Oj tr (row:=av k a) (i:=0) (λv y e=>aA.mpr ⟨y,e,ze _⟩) w y hy;rw [Nat.zero_add] at this;obtain ⟨p,hp,lp⟩:=aA.mp this;exact aA.mpr ⟨p,hp,by dsimp only at le;omega⟩
theorem vY {W:Nat}{ms:List M4}(gd:Good W ms){k w:Nat}{a z:Int}(n:∀ i,bq (bf (aB ms) (av k a) i w) z=false):¬ aD (fwd ms (av k a)) [(w,z)]:=λsv=>by
 obtain ⟨T,tr,_⟩:=Mp gd ms.length 0 (av k a) (by omega);rw [List.drop_zero] at tr;have:=pH tr sv;rw [n] at this;cases this
theorem sA {W:Nat}{ms:List M4}(gd:Good W ms){k j0:Nat}:∀ (ns:List Int) (v:Nat) (t A:Int) (w:Nat) (e:Int),cG ms v t A ns=some (w,e)->∃ Gs:List (Nat×Nat),Gs.length=ns.length/\∀ G i,(∀ x∈Gs,x∈G)->aY ms k j0 G i v->(∀ z,t<=z->i<=cnt ms z)->(∀ (n:Nat) (m:M4),ms[n]?=some m->A < n->t < m.t->i<=n)->∃ i',aY ms k j0 G i' w/\∀ z,e<=z->i'<=cnt ms z
 | [],v,t,A,w,e,h=>by
  have:=Option.some.inj h;obtain ⟨rfl,rfl⟩:=Prod.mk.inj this;exact ⟨[],rfl,λG i _ h1 h2 _=>⟨i,h1,h2⟩⟩
 | n::ns,v,t,A,w,e,h=>by
  unfold cG at h;split at h
  ·cases h
  ·rename_i m hm;split at h
   ·rename_i c;obtain ⟨c1,c2,c3,c4⟩:=c;obtain ⟨Gs,lG,ih⟩:=sA gd (k:=k) (j0:=j0) ns _ _ _ w e h;refine ⟨(n.toNat,v)::Gs,by rw [zR,lG];rfl,λG i sG h1 h2 h3=>?_⟩;have fx:=gd.each m (zC hm);have en:(n.toNat:Int)=n:=yt c2;have le:=h3 n.toNat m hm (by omega) c4;have lk:bO ms n.toNat v (if v=m.lo.toNat then m.hi.toNat else m.lo.toNat) m.t:=by
     refine ⟨m,hm,rfl,?_⟩;by_cases q:v=m.lo.toNat
     ·rw [if_pos q];exact .inl ⟨q.symm,rfl⟩
     ·rw [if_neg q];exact .inr ⟨rfl,(c3.resolve_left q).symm⟩
    refine ih G (n.toNat + 1) (λx hx=>sG x (.tail _ hx)) (.give (h1.upTo le) (sG _ (.head _)) lk) (λz hz=>?_) (λn' m' _ h' _=>by omega);have:=(cO gd.cE hm (t:=z)).mpr hz;omega
   ·cases h
theorem MI {W:Nat}{ms:List M4}(gd:Good W ms){k w:Nat}{a e z:Int}{cs:List Int}(h:cG ms k a (-1) cs=some (w,e))(le:e<=z):∃ T h,eS ms 0 (av k a) T h/\aD h [(w,z)]/\T.length<=cs.length:=by
 obtain ⟨Gs,lG,ih⟩:=sA gd (k:=k) (j0:=cnt ms a) cs k a (-1) w e h;obtain ⟨i,h1,h2⟩:=ih Gs (cnt ms a) (λ_ h=>h) .root (λz hz=>jw gd.cE hz) (λn m hm _ lt=>by
  have:=cO gd.cE hm (t:=a);omega)
 obtain ⟨T,hh,tr,sv,l⟩:=qZ gd (G:=Gs) (v:=k) (a:=a) (ws:=[(w,z)]) λx hx=>by
  cases zJ.mp hx;refine ⟨⟨i,h2 z le,h1⟩,λew=>?_⟩;dsimp only at ew;have:=jO gd (jt gd) cs k a (-1) (by rw [gU];exact aA.mpr ⟨a,rfl,ze _⟩) w e h;rw [ew,gU] at this;obtain ⟨y,hy,ly⟩:=aA.mp this;cases hy;show a<=z;omega
 exact ⟨T,hh,tr,sv,by omega⟩
theorem uz {W:Nat}{ms:List M4}(gd:Good W ms){k w:Nat}{a e z:Int}{cs:List Int}(h:cG ms k a (-1) cs=some (w,e))(le:e<=z):aD (fwd ms (av k a)) [(w,z)]:=aK.mpr λx hx=>by
 cases zJ.mp hx;have:=jO gd (jt gd) cs k a (-1) (by rw [gU];exact aA.mpr ⟨a,rfl,ze _⟩) w e h;obtain ⟨y,hy,ly⟩:=aA.mp this;exact aA.mpr ⟨y,hy,by dsimp only;omega⟩
inductive jA (ms:List M4):Nat->Fn->List (Nat×Nat)->Fn->Prop
 | nil (j:Nat) (f:Fn):jA ms j f [] f
 | cons {j m g o:Nat}{t x:Int}{f h:Fn}{T:List (Nat×Nat)} (hj:j<=m) (l:bO ms m g o t) (hx:f g=some x) (lt:x < t) (no:f o=none) (r:jA ms (m + 1) (put f o (some t)) T h):jA ms j f ((m,g)::T) h
theorem jA.low {ms:List M4}{i j:Nat}{f h:Fn}{T:List (Nat×Nat)}(tr:jA ms j f T h)(le:i<=j):jA ms i f T h:=by
 cases tr with
 | nil=>exact .nil _ _
 | cons hj l hx lt no r=>exact .cons (by omega) l hx lt no r
theorem jA.tre {ms:List M4}{j:Nat}{f h:Fn}{T:List (Nat×Nat)}(tr:jA ms j f T h):eS ms j f T h:=by
 induction tr with
 | nil=>exact .nil _ _
 | cons hj l hx lt no r ih=>exact .cons hj l hx lt (by rw [if_pos no];exact ih)
theorem eS.Tn {ms:List M4}{j:Nat}{f h:Fn}{T:List (Nat×Nat)}(tr:eS ms j f T h):∃ T',jA ms j f T' h/\T'.length<=T.length/\(T'.length=T.length->T'=T):=by
 induction tr with
 | nil=>exact ⟨[],.nil _ _,zE _,λ_=>rfl⟩
 | @cons j m g o t x f h T hj l hx lt r ih=>
  obtain ⟨T',u,le,eq⟩:=ih;by_cases no:f o=none
  ·rw [if_pos no] at u;exact ⟨(m,g)::T',.cons hj l hx lt no u,yw le,λe=>by rw [eq (Nat.succ.inj e)]⟩
  ·rw [if_neg no] at u;exact ⟨T',u.low (by omega),Nat.le_succ_of_le le,λe=>by rw [zR] at e;omega⟩
theorem rq {ms:List M4}{v:Nat}{a:Int}{ws:Wq}{T:List (Nat×Nat)}{h:Fn}(tr:eS ms 0 (av v a) T h)(sv:aD h ws)(mn:∀ T' h',eS ms 0 (av v a) T' h'->aD h' ws->T.length<=T'.length):jA ms 0 (av v a) T h:=by obtain ⟨T',u,le,eq⟩:=tr.Tn;have:=mn T' h u.tre sv;rw [<-eq (by omega)];exact u
inductive lX (ms:List M4):Nat->Nat->Int->List (Nat×Nat)->Nat->Int->Prop
 | nil (j s:Nat) (x:Int):lX ms j s x [] s x
 | cons {j m s o w:Nat}{x t y:Int}{P:List (Nat×Nat)} (hj:j<=m) (l:bO ms m s o t) (lt:x < t) (r:lX ms (m + 1) o t P w y):lX ms j s x ((m,s)::P) w y
theorem lX.low {ms:List M4}{i j s w:Nat}{x y:Int}{P:List (Nat×Nat)}(c:lX ms j s x P w y)(le:i<=j):lX ms i s x P w y:=by
 cases c with
 | nil=>exact .nil _ _ _
 | cons hj l lt r=>exact .cons (by omega) l lt r
theorem eS.path {ms:List M4}{j:Nat}{f h:Fn}{T:List (Nat×Nat)}(tr:eS ms j f T h):∀ {w:Nat}{y:Int},h w=some y->∃ P s x,P.Sublist T/\f s=some x/\lX ms j s x P w y:=by
 induction tr with
 | nil j f=>intro w y e;exact ⟨[],w,y,.slnil,e,.nil _ _ _⟩
 | @cons j m g o t x f h T hj l hx lt r ih=>
  intro w y e;obtain ⟨P,s,x',sub,fs,c⟩:=ih e;have old:f s=some x'->∃ P s x,P.Sublist ((m,g)::T)/\f s=some x/\lX ms j s x P w y:=λq=>⟨P,s,x',sub.cons _,q,c.low (by omega)⟩;split at fs
  ·unfold put at fs;split at fs
   ·rename_i es;cases fs;subst es;exact ⟨(m,g)::P,g,x,sub.cons₂ _,hx,.cons hj l lt c⟩
   ·exact old fs
  ·exact old fs
theorem lX.has {W:Nat}{ms:List M4}(gd:Good W ms){k j0 j s w:Nat}{x y:Int}{P:List (Nat×Nat)}(c:lX ms j s x P w y):∀ {G:List (Nat×Nat)}{i:Nat},(∀ u∈P,u∈G)->aY ms k j0 G i s->(∀ z,x<=z->i<=cnt ms z)->(∀ (n:Nat) (m:M4),ms[n]?=some m->j<=n->x < m.t->i<=n)->∃ i',aY ms k j0 G i' w/\∀ z,y<=z->i'<=cnt ms z:=by
 induction c with
 | nil=>intro G i _ h1 h2 _;exact ⟨i,h1,h2⟩
 | @cons j m s o w x t y P hj l lt r ih=>
  intro G i sG h1 h2 h3;obtain ⟨m',hm,em,_⟩:=id l;refine ih (λu hu=>sG u (.tail _ hu)) (.give (h1.upTo (h3 m m' hm hj (by omega))) (sG _ (.head _)) l) (λz hz=>?_) (λn _ _ h _=>h);have:=(cO gd.cE hm (t:=z)).mpr (by omega);omega
theorem tS {W:Nat}{ms:List M4}(gd:Good W ms){v w:Nat}{a z:Int}{T:List (Nat×Nat)}{h:Fn}(tr:eS ms 0 (av v a) T h)(sv:aD h [(w,z)])(mn:∀ T' h',eS ms 0 (av v a) T' h'->aD h' [(w,z)]->T.length<=T'.length):∃ y,y<=z/\h w=some y/\lX ms 0 v a T w y:=by
 obtain ⟨y,hy,le⟩:=aA.mp (aK.mp sv (w,z) (.head _));obtain ⟨P,s,x,sub,fs,c⟩:=tr.path hy;unfold av at fs;split at fs
 ·rename_i es;subst es;cases fs;obtain ⟨i,h1,h2⟩:=c.has gd (k:=s) (j0:=cnt ms a) (G:=P) (i:=cnt ms a) (λ_ h=>h) .root (λz hz=>jw gd.cE hz) (λn m hm _ lt=>by
   have:=cO gd.cE hm (t:=a);omega)
  have own:(w=s->a<=z):=λe=>by
   have:=tr.keep (w:=s) (y:=a) (if_pos rfl);rw [e] at hy;rw [this] at hy;cases hy;exact le
  obtain ⟨T',h',oN,Rh,l'⟩:=qZ gd (G:=P) (v:=s) (a:=a) (ws:=[(w,z)]) λu hu=>by
   cases zJ.mp hu;exact ⟨⟨i,h2 z le,h1⟩,own⟩
  have:=mn T' h' oN Rh;have lP:=sub.length_le;have eP:=sub.eq_of_length (by omega);rw [eP] at c;exact ⟨y,le,hy,c⟩
 ·cases fs
def MP:Sp:=λvs H Q _=>∃ l1 l2,∃ ns as:List Int,vs=[.ref l1,.ref l2]/\H l1=some (.lst (ns.map V.int))/\H l2=some (.lst (as.map V.int))/\ns.length=as.length/\1<=ns.length/\ns.length<=100/\ns.getD 0 0=as.getD 0 0 /\
 (∀ k,k + 1 < ns.length->ns.getD k 0<=ns.getD (k + 1) 0/\ns.getD (k + 1) 0<=ns.getD k 0 + as.getD (k + 1) 0)/\Q (.bl true) H
def bg (M:M4):M4:=⟨M.lo,M.hi,M.t,99⟩
def jU (ms:List M4)(gv:Bool)(kv:List (Int×Int))(u:Nat×Nat):List (Int×Int):=match ms[u.1]? with
 | some M=>if gv=true then dS (br kv (aN M (u.2:Int)) M.t) (u.2:Int) else br kv (aN M (u.2:Int)) M.t
 | none=>kv
def fL (ms:List M4)(gv:Bool)(kv:List (Int×Int))(T:List (Nat×Nat)):List (Int×Int):=T.foldl (jU ms gv) kv
inductive LH (ms:List M4) (gv:Bool):Nat->List (Int×Int)->List (Nat×Nat)->Prop
 | nil (r:Nat) (kv:List (Int×Int)):LH ms gv r kv []
 | cons {r m g:Nat}{kv:List (Int×Int)}{M:M4}{T:List (Nat×Nat)} (hr:r<=m) (hM:ms[m]?=some M) (hg:(g:Int)=M.lo\/(g:Int)=M.hi) (hb:below (aX kv (g:Int)) M.t=true) (no:aX kv (aN M (g:Int))=none) (hn:LH ms gv m (jU ms gv kv (m,g)) T):LH ms gv r kv ((m,g)::T)
structure SE (t:Tr) (L:L4) (kv:List (Int×Int)) (r:Nat) (nb:Nat) (ds:List V):Prop where
 ls:t.ls.map (·.2)=[L]
 hs:t.hs.map (·.2)=[kv]
 ns:∀ k,t.ns.getD k 0<=(nb:Int)
 r:t.r=(r:Int)
 ds:t.ds=ds
theorem qX {α β:Type}{xs:List (α×β)}{y:β}(h:xs.map (·.2)=[y]):∃ x,xs=[(x,y)]:=by
 match xs,h with
 | [(a,b)],h=>cases h;exact ⟨a,rfl⟩
theorem Oc {M:M4}{g:Int}:aN (bg M) g=aN M g:=rfl
theorem TM {t:Tr}{L:L4}{kv:List (Int×Int)}{r nb m g W:Nat}{ds:List V}{ms:List M4}{gv:Bool}{M:M4}{y:V}(v:SE t L kv r nb ds)(lC:nb < 99)(hr:r<=m)(hM:ms[m]?=some M)(hg:(g:Int)=M.lo\/(g:Int)=M.hi)(hb:below (aX kv (g:Int)) M.t=true)(no:aX kv (aN M (g:Int))=none)(hw:∀ M∈ms,0<=M.lo/\M.lo < W/\0<=M.hi/\M.hi < W) :
  Yl (List.replicate W (99:Int)) (ms.map bg) t (.pass gv (m:Int) 0 (g:Int))=8/\SE (t.nW (ms.map bg) y (.pass gv (m:Int) 0 (g:Int))) L (jU ms gv kv (m,g)) m (nb + 1) (ds++[y]):=by
 obtain ⟨la,Zs⟩:=qX v.ls;obtain ⟨ha,Vi⟩:=qX v.hs;have hm:m < ms.length:=(zB.mp hM).1;have hM':(ms.map bg)[m]?=some (bg M):=by rw [zF,hM];rfl
 have Xz:=hw M (zC hM);have bl:=kK (aN M (g:Int)) t.ls t.hs t.hs.length;have vG:t.hs.length=1:=by rw [Vi];rfl
 have ll1:t.ls.length=1:=by rw [Zs];rfl
 have o0:0<=aN M (g:Int)/\aN M (g:Int) < W:=by unfold aN;split <;> omega
 have room:(List.replicate W (99:Int))[(aN M (g:Int)).toNat]?.getD 0=99:=by
  rw [List.getElem?_replicate,if_pos (by omega)];rfl
 have QL:=v.ns m;refine ⟨?_,?_⟩
 ·show oh _ _ t _ _ _=8;unfold oh;rw [if_pos ⟨by omega,by rw [zA];omega,by rw [v.r];omega⟩,if_pos ⟨by omega,by rw [ll1];decide⟩];rw [zf,hM',Zs,Vi];show kF _ (bg M) L kv _ _ _=8;unfold kF;rw [Oc,if_pos (show (g:Int)=(bg M).lo\/(g:Int)=(bg M).hi from hg),if_pos (show below (aX kv (g:Int)) (bg M).t=true from hb),no,if_neg (by simp),if_neg (show ¬ (bg M).m<=_ by
   show ¬ (99:Int)<=_;rw [<-zS];omega),room,if_neg (by
   rw [zc,decide_eq_true_iff];rintro ⟨_,h⟩;rw [Zs,Vi] at bl;have:([(ha,kv)]:List (Addr×List (Int×Int))).length=1:=rfl;omega)]
 ·have e:t.nW (ms.map bg) y (.pass gv (m:Int) 0 (g:Int))={ t.lE gv m 0 (g:Int) (bg M) L with ds:=t.ds++[y] }:=by
   unfold Tr.nW;dsimp only;rw [zf,hM',Zs];rfl
  rw [e];have k0:t.kv 0=kv:=by unfold Tr.kv;rw [Vi];rfl
  have s0:∀ kv',(t.iw 0 kv').hs=[(ha,kv')]:=λkv'=>by unfold Tr.iw;rw [Vi];rfl
  have WN:∀ k,(t.ns.set m (t.ns[m]?.getD 0 + 1)).getD k 0<=((nb + 1:Nat):Int):=λk=>by
   have h1:=v.ns k;have h2:=v.ns m;rw [zS] at h1 h2 ⊢;rw [List.getElem?_set];split
   ·split
    ·show t.ns[m]?.getD 0 + 1<=_;omega
    ·show (0:Int)<=_;omega
   ·omega
  have st:jU ms gv kv (m,g)=if gv=true then dS (br kv (aN M (g:Int)) M.t) (g:Int) else br kv (aN M (g:Int)) M.t:=by unfold jU;rw [hM]
  have hp:(t.bZ m 0 (bg M) L (aN (bg M) (g:Int))).hs=[(ha,br kv (aN M (g:Int)) M.t)]:=by
   unfold Tr.bZ;dsimp only;rw [k0,s0];rfl
  unfold Tr.lE;cases gv with
  | false=>
   rw [if_neg (by simp)];exact ⟨v.ls,by show List.map _ (t.bZ m 0 (bg M) L (aN (bg M) (g:Int))).hs=_;rw [hp,st];rfl,WN,rfl,by show t.ds++[y]=_;rw [v.ds]⟩
  | true=>
   rw [if_pos rfl];refine ⟨v.ls,?_,WN,rfl,by show t.ds++[y]=_;rw [v.ds]⟩;show List.map _ ((t.bZ m 0 (bg M) L (aN (bg M) (g:Int))).iw 0 _).hs=_;unfold Tr.iw Tr.kv;dsimp only;rw [hp,st];rfl
theorem Me {ms:List M4}{m g o W:Nat}{t:Int}(l:bO ms m g o t)(hw:∀ M∈ms,0<=M.lo/\M.lo < M.hi/\M.hi < W):∃ M,ms[m]?=some M/\M.t=t/\((g:Int)=M.lo\/(g:Int)=M.hi)/\aN M (g:Int)=(o:Int)/\g≠o:=by obtain ⟨M,hM,et,h⟩:=l;have:=hw M (zC hM);refine ⟨M,hM,et,by omega,?_,by omega⟩;unfold aN;split <;> omega
theorem kc {kv:List (Int×Int)}{o t:Int}(h:aX kv o=none):br kv o t=kv++[(o,t)]:=by unfold br;rw [UB,h,if_neg (by simp)]
theorem RU {ms:List M4}{W:Nat}(hw:∀ M∈ms,0<=M.lo/\M.lo < M.hi/\M.hi < W){j:Nat}{f h:Fn}{T:List (Nat×Nat)}(tr:jA ms j f T h):∀ {r:Nat}{kv:List (Int×Int)},r<=j->(∀ w:Nat,aX kv (w:Int)=f w) ->
  LH ms false r kv T/\(∀ w:Nat,aX (fL ms false kv T) (w:Int)=h w)/\(fL ms false kv T).length=kv.length + T.length:=by
 induction tr with
 | nil j f=>intro r kv _ hf;exact ⟨.nil _ _,hf,rfl⟩
 | @cons j m g o t x f h T hj l hx lt no oN ih=>
  intro r kv hr hf;obtain ⟨M,hM,et,hg,ho,ne⟩:=Me l hw;have e:jU ms false kv (m,g)=kv++[((o:Int),t)]:=by
   unfold jU;rw [hM];show br kv (aN M (g:Int)) M.t=_;rw [ho,et,kc (by rw [hf,no])]
  have XQ:∀ w:Nat,aX (kv++[((o:Int),t)]) (w:Int)=put f o (some t) w:=λw=>by
   rw [<-kc (by rw [hf,no]),pZ,hf];unfold put;by_cases c:w=o
   ·subst c;simp
   ·rw [if_neg (by omega),if_neg c]
  obtain ⟨i1,i2,i3⟩:=ih (r:=m) (zx m) XQ;refine ⟨.cons (by omega) hM hg (by rw [hf,hx,et];exact decide_eq_true lt) (by rw [ho,hf,no]) (by rw [e];exact i1),?_,?_⟩
  ·show ∀ w:Nat,aX (fL ms false (jU ms false kv (m,g)) T) (w:Int)=h w;rw [e];exact i2
  ·show (fL ms false (jU ms false kv (m,g)) T).length=_;rw [e,i3,zL,zR];simp;omega
theorem RT {ms:List M4}{W:Nat}(hw:∀ M∈ms,0<=M.lo/\M.lo < M.hi/\M.hi < W){j s w:Nat}{x y:Int}{P:List (Nat×Nat)}(c:lX ms j s x P w y):∀ {r:Nat},r<=j->LH ms true r [((s:Int),x)] P/\fL ms true [((s:Int),x)] P=[((w:Int),y)]:=by
 induction c with
 | nil=>intro r _;exact ⟨.nil _ _,rfl⟩
 | @cons j m s o w x t y P hj l lt c' ih=>
  intro r hr;obtain ⟨M,hM,et,hg,ho,ne⟩:=Me l hw;have k1:aX [((s:Int),x)] (s:Int)=some x:=by unfold aX;simp
  have k2:aX [((s:Int),x)] (o:Int)=none:=by unfold aX;simp;omega
  have e:jU ms true [((s:Int),x)] (m,s)=[((o:Int),t)]:=by
   unfold jU;rw [hM];show dS (br [((s:Int),x)] (aN M (s:Int)) M.t) (s:Int)=_;rw [ho,et,kc k2];unfold dS;show List.filter _ [((s:Int),x),((o:Int),t)]=_;rw [List.filter_cons_of_neg (by simp),List.filter_cons_of_pos (by simp;omega)];rfl
  obtain ⟨i1,i2⟩:=ih (r:=m) (zx m);refine ⟨.cons (by omega) hM hg (by rw [k1,et];exact decide_eq_true lt) (by rw [ho,k2]) (by rw [e];exact i1),?_⟩;show fL ms true (jU ms true [((s:Int),x)] (m,s)) P=_;rw [e];exact i2
theorem vv {v:Nat}{a:Int}(w:Nat):aX [((v:Int),a)] (w:Int)=av v a w:=by
 unfold aX av;by_cases c:w=v
 ·subst c;simp
 ·rw [if_neg c];simp;omega
theorem PN {kv:List (Int×Int)}{w t:Int}(h:aX kv w=some t):(w,t)∈kv:=by
 unfold aX at h;cases e:kv.find? (λp=>decide (p.1=w)) with
 | none=>rw [e] at h;cases h
 | some p=>
  rw [e] at h;cases h;have h1:decide (p.1=w)=true:=List.find?_some (p:=λp:Int×Int=>decide (p.1=w)) e;have:=of_decide_eq_true h1;rw [<-this];exact List.mem_of_find?_eq_some e
theorem ve (n:Nat)(x:Int):(List.replicate n [V.int x]).flatten=(List.replicate n x).map V.int:=by
 induction n with
 | zero=>rfl
 | succ n ih=>rw [yD,yp,ih,yD];rfl
theorem MH {W:Int}{ms:List M4}(g:Good W ms):Good W (ms.map bg):=by refine ⟨by rw [zA];exact g.lC,λr hr=>?_,List.pairwise_map.mpr g.order⟩;obtain ⟨M,hM,rfl⟩:=zO.mp hr;have:=g.each M hM;exact ⟨this.1,this.2.1,this.2.2.1,this.2.2.2.1,this.2.2.2.2.1,by show (1:Int)<=99;decide,by show (99:Int)<=99;decide⟩
theorem sW {ms:List M4}{gv:Bool}{kv:List (Int×Int)}{T:List (Nat×Nat)}{i:Nat}{u:Nat×Nat}(h:T[i]?=some u):fL ms gv kv (T.take (i + 1))=jU ms gv (fL ms gv kv (T.take i)) u:=by unfold fL;rw [wK h,ya];rfl
theorem NL {α:Type}{T:List α}{i:Nat}{u:α}(h:T[i]?=some u):T.drop i=u::T.drop (i + 1):=by have hi:=(zB.mp h).1;rw [List.drop_eq_getElem_cons hi,(zB.mp h).2]
def vQ (gv:Bool)(u:Nat×Nat):Dd:=.pass gv (u.1:Int) 0 (u.2:Int)
def MQ:Sp:=λvs H Q _=>∃ b ah tr tm ps,vs=[.ref b]/\aM H b ah tr tm ps/\ah.length<=12/\ps.length<=60 /\
 ∀ b' oN V6 jK H',ay H H'->aM H' b' (List.replicate ah.length (99:Int)) oN V6 jK->jK.map (·.2)=(ps.map (·.2)).map bg->Q (.ref b') H'
def OI:Sp:=λvs H Q _=>∃ b lt tl ah tr tm ps,∃ L:L4,∃ gv,∃ Tl:List (Addr×Nat×Nat),vs=[.ref b,.ref lt,.str (sr gv),.ref tl]/\aM H b ah tr tm ps/\Good ah.length (ps.map (·.2))/\ah.length<=12/\H lt=some (.tup (nk L))/\H tl=some (.lst (Tl.map λx=>V.ref x.1))/\jE H Tl/\Tl.length<=60 /\
 LH (ps.map (·.2)) gv 0 [((L.s:Int),L.a)] (Tl.map (·.2))/\(fL (ps.map (·.2)) gv [((L.s:Int),L.a)] (Tl.map (·.2))).length < 64 /\
 ∀ l (qs:List (Addr×List Int)) H',ay H H'->H l=none->H' l=some (.lst (qs.map λa=>V.ref a.1))->(∀ a∈qs,H' a.1=some (.tup (a.2.map V.int)))->(qs.map (·.2)).Perm ((fL (ps.map (·.2)) gv [((L.s:Int),L.a)] (Tl.map (·.2))).map λp=>[p.1,p.2])->Q (.ref l) H'
theorem WK {W:Nat}{ms:List M4}(gd:Good W ms){k w m:Nat}{a e z:Int}{cs:List Int}(ls:Te ms k a w z m)(h:cG ms k a (-1) cs=some (w,e))(le:e<=z)(lc:cs.length=m):bC ms k a [(w,z)] (m:Int):=by
 obtain ⟨T,hh,tr,sv,l⟩:=MI gd h le;have low:∀ T' h',eS ms 0 (av k a) T' h'->aD h' [(w,z)]->m<=T'.length:=λT' h' oN Rh=>by
  by_cases c:T'.length < m
  ·have:=ls.2 _ c;rw [pH oN Rh] at this;cases this
  ·omega
 have:=low T hh tr sv;exact .inr ⟨uz gd h le,T,hh,tr,sv,by omega,λT' h' oN Rh=>by have:=low T' h' oN Rh;omega⟩
theorem NU {W:Nat}{ms:List M4}(gd:Good W ms){k w:Nat}{a z:Int}(sv:bq (fwd ms (av k a) w) z=true):aD (fwd ms (av k a)) [(w,z)]:=aK.mpr λx hx=>by
 cases zJ.mp hx;exact sv
theorem Ma {qs:List (Addr×List Int)}{kv:List (Int×Int)}(pm:(qs.map (·.2)).Perm (kv.map λp=>[p.1,p.2])):∃ rs:List (Addr×Int×Int),qs=rs.map (λr=>(r.1,[r.2.1,r.2.2]))/\(rs.map (·.2)).Perm kv:=by
 refine ⟨qs.map λq=>(q.1,q.2.getD 0 0,q.2.getD 1 0),?_,?_⟩
 ·rw [zg];refine (List.map_id'' (f:=_) (λ_=>rfl) qs).symm.trans (yN λq hq=>?_);have h1:q.2∈kv.map λp=>[p.1,p.2]:=pm.mem_iff.mp (yE hq);obtain ⟨p,_,e⟩:=zO.mp h1;show q=(q.1,[q.2.getD 0 0,q.2.getD 1 0]);rw [<-e];show (q.1,q.2)=(q.1,[p.1,p.2]);rw [<-e]
 ·have:=pm.map λl:List Int=>(l.getD 0 0,l.getD 1 0);rw [zg,zg] at this;rw [zg];refine this.trans (.of_eq ?_);exact (yN λp _=>rfl).trans (List.map_id' kv)
theorem mU {f:Fn}{ws:Wq}(s:aD f ws)(n:Nat):aD f (ws.take n):=aK.mpr λx hx=>aK.mp s x (List.mem_of_mem_take hx)
structure oK (ms:List M4) (k:Nat) (a:Int) (ws:Wq) (i:Nat) (ns:List Int):Prop where
 len:ns.length=i
 at_:∀ j,j < i->bC ms k a (ws.take (j + 1)) (ns.getD j 0)
structure jI (ms:List M4) (k:Nat) (a:Int) (ws:Wq) (i:Nat) (as:List Int):Prop where
 len:as.length=i
 at_:∀ j x,j < i->ws[j]?=some x->bC ms k a [x] (as.getD j 0)
theorem getD_snoc {as:List Int}{n:Int}{j:Nat}:(as++[n]).getD j 0=if j < as.length then as.getD j 0 else if j=as.length then n else 0:=by
 rw [zS,List.getElem?_append];split
 ·rw [zS]
 ·split
  ·rename_i e;rw [e];simp
  ·rw [yR (by simp;omega)];rfl
theorem jI.add {ms:List M4}{k:Nat}{a:Int}{ws:Wq}{i:Nat}{as:List Int}(h:jI ms k a ws i as){x:Nat×Int}{n:Int}(hx:ws[i]?=some x)(m:bC ms k a [x] n):jI ms k a ws (i + 1) (as++[n]):=
 ⟨by rw [zL,h.len];rfl,λj y hj hy=>by
  rw [getD_snoc,h.len];by_cases c:j < i
  ·rw [if_pos c];exact h.at_ j y c hy
  ·have e:j=i:=by omega
   subst e;rw [if_neg c,if_pos rfl];rw [hx] at hy;cases hy;exact m⟩
theorem oK.add {ms:List M4}{k:Nat}{a:Int}{ws:Wq}{i:Nat}{ns:List Int}(h:oK ms k a ws i ns){n:Int}(m:bC ms k a (ws.take (i + 1)) n):oK ms k a ws (i + 1) (ns++[n]):=
 ⟨by rw [zL,h.len];rfl,λj hj=>by
  rw [getD_snoc,h.len];by_cases c:j < i
  ·rw [if_pos c];exact h.at_ j c
  ·have e:j=i:=by omega
   subst e;rw [if_neg c,if_pos rfl];exact m⟩
theorem pW {ms:List M4}{k:Nat}{a:Int}{ws:Wq}{x:Int}(m:bC ms k a ws x)(s:aD (fwd ms (av k a)) ws):x≠-1:=by
 rcases m with ⟨n,_⟩ | ⟨_,T,h,_,_,rfl,_⟩
 ·exact absurd s n
 ·omega
theorem Rk {W:Nat}{ms:List M4}(gd:Good W ms){k:Nat}{a:Int}{ws:Wq}{ns as:List Int}(sv:aD (fwd ms (av k a)) ws)(hn:oK ms k a ws ws.length ns)(ha:jI ms k a ws ws.length as)(w1:1<=ws.length) :
  ns.getD 0 0=as.getD 0 0/\∀ j,j + 1 < ns.length->ns.getD j 0<=ns.getD (j + 1) 0/\ns.getD (j + 1) 0<=ns.getD j 0 + as.getD (j + 1) 0:=by
 refine ⟨?_,λj hj=>?_⟩
 ·match ws,w1 with
  | x::ws,_=>
   have h1:=hn.at_ 0 (by simp);have h2:=ha.at_ 0 x (by simp) rfl;exact h1.same h2 λz=>by simp
 ·rw [hn.len] at hj;have h1:=hn.at_ j (by omega);have h2:=hn.at_ (j + 1) hj;have hx:ws[j + 1]?=some ws[j + 1]:=zG hj;have h3:=ha.at_ (j + 1) _ hj hx;have e:ws.take (j + 1 + 1)=ws.take (j + 1)++[ws[j + 1]]:=wK hx;obtain ⟨_,_,_,p⟩:=RK gd e h1 h3 h2;have n1:=pW h1 (mU sv _);have n3:=pW h3 (aK.mpr λx Zb=>by
   rw [zJ.mp Zb];exact aK.mp sv _ (zh hj))
  have:=p n1 n3;exact ⟨this.2.1,this.2.2.2⟩
theorem jA.len {ms:List M4}{j:Nat}{f h:Fn}{T:List (Nat×Nat)}(tr:jA ms j f T h):T.length<=ms.length - j:=by
 induction tr with
 | nil=>exact zX _
 | cons hj l hx lt no r ih=>
  obtain ⟨M,hM,_⟩:=l;have:=(zB.mp hM).1;rw [zR];omega
theorem Tu {ms:List M4}{W:Nat}{ws:Wq}{k:Nat}{a:Int}{V:Nat->Nat->Nat->Int}{T:List (Nat×Nat)}{h:Fn}(gd:Good W ms)(hk:k < W)(Se:∀ x∈ws,x.1 < W)(dp:eL ms V W ws)(sv:aD (fwd ms (av k a)) ws)(tr:eS ms (cnt ms a) (av k a) T h)(st:aD h ws)(len:(T.length:Int)=V (cnt ms a) k (2 ^ ws.length - 1)) :
  bC ms k a ws (T.length:Int)/\(∀ T' h',eS ms 0 (av k a) T' h'->aD h' ws->T.length<=T'.length)/\jA ms 0 (av k a) T h:=by
 have m:=ML gd hk Se dp sv tr st len;have mn:∀ T' h',eS ms 0 (av k a) T' h'->aD h' ws->T.length<=T'.length:=λT' h' oN Rh=>by
  rcases id m with ⟨n,_⟩ | ⟨_,T0,h0,_,_,e,mn⟩
  ·exact absurd sv n
  ·have:=mn T' h' oN Rh;omega
 exact ⟨m,mn,rq tr.V5 st mn⟩
theorem Sn {W:Nat}{ms:List M4}(gd:Good W ms):∀ M∈ms,0<=M.lo/\M.lo < M.hi/\M.hi < W:=λM hM=>by
 have:=gd.each M hM;omega
def uS:Sp:=λvs H Q _=>∃ p b lt n f,vs=[.ref p,.ref b,.ref lt]/\bX H p/\lt≠p/\H lt=some (.lst ((rep n f).map oV))/\n<=12/\(∃ k x,k < n/\f k=some x)/\(∀ w x,f w=some x->0<=x/\x<=1000000000) /\
 ∀ l ws H',Go p H H'->H l=none->l≠p->eO H' l n ws->rV ws->1<=ws.length->ws.length<=4->(∀ x∈wq ws,bq (f x.1) x.2=true)->Q (.ref l) H'
def MR (T:Addr)(iy:Pos):Sp:=λvs H Q _=>∃ b,∃ k:Nat,∃ a lw ah tr tm ps ws,vs=[.ref b,.int (k:Int),.int a,.ref lw]/\rW T iy H b ah tr tm ps k a lw ws/\ah.length<=8/\ps.length<=24/\aD (fwd (ps.map (·.2)) (av k a)) (wq ws) /\
 ∀ H',bN T H H'->MT T iy j9 H'->Q (.bl true) H'
def MV (C:Addr):Sp:=λvs H Q _=>∃ t l ah tr tm ps n0,vs=[.ref t.x,.int l]/\bW C H t ah tr tm ps n0/\0<=l/\l < t.ls.length/\Q .bV H
def MU (C:Addr):Sp:=λvs H Q _=>∃ t m l g ah tr tm ps n0,vs=[.ref t.x,.int m,.int l,.int g]/\bW C H t ah tr tm ps n0/\oh ah (ps.map (·.2)) t m l g=8/\∀ H',ay H H'->Q .bV H'
def uW:Sp:=λvs H Q _=>∃ p gv m l g,vs=[.ref p]/\H p=some (.tup (Dd.pass gv m l g).vs)/\∀ H',ay H H'->Q (.bl true) H'
def T3 (C:Addr):Sp:=λvs H Q _=>∃ t p gv m l g ah tr tm ps n0,vs=[.ref t.x,.ref p]/\bW C H t ah tr tm ps n0/\n0 < 200/\H p=some (.tup (Dd.pass gv m l g).vs)/\oh ah (ps.map (·.2)) t m l g=8 /\
 ∀ H',Keeps t H H'->bW C H' (t.nW (ps.map (·.2)) (.ref p) (.pass gv m l g)) ah tr tm ps (n0 + 1)->Q .bV H'
end Sm
namespace L2
open PySem PySem.Spec PyProof.Rows
structure Df (K:PySem.W.Frag) (mg:Str->Option Value) (x q:Str) (st:Stmt) (f:Addr) (fd:FuncData) (ps:List Str):Prop where
 F:bR K x q st f fd
 i:Binds K fd ps []
 m:mg x=some (.ref f)
 k:zj K (.ref f)=true
theorem Df.of {K:PySem.W.Frag}{h:Heap}{mg:Str->Option Value}{x q:Str}{st:Stmt}{f:Addr}{fd:FuncData}{ps:List Str}(X:K.In h)(G:h.Ns mainGlobals mg)(e:zH K mainGlobals x=some (some (.ref f)))(F:bR K x q st f fd)
  (b:∀ (kV doc pm:Value) (an:Option Addr) (bP ct:Value) (us:List Value),us.length=ps.length->bindArgs (xN x q (ju st) (ak st) (aq st) .none kV doc pm an bP ct) ⟨us,[]⟩=pure (ps.zip us):=by
   (intro _ _ _ _ _ _ us hl
    first
     | exact Sm.us1 hl λ_=>rfl
     | exact Sm.VB hl λ_ _=>rfl
     | exact Sm.YM hl λ_ _ _=>rfl
     | exact Sm.YL hl λ_ _ _ _=>rfl
     | exact Sm.us5 hl λ_ _ _ _ _=>rfl
     | exact Sm.us6 hl λ_ _ _ _ _ _=>rfl
     | exact Sm.us0 hl rfl)):Df K mg x q st f fd ps:=⟨F,F.binds b,yC X G e,F.kp⟩
abbrev d9 {K:PySem.W.Frag}{mg:Str->Option Value}{x q:Str}{st:Stmt}{f:Addr}{fd:FuncData}{ps:List Str}(_:Df K mg x q st f fd ps)(P:Program)(w:World)(base:Heap)(k:Nat)(sp:Sp):Prop:=cF P w K mg base mD k f fd ps sp
theorem bw {X:Cx}{n k:Nat}{x q:Str}{st:Stmt}{f:Addr}{fd:FuncData}{ps:List Str}{sp:Sp}{p pos:Pos}{e:Expr}{es:List Expr}{t:TA}(F:cF X.prog X.w X.K X.mg X.base mD k f fd ps sp)(hr:cB n X.A)(D:Df X.K X.mg x q st f fd ps)
  (ha:PA X (e::es) t) (h:k<=n:=by decide) (hg:Gl X x:=by rfl) (Sk:(x == ("__debug__" : Str))=false:=by decide) (he:starEach (e::es) X.env=(false,eval e X.env)::starEach es X.env:=by rfl) (N4:(backTo pos (starEach es X.env)).any (·.1)=false:=by rfl) :
  PE X (.Call (.Name x p) (e::es) [] pos) (pL sp [] E0 t):=RJ F (hr.mono h) hg D.m D.k D.i .nil eX ha Sk he N4
end L2
namespace L2
open PySem
set_option genInjectivity false
set_option genSizeOf false
structure Bk (X:Cx) (b:List Stmt) where
 t:TS
 ps:qk X b t
theorem cy {X:Cx}{b:List Stmt}{R:TS->Prop}(h:let Y:=X;∃ t,qk Y b t/\R t):∃ t,qk X b t/\R t:=h
theorem Bk.bl {X:Cx}{a:Stmt}{rest:List Stmt}(B:Bk X (a::rest)):uB X (a::rest) B.t:=Qu B.ps
abbrev IV:=Nat->St->Hp->Prop
abbrev IC:=Nat->St->List V->Hp->Prop
def stP:Stmt:=.Pass ⟨0,0,0,0⟩
def nb (l:List Stmt)(i:Nat):List Stmt:=match l.getD i stP with
 | .If _ a _ _=>a
 | .For _ _ a _ _=>a
 | .While _ a _ _=>a
 | _=>[]
def ne (l:List Stmt)(i:Nat):List Stmt:=match l.getD i stP with
 | .If _ _ a _=>a
 | _=>[]
end L2
namespace Sm
open PySem L2
theorem bD:1002<=sizeLine:=by rw [sizeLine_eq];decide
end Sm


namespace L2
open PySem PySem.Spec PyProof.Rows
theorem aU {N P:List Str}{sc:Scope}(a:sc.kind=.function:=by rfl)(b:sc.isCoroutine=false:=by rfl)(c:sc.isGenerator=false:=by rfl)(d:N.Nodup:=by decide +kernel)(e:N.take P.length=P:=by rfl)(f:∀ x∈P,sc.names.lookup x=some .local∨sc.names.lookup x=some .cell:=by decide +kernel)(g:∀ y∈sc.names,y.2≠.free:=by decide +kernel):au N P sc:=⟨a,b,c,d,e,f,g⟩
theorem iz {o:List Str}{c:List Nat}{N:List Str}{s p:Scope}(k:p.kind=.function:=by rfl)(a:∀ y∈p.names,y.2≠.cell:=by decide +kernel)(l:∀ y∈p.names,y.2=.local->p.names.lookup y.1=some .local:=by decide +kernel)(f:∀ y∈p.names,y.2=.free->s.names.lookup y.1=some .cell∨s.names.lookup y.1=some .free:=by decide +kernel)(g:∀ i∈c,i < N.length∧p.names.lookup ((N[i]?).getD Str.empty)=some .free:=by decide +kernel):aI o c N s p:=⟨k,a,l,f,g⟩
end L2
namespace Sm
open PySem L2
def top (i:Nat):Stmt:=PySem.Challenge.pw_satchelmeet_k97_whole_wish_by_wish.main.body.getD i (.Pass ⟨0,0,0,0⟩)
abbrev KH:Stmt:=top 0
abbrev w8:Stmt:=top 58
abbrev qL:Stmt:=top 59
abbrev D5:Stmt:=top 60
abbrev qQ:Stmt:=top 61
abbrev Ca:Stmt:=top 62
abbrev wF:Stmt:=top 63
abbrev Cb:Stmt:=top 64
abbrev wl:Stmt:=top 65
abbrev Gd:Stmt:=top 14
abbrev EZ:Stmt:=top 15
abbrev Hd:Stmt:=top 16
abbrev Ge:Stmt:=top 17
abbrev Hc:Stmt:=top 18
abbrev qD:Stmt:=top 20
abbrev E4:Stmt:=top 21
abbrev FF:Stmt:=top 22
abbrev Hb:Stmt:=top 23
abbrev Gc:Stmt:=top 24
abbrev D2:Stmt:=top 25
abbrev Iy:Stmt:=top 27
abbrev CW:Stmt:=top 28
abbrev GT:Stmt:=top 29
abbrev B9:Stmt:=top 31
abbrev wb:Stmt:=top 35
abbrev BK:Stmt:=top 33
abbrev wv:Stmt:=top 34
abbrev qR:Stmt:=top 42
abbrev D3:Stmt:=top 43
abbrev EY:Stmt:=top 41
abbrev wj:Stmt:=top 40
abbrev Cy:Stmt:=top 45
abbrev wc:Stmt:=top 44
abbrev Ix:Stmt:=top 39
abbrev BZ:Stmt:=top 48
abbrev qF:Stmt:=top 47
abbrev D1:Stmt:=top 51
abbrev qS:Stmt:=top 50
abbrev DM:Stmt:=top 49
abbrev Cz:Stmt:=top 56
abbrev D4:Stmt:=top 54
abbrev JD:Stmt:=top 55
abbrev qT:Stmt:=inClass (top 53) 6
abbrev wf:Stmt:=inClass (top 53) 11
abbrev wI:Stmt:=inClass (top 53) 0
abbrev DB:Stmt:=inClass (top 53) 2
abbrev CY:Stmt:=inClass (top 53) 3
abbrev HV:Stmt:=inClass (top 53) 4
abbrev E5:Stmt:=inClass (top 53) 5
abbrev qI:Stmt:=inClass (top 53) 9
abbrev DN:Stmt:=inClass (top 53) 8
abbrev wL:Stmt:=inClass (top 53) 7
abbrev ww:Stmt:=inClass (top 53) 10
abbrev qM:Stmt:=inClass (top 53) 1
abbrev qA:Stmt:=top 66
abbrev wW:Stmt:=top 67
abbrev CB:Stmt:=top 68
abbrev wx:Stmt:=top 69
abbrev wY:Stmt:=top 70
abbrev wH:Stmt:=top 71
abbrev K2:Stmt:=top 72
def cM:Pos:=⟨151,33,151,76⟩
set_option genInjectivity false
set_option genSizeOf false
structure Ad where
 FO:Addr
 G4:FuncData
 BI:Addr
 CS:FuncData
 Cj:Addr
 Dw:FuncData
 Db:Addr
 EB:FuncData
 BG:Addr
 CP:FuncData
 Ck:Addr
 Dx:FuncData
 AQ:Addr
 Bh:FuncData
 Cm:Addr
 Dz:FuncData
 Ci:Addr
 Dv:FuncData
 C8:Addr
 Ey:FuncData
 Cf:Addr
 Dr:FuncData
 DW:Addr
 FL:FuncData
 C9:Addr
 Ez:FuncData
 DV:Addr
 FK:FuncData
 Ax:Addr
 AF:FuncData
 Cg:Addr
 Dt:FuncData
 DX:Addr
 FM:FuncData
 IT:Addr
 J0:FuncData
 C6:Addr
 Ev:FuncData
 C7:Addr
 Ew:FuncData
 Fu:Addr
 G3:FuncData
 AT:Addr
 Bw:FuncData
 Fq:Addr
 G0:FuncData
 Ch:Addr
 Du:FuncData
 AO:Addr
 Bg:FuncData
 AH:Addr
 A3:FuncData
 Da:Addr
 EA:FuncData
 By:Addr
 CG:FuncData
 G6:Addr
 Im:FuncData
 Fs:Addr
 G1:FuncData
 AU:Addr
 Bx:FuncData
 BC:Addr
 A4:FuncData
 DU:Addr
 FJ:FuncData
 Fp:Addr
 GZ:FuncData
 Ce:Addr
 Dq:FuncData
 Bb:Addr
 BU:FuncData
 Bz:Addr
 CI:FuncData
 BB:Addr
 CK:FuncData
 Ft:Addr
 G2:FuncData
 BD:Addr
 CL:FuncData
 BA:Addr
 CJ:FuncData
 CU:Addr
 DQ:FuncData
 Am:Addr
 Aw:FuncData
 Af:Addr
 Ap:FuncData
 Al:Addr
 AC:FuncData
 Ay:Addr
 AR:FuncData
 AV:Addr
 BO:FuncData
 AJ:Addr
 Bq:FuncData
 AI:Addr
 Bp:FuncData
 Aj:Addr
 As:FuncData
 Ao:Addr
 AA:FuncData
 Ag:Addr
 Aq:FuncData
 Au:Addr
 AG:FuncData
 Bs:Addr
 CT:FuncData
 BE:Addr
 CM:FuncData
 Bc:Addr
 BV:FuncData
 BF:Addr
 CO:FuncData
 Cl:Addr
 Dy:FuncData
 AB:Addr
 AM:FuncData
 BH:Addr
 CQ:FuncData
 JG:Addr
 KJ:FuncData
 tC:Addr
 tP:Addr
 FN:Addr
 DT:Addr
 BR:Addr
 Br:Addr
 DS:Addr
 DR:Addr
 BQ:Addr
 BP:Addr
 Aa:Addr
structure Tx (K:PySem.W.Frag) (mg:Str->Option Value) (a:Ad) (uA:Tok) (gj:Tok) (gb:Tok):Prop where
 LE:Df K mg "_wall" "_wall" KH a.FO a.G4 ["k"]
 CD:Df K mg "_law_purse" "_law_purse" w8 a.BI a.CS ["_law_script", "_law_k"]
 Ac:Df K mg "_law_take" "_law_take" qL a.Cj a.Dw ["_law_purse_here", "_law_many"]
 Eh:Df K mg "_law_far" "_law_far" D5 a.Db a.EB ["_law_purse_here"]
 Ef:Df K mg "_law_rooms" "_law_rooms" qQ a.BG a.CP ["_law_purse_here", "_law_walkers"]
 E7:Df K mg "_law_step" "_law_step" Ca a.Ck a.Dx ["_law_purse_here"]
 Cn:Df K mg "_law_meetings" "_law_meetings" wF a.AQ a.Bh ["_law_purse_here", "_law_walkers", "_law_most"]
 E8:Df K mg "_law_book" "_law_book" Cb a.Cm a.Dz ["_law_purse_here", "_law_most_walkers", "_law_most_meetings"]
 E6:Df K mg "_law_time" "_law_time" wl a.Ci a.Dv ["_law_purse_here", "_law_book_here", "_law_later"]
 D8:Df K mg "is_whole" "is_whole" Gd a.C8 a.Ey ["thing"]
 Bo:Df K mg "is_within" "is_within" EZ a.Cf a.Dr ["thing", "least", "most"]
 FG:Df K mg "is_time" "is_time" Hd a.DW a.FL ["thing"]
 C1:Df K mg "is_below" "is_below" Ge a.C9 a.Ez ["number", "bound"]
 DO:Df K mg "is_upto" "is_upto" Hc a.DV a.FK ["number", "bound"]
 A5:Df K mg "is_meeting_number" "is_meeting_number" qD a.Ax a.AF ["book", "thing"]
 Dj:Df K mg "is_walker" "is_walker" E4 a.Cg a.Dt ["book", "thing"]
 FH:Df K mg "by_time" "by_time" FF a.DX a.FM ["book", "time"]
 Iz:Df K mg "ways" "ways" Hb a.IT a.J0 ["book"]
 Bi:Df K mg "other_at" "other_at" Gc a.C6 a.Ev ["book", "number", "walker"]
 D7:Df K mg "lone_row" "lone_row" D2 a.C7 a.Ew ["book", "walker", "number"]
 GV:Df K mg "all_of" "all_of" Iy a.Fu a.G3 ["wishes"]
 CZ:Df K mg "without_wish" "without_wish" CW a.AT a.Bw ["some", "number"]
 GU:Df K mg "splits" "splits" GT a.Fq a.G0 ["some"]
 Dk:Df K mg "is_letter" "is_letter" B9 a.Ch a.Du ["book", "thing"]
 Bd:Df K mg "first_givings" "first_givings" wb a.AO a.Bg ["book", "sender", "since"]
 BL:Df K mg "earliest_times" "earliest_times" BK a.AH a.A3 ["book", "sender", "since"]
 Gf:Df K mg "earliest" "earliest" wv a.Da a.EA ["book", "letter"]
 CC:Df K mg "still_open" "still_open" qR a.By a.CG ["book", "wishes", "stretch", "walker", "some"]
 JJ:Df K mg "least" "least" D3 a.G6 a.Im ["book", "stretch", "walker", "some", "following"]
 IB:Df K mg "row_of" "row_of" EY a.Fs a.G1 ["book", "wishes", "stretch", "walker", "following"]
 C0:Df K mg "least_prices" "least_prices" wj a.AU a.Bx ["book", "wishes"]
 Eb:Df K mg "best_split" "best_split" Cy a.BC a.A4 ["kept", "given", "some"]
 He:Df K mg "tree_by" "tree_by" wc a.DU a.FJ ["book", "sender", "since", "wishes", "prices"]
 IA:Df K mg "spread" "spread" Ix a.Fp a.GZ ["book", "sender", "since", "wishes"]
 Di:Df K mg "row_after" "row_after" BZ a.Ce a.Dq ["book", "row"]
 DC:Df K mg "giving_rows" "giving_rows" qF a.Bb a.BU ["book", "sender", "since"]
 D6:Df K mg "meeting_at" "meeting_at" D1 a.Bz a.CI ["book", "walker", "time"]
 Ea:Df K mg "chain_back" "chain_back" qS a.BB a.CK ["book", "rows", "wish"]
 ID:Df K mg "fewest" "fewest" DM a.Ft a.G2 ["book", "letter"]
 Ec:Df K mg "are_wholes" "are_wholes" Cz a.BD a.CL ["things"]
 D9:Df K mg "is_passing" "is_passing" D4 a.BA a.CJ ["thing"]
 KL:Df K mg "is_drop" "is_drop" JD a.CU a.DQ ["thing"]
 An:bR K "takes_room" "Trip.takes_room" qT a.Am a.Aw
 Dm:Binds K a.Aw ["self", "letter", "walker"] []
 DA:Meth K a.Aa "takes_room" a.Am
 KI:zj K (.ref a.Am)=true
 Ah:bR K "note_arrival" "Trip.note_arrival" wf a.Af a.Ap
 Cv:Binds K a.Ap ["self", "letter", "walker", "time"] []
 Cw:Meth K a.Aa "note_arrival" a.Af
 Kq:zj K (.ref a.Af)=true
 Ar:bR K "__init__" "Trip.__init__" wI a.Al a.AC
 Ii:Binds K a.AC ["self", "book", "letters"] []
 K0:Meth K a.Aa "__init__" a.Al
 KZ:zj K (.ref a.Al)=true
 Az:bR K "having" "Trip.having" DB a.Ay a.AR
 Js:Binds K a.AR ["self", "letter"] []
 Ju:Meth K a.Aa "having" a.Ay
 K8:zj K (.ref a.Ay)=true
 AY:bR K "bag" "Trip.bag" CY a.AV a.BO
 Kx:Binds K a.BO ["self", "walker"] []
 KB:Meth K a.Aa "bag" a.AV
 Ls:zj K (.ref a.AV)=true
 AX:bR K "come" "Trip.come" HV a.AJ a.Bq
 Lh:Binds K a.Bq ["self", "letter"] []
 Lj:Meth K a.Aa "come" a.AJ
 Lg:zj K (.ref a.AJ)=true
 AK:bR K "done" "Trip.done" E5 a.AI a.Bp
 Ki:Binds K a.Bp ["self"] []
 Kl:Meth K a.Aa "done" a.AI
 Lf:zj K (.ref a.AI)=true
 Ak:bR K "need_letter" "Trip.need_letter" qI a.Aj a.As
 Gi:Binds K a.As ["self", "letter"] []
 Gx:Meth K a.Aa "need_letter" a.Aj
 Kw:zj K (.ref a.Aj)=true
 At:bR K "need_drop" "Trip.need_drop" DN a.Ao a.AA
 Hi:Binds K a.AA ["self", "letter", "walker"] []
 Hq:Meth K a.Aa "need_drop" a.Ao
 KP:zj K (.ref a.Ao)=true
 Ai:bR K "need_passing" "Trip.need_passing" wL a.Ag a.Aq
 FR:Binds K a.Aq ["self", "meeting", "letter", "giver"] []
 FU:Meth K a.Aa "need_passing" a.Ag
 Kr:zj K (.ref a.Ag)=true
 Av:bR K "pass_on" "Trip.pass_on" ww a.Au a.AG
 II:Binds K a.AG ["self", "meeting", "letter", "giver"] []
 IU:Meth K a.Aa "pass_on" a.Au
 K4:zj K (.ref a.Au)=true
 Bt:bR K "do" "Trip.do" qM a.Bs a.CT
 KQ:Binds K a.CT ["self", "deed"] []
 KS:Meth K a.Aa "do" a.Bs
 Lv:zj K (.ref a.Bs)=true
 Ed:Df K mg "_law_times" "_law_times" qA a.BE a.CM ["_law_book_here", "_law_sender", "_law_since"]
 DD:Df K mg "_law_wished" "_law_wished" wW a.Bc a.BV ["_law_purse_here", "_law_book_here", "_law_times_here"]
 Ee:Df K mg "_law_roomy" "_law_roomy" CB a.BF a.CO ["_law_book_here"]
 Dl:Df K mg "_law_done" "_law_done" wx a.Cl a.Dy ["_law_book_here", "_law_letter", "_law_word", "_law_tree"]
 Bj:Df K mg "_law_steps_right" "_law_steps_right" wY a.AB a.AM ["_law_numbers", "_law_alone"]
 Eg:Df K mg "_law_right" "_law_right" wH a.BH a.CQ ["_law_book_here", "_law_sender", "_law_since", "_law_wishes"]
 Lc:Df K mg "law" "law" K2 a.JG a.KJ ["_law_script"]
 Ys:mg "all" = none
 Vq:mg "bool" = none
 cC:mg "enumerate" = none
 Yr:mg "int" = none
 dB:mg "isinstance" = none
 bL:mg "len" = none
 vW:mg "list" = none
 Qw:mg "max" = none
 qj:mg "min" = none
 cz:mg "range" = none
 vV:mg "reversed" = none
 oB:mg "sorted" = none
 iu:mg "tuple" = none
 aaN:PySem.W.codeHdIn K a.tC a.tP=true
 aaO:a.A4.code=.ref a.tC
 LF:mg "HasIt" = some (.ref a.FN)
 LC:mg "NoDeed" = some (.ref a.DT)
 Lr:mg "NoLetter" = some (.ref a.BR)
 Ld:mg "NoMeeting" = some (.ref a.Br)
 LB:mg "NoPass" = some (.ref a.DS)
 LA:mg "NoRoom" = some (.ref a.DR)
 Lq:mg "NoWalker" = some (.ref a.BQ)
 Lp:mg "NotThere" = some (.ref a.BP)
 Lo:mg "Trip" = some (.ref a.Aa)
 Ly:gk K a.DT
 Lb:gk K a.Br
 Lm:gk K a.BR
 Ll:gk K a.BQ
 Lk:gk K a.BP
 LD:gk K a.FN
 Lx:gk K a.DS
 Lw:gk K a.DR
 Ae:QF K a.Aa
 Lu:L2.Mk K a.Aa a.Al
 cg:cQ K a.Aa "book"
 bI:cQ K a.Aa "letters"
 bK:cQ K a.Aa "holders"
 dc:cQ K a.Aa "arrivals"
 fD:cQ K a.Aa "passed"
 dQ:cQ K a.Aa "reached"
 dw:cQ K a.Aa "deeds"
 uv:mg "LAST_TIME" = some (.int 1000000000 uA)
 gh:mg "MOST_SPREAD_WALKERS" = some (.int 8 gj)
 fY:mg "MOST_SPREAD_MEETINGS" = some (.int 24 gb)
section
theorem Ga:au ["_law_script", "_law_k", "_law_cell", "_law_left"] ["_law_script", "_law_k"] (aq w8):=L2.aU
theorem GO:au ["_law_purse_here", "_law_many", "_law_digit", "_law_mixed"] ["_law_purse_here", "_law_many"] (aq qL):=L2.aU
theorem HR:au ["_law_purse_here", "_law_high"] ["_law_purse_here"] (aq D5):=L2.aU
theorem F8:au ["_law_purse_here", "_law_walkers", "_law_rooms_here", "_law_walker", "_law_room"] ["_law_purse_here", "_law_walkers"] (aq qQ):=L2.aU
theorem GP:au ["_law_purse_here", "_law_way"] ["_law_purse_here"] (aq Ca):=L2.aU
theorem DK:au ["_law_purse_here", "_law_walkers", "_law_most", "_law_found", "_law_when", "_law_busy", "_law_k", "_law_one", "_law_other", "_law_gap", "_law_passed", "_law_late"] ["_law_purse_here", "_law_walkers", "_law_most"] (aq wF):=L2.aU
theorem GR:au ["_law_purse_here", "_law_most_walkers", "_law_most_meetings", "_law_walkers", "_law_most"] ["_law_purse_here", "_law_most_walkers", "_law_most_meetings"] (aq Cb):=L2.aU
theorem GN:au ["_law_purse_here", "_law_book_here", "_law_later", "_law_way", "_law_at"] ["_law_purse_here", "_law_book_here", "_law_later"] (aq wl):=L2.aU
theorem HN:au ["thing"] ["thing"] (aq Gd):=L2.aU
theorem GK:au ["thing", "least", "most"] ["thing", "least", "most"] (aq EZ):=L2.aU
theorem Ir:au ["thing"] ["thing"] (aq Hd):=L2.aU
theorem HP:au ["number", "bound"] ["number", "bound"] (aq Ge):=L2.aU
theorem Iq:au ["number", "bound"] ["number", "bound"] (aq Hc):=L2.aU
theorem BW:au ["book", "thing"] ["book", "thing"] (aq qD):=L2.aU
theorem GL:au ["book", "thing"] ["book", "thing"] (aq E4):=L2.aU
theorem Iv:au ["book", "time"] ["book", "time"] (aq FF):=L2.aU
theorem KG:au ["book", "told", "number", "one", "other", "when", "many"] ["book"] (aq Hb):=L2.aU
theorem HK:au ["book", "number", "walker", "one", "other", "when", "many"] ["book", "number", "walker"] (aq Gc):=L2.aU
theorem HL:au ["book", "walker", "number"] ["book", "walker", "number"] (aq D2):=L2.aU
theorem JC:au ["wishes"] ["wishes"] (aq Iy):=L2.aU
theorem EO:au ["some", "number"] ["some", "number"] (aq CW):=L2.aU
theorem Jz:au ["some"] ["some"] (aq GT):=L2.aU
theorem GM:au ["book", "thing", "sender", "since", "wish", "last"] ["book", "thing"] (aq B9):=L2.aU
theorem DJ:au ["book", "sender", "since", "times", "came", "number", "giver", "other", "when"] ["book", "sender", "since"] (aq wb):=L2.aU
theorem Dh:au ["book", "sender", "since", "times", "came"] ["book", "sender", "since"] (aq BK):=L2.aU
theorem HQ:au ["book", "letter", "sender", "since", "wish", "last", "times", "came", "chain", "walker", "number"] ["book", "letter"] (aq wv):=L2.aU
theorem FX:au ["book", "wishes", "stretch", "walker", "some", "left", "number", "wished", "last"] ["book", "wishes", "stretch", "walker", "some"] (aq qR):=L2.aU
theorem Kf:au ["book", "stretch", "walker", "some", "following", "price", "other"] ["book", "stretch", "walker", "some", "following"] (aq D3):=L2.aU
theorem JA:au ["book", "wishes", "stretch", "walker", "following", "row", "some", "left"] ["book", "wishes", "stretch", "walker", "following"] (aq EY):=L2.aU
theorem EQ:au ["book", "wishes", "prices", "stretch", "following"] ["book", "wishes"] (aq wj):=L2.aU
theorem F4:au ["kept", "given", "some"] ["kept", "given", "some"] (aq Cy):=L2.aU
theorem Ip:au ["book", "sender", "since", "wishes", "prices", "givings", "parts", "stretch", "walker", "some", "following", "other", "part", "rest"] ["book", "sender", "since", "wishes", "prices"] (aq wc):=L2.aU
theorem Jy:au ["book", "sender", "since", "wishes", "number", "walker", "last", "prices"] ["book", "sender", "since", "wishes"] (aq Ix):=L2.aU
theorem GJ:au ["book", "row", "following", "number", "giver", "other", "when"] ["book", "row"] (aq BZ):=L2.aU
theorem EV:au ["book", "sender", "since", "rows", "following"] ["book", "sender", "since"] (aq qF):=L2.aU
theorem FY:au ["book", "walker", "time", "number", "giver", "other", "when"] ["book", "walker", "time"] (aq D1):=L2.aU
theorem F3:au ["book", "rows", "wish", "chain", "walker", "row", "number"] ["book", "rows", "wish"] (aq qS):=L2.aU
theorem JB:au ["book", "letter", "sender", "since", "wish", "last", "rows", "many", "row"] ["book", "letter"] (aq DM):=L2.aU
theorem F5:au ["things"] ["things"] (aq Cz):=L2.aU
theorem FZ:au ["thing"] ["thing"] (aq D4):=L2.aU
theorem CV:au ["self", "letter", "walker", "sender", "since", "wish", "last"] ["self", "letter", "walker"] (aq qT):=L2.aU
theorem BX:au ["self", "letter", "walker", "time", "sender", "since", "wish", "last"] ["self", "letter", "walker", "time"] (aq wf):=L2.aU
theorem DL:au ["self", "book", "letters", "number", "sender", "since", "wish", "last"] ["self", "book", "letters"] (aq wI):=L2.aU
theorem EX:au ["self", "letter"] ["self", "letter"] (aq DB):=L2.aU
theorem HU:au ["self", "walker", "kept", "letter", "holders"] ["self", "walker"] (aq CY):=L2.aU
theorem GS:au ["self"] ["self"] (aq E5):=L2.aU
theorem Cu:au ["self", "letter"] ["self", "letter"] (aq qI):=L2.aU
theorem BY:au ["self", "meeting", "letter", "giver", "one", "two", "when", "many", "other"] ["self", "meeting", "letter", "giver"] (aq wL):=L2.aU
theorem ER:au ["self", "meeting", "letter", "giver", "other", "when"] ["self", "meeting", "letter", "giver"] (aq ww):=L2.aU
theorem Iw:au ["self", "deed", "kind", "meeting", "letter", "giver", "walker"] ["self", "deed"] (aq qM):=L2.aU
theorem F6:au ["_law_book_here", "_law_sender", "_law_since", "_law_found", "_law_one", "_law_other", "_law_when", "_law_passed", "_law_giver", "_law_taker"] ["_law_book_here", "_law_sender", "_law_since"] (aq qA):=L2.aU
theorem EW:au ["_law_purse_here", "_law_book_here", "_law_times_here", "_law_left", "_law_found", "_law_k", "_law_walker", "_law_more"] ["_law_purse_here", "_law_book_here", "_law_times_here"] (aq wW):=L2.aU
theorem F7:au ["_law_book_here"] ["_law_book_here"] (aq CB):=L2.aU
theorem GQ:au ["_law_book_here", "_law_letter", "_law_word", "_law_tree", "_law_trip", "_law_deeds", "_law_deed"] ["_law_book_here", "_law_letter", "_law_word", "_law_tree"] (aq wx):=L2.aU
theorem Ct:au ["_law_numbers", "_law_alone", "_law_k"] ["_law_numbers", "_law_alone"] (aq wY):=L2.aU
theorem F9:au ["_law_book_here", "_law_sender", "_law_since", "_law_wishes", "_law_alone", "_law_numbers", "_law_many", "_law_word", "_law_tree", "_law_prices", "_law_letter", "_law_having", "_law_walker", "_law_last", "_law_given"] ["_law_book_here", "_law_sender", "_law_since", "_law_wishes"] (aq wH):=L2.aU
theorem K1:au ["_law_script", "_law_book_here", "_law_k", "_law_purse_here", "_law_sender", "_law_since", "_law_wishes"] ["_law_script"] (aq K2):=L2.aU
variable (P:Program) (w:World) {K:PySem.W.Frag}{mg:Str->Option Value} (base:Heap) {a:Ad}{aj:Tok}{af:Tok}{aa:Tok}(T:Tx K mg a aj af aa)(B:aO mg base)
include T B
theorem Lz:cF P w K mg base mD 1 a.FO a.G4 ["k"] (lY):=⟨λ_ _ _ _ h=>h.elim,λ_ _ _ _ _ _ _ _ _ _ _ _ _ h=>h.elim⟩
theorem Jr:d9 T.CD P w base 1 (Rp K):=by
 refine T.CD.F.ok Ga (λvs H Q E h=>?_) (λbP A outer s H vs Q E hr h=>?_)
 ·obtain ⟨a,ns,k,rfl,_⟩:=h;rfl
 ·have nd:=Ga.nd;have hu:=hr.units;obtain ⟨sa,ns,k,rfl,hS,hk,q⟩:=h;refine cy ?_;intro Y
  let B0:Bk Y ((ak w8).drop 5):=⟨_,(xf (xy (xv (wM (xb (xc (pv 3) (xc (xz gP (xz wJ (xz wJ (xz fB (pv 2) xh) (xz fB (pv 1) xh)) xh) xh) (xc xh xo rfl) rfl) rfl))))))⟩
  let B1:Bk Y ((ak w8).drop 3):=⟨_,(xf (xr (wG (xx pV (pv 2) xh (aE _)) (xf (xy (xt (i:=3) nd rfl rfl (xz cZ (L3 qo xh) (pv 2))))) wA) (xr (wG (xx Pf (pv 2) (xz iV xh xh) (aE _)) (xf (xy (xt (i:=3) nd rfl rfl (pv 2)))) wA) B0.bl)))⟩
  let B2:Bk Y ((ak w8).drop 1):=⟨_,(xf (xr (wG (xx pV (pv 1) (xw (xq rfl) (by rfl) T.bL PySem.boot_len (xb (xc (pv 0) xo rfl))) (aE _)) (xf (xy (xt (i:=2) nd rfl rfl (xu (xp rfl) (pv 0) (pv 1) (λ_ _=>rfl))))) wA) (xr (xt (i:=3) nd rfl rfl xh) B1.bl)))⟩
  refine ⟨_,(xf (xr (xt (i:=2) nd rfl rfl xh) B2.bl)),?_⟩;have c18:LK 10 18:=⟨by decide,by decide,by decide⟩;have s3:3<=sizeLine:=by rw [sizeLine_eq];decide
  have fin:∀ (x y:Int) p,H p=none->Q (.ref p) (upd H p (.lst [.int x,.int y,.int 0])):=λx y p hp=>q p _ hp ⟨x,y,0,xa⟩ (xi hp);have c69:∀ x:Int,NX x 69:=λx=>.inr ⟨by decide,by decide⟩;have acI:∀ x:Int,NX x 40503:=λx=>.inr ⟨by decide,by decide⟩;refine (zr rfl (zr rfl ⟨sa,zr rfl ⟨.inl hS,aJ rfl rfl (zr rfl (tU (fun σ H1=>∃ c:Int,σ=[some (.ref sa),some (.int k),some (.int c),none]/\H=H1) ?_ (λc k0=>?_) (λc=>⟨0,rfl,rfl⟩)))⟩⟩))
  ·rintro σ H1 ⟨c,rfl,rfl⟩;refine (zr rfl (aJ rfl rfl (zr rfl (tU (fun σ H1=>∃ d:Int,σ=[some (.ref sa),some (.int k),some (.int c),some (.int d)]/\H=H1) ?_ (λz k0=>?_) (λz=>⟨0,rfl,rfl⟩)))))
   ·rintro σ H1 ⟨d,rfl,rfl⟩;refine (zr rfl (aJ rfl rfl ⟨c18,aJ rfl rfl (zr rfl (tU (fun σ H1=>∃ d:Int,σ=[some (.ref sa),some (.int k),some (.int c),some (.int d)]/\H=H1) ?_ (λz k0=>(zr rfl (k0 _ _ ⟨c,rfl,rfl⟩))) (λz=>⟨d,rfl,rfl⟩)))⟩));rintro σ H1 ⟨d,rfl,rfl⟩;exact (zr rfl (zr rfl (aJ rfl rfl ⟨c69 _,zr rfl (aJ rfl rfl ⟨acI _,aJ rfl rfl (aJ rfl rfl (aJ rfl rfl ⟨(by show (0:Int) < 2147483647;decide),s3,fin _ _⟩))⟩)⟩)))
   ·exact (zr rfl (zr rfl (aJ rfl rfl (k0 _ _ (zr rfl rfl)))))
  ·have hk2:k < ns.length:=by
    have:=of_decide_eq_true c;rw [zA] at this;omega
   exact (zr rfl (zr rfl ⟨sa,_,aJ rfl rfl ⟨hS,wB (v:=V.int ns[k]) (by simp [hk2]),k0 _ _ (zr rfl rfl)⟩⟩))
theorem wd:d9 T.Ac P w base 1 (TU):=by
 refine T.Ac.F.ok GO (λvs H Q E h=>?_) (λbP A outer s H vs Q E hr h=>?_)
 ·obtain ⟨p,n,rfl,_⟩:=h;rfl
 ·have nd:=GO.nd;have hu:=hr.units;obtain ⟨p,n,rfl,n0,n1,⟨x,y,z,hp⟩,q⟩:=h;refine cy ?_;intro Y
  let B0:Bk Y ((ak qL).drop 3):=⟨_,(xf (xr (xt (i:=3) nd rfl rfl (xz gP (xz wJ (xz wJ (xz fB (pv 3) (pv 3)) (xz fB (xu (xp rfl) (pv 0) xh (λ_ _=>rfl)) xh)) (xu (xp rfl) (pv 0) xh (λ_ _=>rfl))) xh)) (xy (xv (xz gP (xz cV (xz gP (xz fB (pv 3) xh) xh) xh) (pv 1))))))⟩
  let B1:Bk Y ((ak qL).drop 2):=⟨_,(xf (xr (xt (i:=3) nd rfl rfl (xz gP (xz fB (xz wJ (xu (xp rfl) (pv 0) xh (λ_ _=>rfl)) (xz fB (xu (xp rfl) (pv 0) xh (λ_ _=>rfl)) xh)) xh) xh)) B0.bl))⟩
  let B2:Bk Y (nb (ak qL) 0):=⟨_,(xf (xr (xt (i:=2) nd rfl rfl (xz gP (xu (xp rfl) (pv 0) xh (λ_ _=>rfl)) (pv 1))) (xr (we (xz cV (xu (xp rfl) (pv 0) xh (λ_ _=>rfl)) (pv 1)) (j3 (pv 0) xh set_list)) (xy (xv (pv 2))))))⟩
  refine ⟨_,(xf (xr (wG (xx tE (xu (xp rfl) (pv 0) xh (λ_ _=>rfl)) xh (aE _)) B2.ps wA) (xr (LY (pv 0) xh (t7 rfl) xh PX set_list) B1.bl))),?_⟩;have hS:aG K H p _:=aG.of hp;have cm:∀ x c:Int,-(2 ^ 64) < c->c < 2 ^ 64->NX x c:=λx c h h'=>.inr ⟨h,h'⟩;refine (zr rfl ⟨p,_,aJ rfl rfl ⟨hS,rfl,aJ rfl rfl (zr rfl (gg (λh1=>?_) λh1=>?_))⟩⟩)
  ·refine (zr rfl ⟨p,_,aJ rfl rfl ⟨hS,rfl,zr rfl (aJ rfl rfl ⟨n0,?_⟩)⟩⟩);refine (zr rfl ⟨p,_,aJ rfl rfl ⟨hS,rfl,zr rfl (aJ rfl rfl ⟨⟨n0,n1⟩,zr rfl ⟨p,_,_,0,rfl,rfl,hp,rfl,?_⟩⟩)⟩⟩);exact (zr rfl (q _ _ (xW _ (by omega)) (xC _ n0) ⟨bN.set,_,_,_,xa⟩))
  ·refine (zr rfl ⟨p,_,aJ rfl rfl ⟨hS,rfl,aJ rfl rfl ⟨p,_,_,2,rfl,rfl,hp,rfl,?_⟩⟩⟩);have h2:(upd H p (HO.lst ([V.int x,V.int y,V.int z].set 2 (.int (z + 1))))) p=some (.lst [V.int x,V.int y,V.int (z + 1)]):=xa;have b2:bN p H (upd H p (HO.lst ([V.int x,V.int y,V.int z].set 2 (.int (z + 1))))):=bN.set;generalize upd H p (HO.lst ([V.int x,V.int y,V.int z].set 2 (.int (z + 1))))=H2 at h2 b2 ⊢;have U5:aG K H2 p _:=aG.of h2;have big:(2147483647:Int) < 2 ^ 64:=by decide
   have low:-(2:Int) ^ 64 < 0:=by decide
   have pos:(0:Int) < 2147483647:=by decide
   refine (zr rfl ⟨p,_,aJ rfl rfl ⟨U5,rfl,zr rfl ⟨p,_,aJ rfl rfl ⟨U5,rfl,aJ rfl rfl ⟨cm _ _ (by decide) (by decide),aJ rfl rfl (aJ rfl rfl ⟨cm _ _ (by decide) (by decide),aJ rfl rfl ⟨(by show (0:Int) < 2147483647;decide),?_⟩⟩)⟩⟩⟩⟩⟩);have m0:=xW ((y + (z + 1) * 362437) * 48271) (show (2147483647:Int)≠0 by decide);have m1:=xC ((y + (z + 1) * 362437) * 48271) pos;refine (zr rfl (zr rfl (aJ rfl rfl ⟨.inl ⟨Int.lt_of_lt_of_le low m0,Int.lt_trans m1 big⟩,zr rfl ⟨p,_,aJ rfl rfl ⟨U5,rfl,aJ rfl rfl ⟨cm _ _ (by decide) (by decide),aJ rfl rfl (zr rfl ⟨p,_,aJ rfl rfl ⟨U5,rfl,aJ rfl rfl (aJ rfl rfl ⟨(by show (0:Int) < 2147483629;decide),?_⟩)⟩⟩)⟩⟩⟩⟩)));refine (zr rfl (aJ rfl rfl ⟨cm _ _ (by decide) (by decide),aJ rfl rfl ⟨(by show (0:Int) < 2147483563;decide),aJ rfl rfl ⟨⟨by decide,by decide⟩,zr rfl (aJ rfl rfl ⟨n0,?_⟩)⟩⟩⟩));exact q _ _ (xW _ (by omega)) (xC _ n0) ⟨b2,_,_,_,h2⟩
theorem HY:d9 T.Eh P w base 2 (Wm):=by
 have Ab:=wd P w base T B;refine T.Eh.F.ok HR (λvs H Q E h=>?_) (λbP A outer s H vs Q E hr h=>?_)
 ·obtain ⟨p,rfl,_⟩:=h;rfl
 ·have nd:=HR.nd;have hu:=hr.units;obtain ⟨p,rfl,hp,q⟩:=h;refine cy ?_;intro Y
  let B0:Bk Y ((ak D5).drop 1):=⟨_,(xf (xy (xv (xz gP (xz wJ (xz fB (pv 1) xh) (bw Ab hr T.Ac (xb (xc (pv 0) (xc xh xo rfl) rfl)))) (xz wJ (xz iV xh xh) xh)))))⟩
  refine ⟨_,(xf (xr (xt (i:=1) nd rfl rfl (bw Ab hr T.Ac (xb (xc (pv 0) (xc xh xo rfl) rfl)))) B0.bl)),?_⟩;refine (zr rfl ⟨p,zr rfl ⟨by decide,by decide,hp,λd H1 d0 d1 g1=>(zr rfl (aJ rfl rfl ⟨.inr ⟨by decide,by decide⟩,zr rfl ⟨p,zr rfl ⟨by decide,by decide,g1.2,λe H2 e0 e1 g2=>(aJ rfl rfl (aJ rfl rfl ⟨⟨by decide,by decide,by decide⟩,aJ rfl rfl (aJ rfl rfl ⟨(by show (0:Int) < 10 ^ Int.toNat 9 + 1;decide),?_⟩)⟩))⟩⟩⟩))⟩⟩);have e9:(10:Int) ^ Int.toNat 9 + 1=1000000001:=by decide
  rw [e9];exact q _ _ (xW _ (by decide)) (Int.lt_add_one_iff.mp (xC _ (by decide))) (g1.trans g2)
theorem Jp:d9 T.Ef P w base 2 (Ro):=by
 have Ab:=wd P w base T B;refine T.Ef.F.ok F8 (λvs H Q E h=>?_) (λbP A outer s H vs Q E hr h=>?_)
 ·obtain ⟨p,n,rfl,_⟩:=h;rfl
 ·have nd:=F8.nd;have hu:=hr.units;obtain ⟨p,n,rfl,hn,hp,q⟩:=h;refine cy ?_;intro Y
  let B0:Bk Y ((nb (ak qQ) 1).drop 1):=⟨_,(xf (xr (wG (xx qB (pv 4) xh (aE _)) (xf (xy (xt (i:=4) nd rfl rfl (bw Ab hr T.Ac (xb (xc (pv 0) (xc xh xo rfl) rfl)))))) wA) (xy (wO (qP zQ zU zV wN (pv 2) (xb (xc (pv 4) xo rfl)))))))⟩
  let B1:Bk Y ((ak qQ).drop 1):=⟨_,(xf (xr (wZ PassesOwn.never rfl (qJ rfl T.cz (xb (xc (pv 1) xo rfl))) (xk (i:=3) nd rfl rfl) (xf (xr (xt (i:=4) nd rfl rfl (xz cV (bw Ab hr T.Ac (xb (xc (pv 0) (xc xh xo rfl) rfl))) xh)) B0.bl))) (xy (xv (cL (cT) (by rfl) T.iu yV (xb (xc (pv 2) xo rfl)))))))⟩
  refine ⟨_,(xf (xr (xt (i:=2) nd rfl rfl (wM wu)) B1.bl)),?_⟩;have line:1001<=sizeLine:=by rw [sizeLine_eq];decide
  refine ⟨zX _,λl hl=>?_⟩;have npl:=hp.ne hl;refine (zr rfl (zr rfl ⟨by omega,by omega,?_⟩));refine (let W1:IV:=λi σ H2=>∃ v3 v4 rs,σ=[some (.ref p),some (.int n),some (.ref l),v3,v4]/\H2 l=some (.lst (List.map V.int rs))/\rs.length=i/\(∀ r∈rs,(0:Int)<=r/\r<=99)/\Go p H H2;cN (lo:=0) (n:=n) W1)
   ⟨_,_,[],rfl,xa,rfl,(λ_ z=>nomatch z),(Go.refl hp).new hl⟩ ?_ ?_
  ·rintro i σ H2 hi ⟨v3,v4,rs,rfl,h2,hlen,hr,go⟩;refine (zr rfl ⟨p,zr rfl ⟨by decide,by decide,go.2,λd H3 d0 d1 g3=>(aJ rfl rfl ⟨⟨by decide,by decide⟩,?_⟩)⟩⟩);refine (zr rfl ⟨rfl,zr rfl (tU (fun σ H4=>∃ x:Int,σ=[some (.ref p),some (.int n),some (.ref l),some (.int (0 + (i:Int))),some (.int x)]/\0<=x/\x<=99/\Go p H2 H4) ?_ (λc k0=>(zr rfl ⟨p,zr rfl ⟨by decide,by decide,g3.2,λe H4 e0 e1 g4=>k0 _ _ ⟨e,rfl,e0,by omega,g3.trans g4⟩⟩⟩)) (λc=>(zr rfl ⟨by omega,by omega,g3⟩)))⟩);rintro σ H4 ⟨x,rfl,x0,x1,g4⟩;have h4:=g4.1 l _ npl h2;refine (zr rfl ⟨.inl ⟨rfl,_,aG.of h4⟩,zr rfl ⟨l,aJ rfl rfl ⟨h4,by rw [zA];omega,_,_,rs++[x],rfl,by rw [xa,zD];rfl,by simp [hlen],λr uF=>?_,?_⟩⟩⟩)
   ·rcases zT.mp uF with h | h
    ·exact hr r h
    ·cases zJ.mp h;exact ⟨x0,x1⟩
   ·have g2:=go.trans g4;refine ⟨λb u nb e=>?_,?_⟩
    ·rw [xl (xg e hl)];exact g2.1 b u nb e
    ·obtain ⟨a,b,c,e⟩:=g2.2;exact ⟨a,b,c,by rw [xl npl.symm];exact e⟩
  ·rintro σ H2 ⟨v3,v4,rs,rfl,h2,hlen,hr,go⟩;exact (zr rfl ⟨l,zr rfl (.inl ⟨aG.of h2,λt ht=>q t rs _ (go.new ht) xa hlen hr⟩)⟩)
theorem JQ:d9 T.E7 P w base 2 (TV):=by
 have Ab:=wd P w base T B;refine T.E7.F.ok GP (λvs H Q E h=>?_) (λbP A outer s H vs Q E hr h=>?_)
 ·obtain ⟨p,rfl,_⟩:=h;rfl
 ·have nd:=GP.nd;have hu:=hr.units;obtain ⟨p,rfl,hp,q⟩:=h;refine cy ?_;intro Y
  let B0:Bk Y ((ak Ca).drop 2):=⟨_,(xf (xr (wG (xx qB (pv 1) xh (aE _)) (xf (xy (xv (xz wJ xh (bw Ab hr T.Ac (xb (xc (pv 0) (xc xh xo rfl) rfl))))))) wA) (xy (xv (xz wJ xh (bw Ab hr T.Ac (xb (xc (pv 0) (xc (xz fB xh (xz iV xh xh)) xo rfl) rfl))))))))⟩
  let B1:Bk Y ((ak Ca).drop 1):=⟨_,(xf (xr (wG (xx pV (pv 1) xh (aE _)) (xf (xy (xv (xu (xp rfl) (wM (xb (xc xh (xc xh (xc xh xo rfl) rfl) rfl))) (pv 1) (λ_ _=>rfl))))) wA) B0.bl))⟩
  refine ⟨_,(xf (xr (xt (i:=1) nd rfl rfl (bw Ab hr T.Ac (xb (xc (pv 0) (xc xh xo rfl) rfl)))) B1.bl)),?_⟩;have s3:3<=sizeLine:=by rw [sizeLine_eq];decide
  refine (zr rfl ⟨p,zr rfl ⟨by decide,by decide,hp,λd H1 d0 d1 g1=>(zr rfl (aJ rfl rfl (zr rfl (gg (λh1=>?_) λh1=>?_))))⟩⟩)
  ·obtain ⟨v,hv,v0,v1⟩:∃ v:Int,dI [V.int 0,V.int 1,V.int 1] d=some (V.int v)/\0<=v/\v<=1:=by
    obtain rfl | rfl | rfl:d=0\/d=1\/d=2:=by omega
    ·exact ⟨0,rfl,by decide,by decide⟩
    ·exact ⟨1,rfl,by decide,by decide⟩
    ·exact ⟨1,rfl,by decide,by decide⟩
   exact ⟨s3,λl hl=>(zr rfl (cu xa hv (q _ _ v0 (by omega) (g1.new hl))))⟩
  ·refine (zr rfl ⟨rfl,zr rfl (gg (λh2=>?_) λh2=>?_)⟩)
   ·exact (zr rfl ⟨p,zr rfl ⟨by decide,by decide,g1.2,λe H2 e0 e1 g2=>(aJ rfl rfl (q _ _ (by omega) (by omega) (g1.trans g2)))⟩⟩)
   ·have e16:(16:Int) * 10 ^ Int.toNat 6=16000000:=by decide
    refine (zr rfl (aJ rfl rfl ⟨⟨by decide,by decide,by decide⟩,aJ rfl rfl ⟨.inl ⟨by decide,by decide⟩,p,zr rfl ⟨by decide,by decide,g1.2,λe H2 e0 e1 g2=>(aJ rfl rfl (q _ _ (by omega) (by rw [e16] at e1;omega) (g1.trans g2)))⟩⟩⟩))
theorem Hf:d9 T.Cn P w base 3 (uT):=by
 have Ab:=wd P w base T B;have Kn:=JQ P w base T B;refine T.Cn.F.ok DK (λvs H Q E h=>?_) (λbP A outer s H vs Q E hr h=>?_)
 ·obtain ⟨p,w,n,rfl,_⟩:=h;rfl
 ·have nd:=DK.nd;have hu:=hr.units;obtain ⟨p,w,n,rfl,hn,w9,hw,hp,q⟩:=h;refine cy ?_;intro Y
  let B0:Bk Y ((ak wF).drop 6):=⟨_,(xf (xy (xv (cL (cT) (by rfl) T.iu yV (xb (xc (wy (own:=["_law_when", "_law_one", "_law_other", "_law_passed"]) (caps:=[11]) rfl (show aI ["_law_when", "_law_one", "_law_other", "_law_passed"] [11] ["_law_purse_here", "_law_walkers", "_law_most", "_law_found", "_law_when", "_law_busy", "_law_k", "_law_one", "_law_other", "_law_gap", "_law_passed", "_law_late"] (aq wF) _ from L2.iz) (wX rfl (xw (ou) (by rfl) T.oB PyProof.Rows.boot_sorted (xb (xc (pv 3) xo rfl)))) (λ_ _ _ _=>(wE (n:=4) rfl rfl (xj (xk (i:=0) (show List.Nodup (["_law_when", "_law_one", "_law_other", "_law_passed", "_law_late"]:List Str) from by decide +kernel) rfl rfl) (xj (xk (i:=1) (show List.Nodup (["_law_when", "_law_one", "_law_other", "_law_passed", "_law_late"]:List Str) from by decide +kernel) rfl rfl) (xj (xk (i:=2) (show List.Nodup (["_law_when", "_law_one", "_law_other", "_law_passed", "_law_late"]:List Str) from by decide +kernel) rfl rfl) (xj (xk (i:=3) (show List.Nodup (["_law_when", "_law_one", "_law_other", "_law_passed", "_law_late"]:List Str) from by decide +kernel) rfl rfl) wD)))))) (λ_ _ _ _=>qG) (λ_ _ _ _=>(wS (xb (xc (pv 1) (xc (pv 2) (xc (xz wJ (pv 0) (pv 4)) (xc (pv 3) xo rfl) rfl) rfl) rfl))))) xo rfl))))))⟩
  let B1:Bk Y ((ak wF).drop 5):=⟨_,(xf (xr (wG (PW.pt (cY (xx qB (bw Ab hr T.Ac (xb (xc (pv 0) (xc xh xo rfl) rfl))) xh (aE _)) (cR (xx (Pc hu) (pv 3) (wM wu) (aE _))))) (xf (xy (xt (i:=11) nd rfl rfl (xz cZ (xz iV xh xh) (pv 4))))) wA) B0.bl))⟩
  let B2:Bk Y ((nb (ak wF) 3).drop 9):=⟨_,(xf (xy (wO (qP zQ zU zV wN (pv 3) (xb (xc (wS (xb (xc (pv 4) (xc (xw (ir rfl) (by rfl) T.qj yY (xb (xc (pv 7) (xc (pv 8) xo rfl) rfl))) (xc (xw (kI rfl) (by rfl) T.Qw PyProof.Rows.boot_max (xb (xc (pv 7) (xc (pv 8) xo rfl) rfl))) (xc (pv 10) xo rfl) rfl) rfl) rfl))) xo rfl))))))⟩
  let B3:Bk Y ((nb (ak wF) 3).drop 8):=⟨_,(xf (xr (wG (xx qB (bw Ab hr T.Ac (xb (xc (pv 0) (xc xh xo rfl) rfl))) xh (aE _)) (xf (xy (xt (i:=10) nd rfl rfl (xz wJ xh (bw Ab hr T.Ac (xb (xc (pv 0) (xc xh xo rfl) rfl))))))) wA) B2.bl))⟩
  let B4:Bk Y ((nb (ak wF) 3).drop 6):=⟨_,(xf (xr (xt (i:=5) nd rfl rfl (xz Pg (pv 5) (wM (xb (xc (pv 7) (xc (pv 8) xo rfl) rfl))))) (xr (xt (i:=10) nd rfl rfl (xz wJ xh (xz cV (bw Ab hr T.Ac (xb (xc (pv 0) (xc xh xo rfl) rfl))) xh))) B3.bl)))⟩
  let B5:Bk Y ((nb (ak wF) 3).drop 3):=⟨_,(xf (xr (wG (PW.pt (pQ (xx (fW rfl) (pv 7) (pv 5) rfl) (jY (xx (fW rfl) (pv 8) (pv 5) rfl)))) (xf (xy (xt (i:=9) nd rfl rfl (xw (kI rfl) (by rfl) T.Qw PyProof.Rows.boot_max (xb (xc xh (xc (pv 9) xo rfl) rfl)))))) wA) (xr (wG (xx tE (pv 9) xh (aE _)) (xf (xy (xt (i:=5) nd rfl rfl (wM wu)))) wA) (xr (xt (i:=4) nd rfl rfl (xz wJ (pv 4) (pv 9))) B4.bl))))⟩
  let B6:Bk Y ((nb (ak wF) 3).drop 1):=⟨_,(xf (xr (xt (i:=8) nd rfl rfl (xz gP (xz wJ (xz wJ (pv 7) xh) (bw Ab hr T.Ac (xb (xc (pv 0) (xc (xz cZ (pv 1) xh) xo rfl) rfl)))) (pv 1))) (xr (xt (i:=9) nd rfl rfl (bw Kn hr T.E7 (xb (xc (pv 0) xo rfl)))) B5.bl)))⟩
  let B7:Bk Y ((ak wF).drop 3):=⟨_,(xf (xr (wZ PassesOwn.never rfl (qJ rfl T.cz (xb (xc (pv 2) xo rfl))) (xk (i:=6) nd rfl rfl) (xf (xr (xt (i:=7) nd rfl rfl (bw Ab hr T.Ac (xb (xc (pv 0) (xc (pv 1) xo rfl) rfl)))) B6.bl))) (xr (xt (i:=11) nd rfl rfl xh) B1.bl)))⟩
  let B8:Bk Y ((ak wF).drop 1):=⟨_,(xf (xr (xt (i:=4) nd rfl rfl (xz wJ xh (xz fB (xz cV (bw Ab hr T.Ac (xb (xc (pv 0) (xc xh xo rfl) rfl))) xh) (bw Ab hr T.Ac (xb (xc (pv 0) (xc (xz iV xh xh) xo rfl) rfl)))))) (xr (xt (i:=5) nd rfl rfl (wM wu)) B7.bl)))⟩
  refine ⟨_,(xf (xr (xt (i:=3) nd rfl rfl (wM wu)) B8.bl)),?_⟩;have line:1001<=sizeLine:=by rw [sizeLine_eq];decide
  have c7:LK 10 7:=⟨by decide,by decide,by decide⟩;have e7:(10:Int) ^ Int.toNat 7=10000000:=by decide
  have e64:(2:Int) ^ 64 > 1000:=by decide
  have Sx:(2:Int) ^ 200 > 1000:=by decide
  refine ⟨zX _,λlf Mi=>?_⟩;have QJ:=hp.ne Mi;have UQ:bX (upd H lf (.lst [])) p:=hp.new Mi;refine (zr rfl ⟨p,zr rfl ⟨by decide,by decide,UQ,λd H1 d0 d1 g1=>(aJ rfl rfl ⟨⟨by decide,by decide⟩,zr rfl (aJ rfl rfl ⟨c7,?_⟩)⟩)⟩⟩);refine ⟨p,zr rfl ⟨by decide,by decide,g1.2,λd2 H2 d20 d21 g2=>(aJ rfl rfl ⟨.inl ⟨by omega,by omega⟩,aJ rfl rfl ?_⟩)⟩⟩;rw [e7] at d21;refine ⟨zX _,λlb QM=>?_⟩;have fr2:=g1.trans g2;have UU:H2 lf=some (.lst []):=fr2.1 lf _ QJ xa;have go0:Go p H H2:=((Go.refl hp).new Mi).trans fr2;refine (zr rfl (zr rfl ⟨by omega,by omega,?_⟩));have wh0:1<=1 + d / 2 * d2/\1 + d / 2 * d2<=10000000:=by
   obtain h | h:d / 2=0\/d / 2=1:=by omega
   ·rw [h];omega
   ·rw [h];omega
  refine cN (lo:=0) (n:=n) (Zx p lf w n H)
   ⟨_,_,_,_,_,_,lb,[],[],rfl,by rw [xl (xg UU QM)];exact UU,xa,(xg UU QM).symm,go0.2.ne QM,(λ_ z=>nomatch z),⟨(λ_ z=>nomatch z),.nil,(λ_ z=>nomatch z)⟩,rfl,by simp,wh0.1,(by have:=wh0.2;simpa using this),go0.new QM⟩ ?_ ?_
  ·rintro i σ H3 hi ⟨v6,v7,v8,v9,v10,wh,lb,bs,fs,rfl,U8,h3b,nbf,WS,Zl,F,PK,Uz,YJ,wh2,go⟩;have w2:2<=w:=by omega
   refine (zr rfl (zr rfl ⟨p,w,rfl,by omega,by omega,go.2,λone H4 o0 o1 g4=>?_⟩));refine (zr rfl (aJ rfl rfl (zr rfl (zr rfl (aJ rfl rfl ⟨p,zr rfl ⟨by omega,by omega,g4.2,λx H5 x0 x1 g5=>(aJ rfl rfl (zr rfl (aJ rfl rfl ⟨by omega,?_⟩)))⟩⟩)))));have ot:=Ug o0 o1 x0 x1;refine (zr rfl ⟨p,rfl,g5.2,λgap H6 ahP ahO g6=>?_⟩);have X8:=g4.trans (g5.trans g6);have hb6:=X8.1 lb _ WS h3b;have hf6:=X8.1 lf _ QJ U8;refine (zr rfl (zr rfl ⟨lb,zr rfl ⟨.inl (aG.of hb6),rfl,qb bs,zr rfl (abC (fun σ H7=>∃ gp:Int,σ=[some (.ref p),some (.int w),some (.int n),some (.ref lf),some (.int wh),some (.ref lb),some (.int (0 + (i:Int))),some (.int one),some (.int ((one + 1 + x) % w)),some (.int gp),v10,none]/\H6=H7/\0<=gp/\gp<=16000000/\(gp=0->one ∉ bs/\(one + 1 + x) % w ∉ bs)) ?_ (λc1 k0=>?_) (λc1 k0=>(zr rfl (zr rfl ⟨lb,zr rfl ⟨.inl (aG.of hb6),rfl,qb bs,zr rfl (lO (λc2=>?_) (λc2=>?_))⟩⟩))))⟩⟩))
   rotate_left
   ·exact (zr rfl (dh rfl (k0 _ _ (zr rfl ⟨rfl,by split <;> omega,by split <;> omega,λz=>by split at z <;> omega⟩))))
   ·exact (zr rfl (dh rfl (k0 _ _ (zr rfl ⟨rfl,by split <;> omega,by split <;> omega,λz=>by split at z <;> omega⟩))))
   ·have c1':one ∉ bs:=of_decide_eq_false (tV.symm.trans c1);have c2':(one + 1 + x) % w ∉ bs:=of_decide_eq_false (tV.symm.trans c2);exact k0 _ _ ⟨gap,rfl,rfl,by omega,by omega,λ_=>⟨c1',c2'⟩⟩
   rintro σ H7 ⟨gp,rfl,rfl,gp0,gp1,hg⟩;refine (zr rfl (aJ rfl rfl (zr rfl (tU (fun σ H7=>∃ ly bz,σ=[some (.ref p),some (.int w),some (.int n),some (.ref lf),some (.int wh),some (.ref ly),some (.int (0 + (i:Int))),some (.int one),some (.int ((one + 1 + x) % w)),some (.int gp),v10,none]/\Go p H3 H7/\H7 ly=some (.lst (List.map V.int bz))/\ly≠p/\bz.length<=2 * i/\∀ z∈bs,gp=0->z∈bz) ?_ (λc3 k0=>⟨zX _,λln S5=>k0 _ _ ⟨ln,[],rfl,X8.new S5,xa,X8.2.ne S5,zX _,λ_ _ z=>by have:=of_decide_eq_true c3;omega⟩⟩) (λc3=>⟨lb,bs,rfl,X8,hb6,WS,Uz,λ_ z _=>z⟩)))));rintro σ H7 ⟨ly,bz,rfl,gy,hyb,nyp,agp,QS⟩;have ahF:=gy.1 lf _ QJ U8;refine (zr rfl (zr rfl (aJ rfl rfl ?_)));refine (zr rfl (zr rfl (zr rfl ⟨by show 2<=sizeLine;omega,λl2 UW=>?_⟩)));have Zn:=gy.new (o:=HO.lst [V.int one,V.int ((one + 1 + x) % w)]) UW;have Xk:=xi (o:=HO.lst [V.int one,V.int ((one + 1 + x) % w)]) UW _ _ hyb;have h22:(upd H7 l2 (HO.lst [V.int one,V.int ((one + 1 + x) % w)])) l2=some (.lst [V.int one,V.int ((one + 1 + x) % w)]):=xa;generalize upd H7 l2 (HO.lst [V.int one,V.int ((one + 1 + x) % w)])=H8 at Zn Xk h22 ⊢;refine ⟨ly,l2,aJ rfl rfl ⟨Xk,h22,(by simp only [zA,zR,yT];omega),λl3 XE=>?_⟩⟩;have n3p:l3≠p:=Zn.2.ne XE;have n3f:l3≠lf:=(xg (Zn.1 lf _ QJ U8) XE).symm;have g3':=Zn.new (o:=HO.lst (List.map V.int bz++[V.int one,V.int ((one + 1 + x) % w)])) XE;have X5:(upd H8 l3 (HO.lst (List.map V.int bz++[V.int one,V.int ((one + 1 + x) % w)]))) l3=some (.lst (List.map V.int (bz++[one,(one + 1 + x) % w]))):=by rw [xa,zD];rfl
   generalize upd H8 l3 (HO.lst (List.map V.int bz++[V.int one,V.int ((one + 1 + x) % w)]))=H9 at g3' X5 ⊢;refine (zr rfl ⟨p,zr rfl ⟨by decide,by decide,g3'.2,λd4 VY d40 d41 se=>(aJ rfl rfl ⟨⟨by decide,by decide⟩,aJ rfl rfl ?_⟩)⟩⟩);refine (zr rfl ⟨p,zr rfl ⟨by decide,by decide,se.2,λd5 H11 d50 d51 g11=>⟨rfl,zr rfl (tU (fun σ VX=>∃ mm:Int,σ=[some (.ref p),some (.int w),some (.int n),some (.ref lf),some (.int (wh + gp)),some (.ref l3),some (.int (0 + (i:Int))),some (.int one),some (.int ((one + 1 + x) % w)),some (.int gp),some (.int mm),none]/\1<=mm/\mm<=99/\Go p H9 VX) ?_ (λc5 k0=>(zr rfl ⟨p,zr rfl ⟨by decide,by decide,g11.2,λd6 VX d60 d61 Zo=>(aJ rfl rfl (k0 _ _ (zr rfl ⟨by omega,by omega,(se.trans g11).trans Zo⟩)))⟩⟩)) (λc5=>(zr rfl ⟨by omega,by omega,se.trans g11⟩)))⟩⟩⟩);rintro σ VX ⟨mm,rfl,mm0,mm1,Zo⟩;have Vc:=g3'.trans Zo;have hz:=Vc.1 lf _ QJ U8;refine (zr rfl ⟨.inl ⟨rfl,_,aG.of hz⟩,zr rfl (zr rfl (zr rfl (dh rfl (zr rfl (zr rfl (dh rfl (zr rfl ⟨by show 4<=sizeLine;omega,λt ht=>⟨lf,aJ rfl rfl ⟨(by rw [xl (xg hz ht)];exact hz),(by rw [zA];omega),?_⟩⟩⟩)))))))⟩);exact Zx.step QJ Mi F PK (bs':=bz++[one,(one + 1 + x) % w]) (by simp only [zL,zR,yT];omega) YJ wh2 hz (Zo.1 l3 _ n3p X5) n3f n3p (λa ha=>Vc.aT go.2 _ _ (Zl a ha)) (go.trans Vc) ht gp0 gp1 o0 o1 ot.1 ot.2.1 ot.2.2 mm0 mm1 hg (λz hz1 hz2=>zY _ (QS z hz1 hz2)) (by simp) (by simp)
  ·rintro σ H3 ⟨v6,v7,v8,v9,v10,wh,lb,bs,fs,rfl,U8,h3b,nbf,WS,Zl,F,PK,Uz,YJ,wh2,go⟩;have c9:LK 10 9:=⟨by decide,by decide,by decide⟩;have e9:(10:Int) ^ Int.toNat 9=1000000000:=by decide
   refine (zr rfl ⟨p,zr rfl ⟨by decide,by decide,go.2,λd8 H4 _ _ g4=>⟨rfl,zr rfl (abE (fun σ H5=>∃ jk:Int,(∃ v6 v7 v8 v9 v10,σ=[some (.ref p),some (.int w),some (.int n),some (.ref lf),some (.int wh),some (.ref lb),v6,v7,v8,v9,v10,some (.int jk)])/\Go p H3 H5/\0<=jk/\(fs≠[]->wh + jk<=1000000000)) ?_ (λc k0=>?_) (λc=>⟨0,⟨_,_,_,_,_,rfl⟩,g4,ze _,λ_=>by omega⟩))⟩⟩⟩)
   rotate_left
   ·have U6:=g4.1 lf _ QJ U8;refine (zr rfl ⟨zX _,λl4 hl4=>⟨lf,l4,zr rfl ⟨rfl,aG.of (by rw [xl (xg U6 hl4)];exact U6),aG.of xa,zr rfl (lO (λc2=>?_) (λc2=>?_))⟩⟩⟩)
    ·exact (aJ rfl rfl ⟨c9,zr rfl (aJ rfl rfl (k0 _ _ ⟨_,⟨_,_,_,_,_,rfl⟩,g4.new hl4,by rw [e9];omega,λ_=>by rw [e9];omega⟩))⟩)
    ·exact k0 _ _ ⟨0,⟨_,_,_,_,_,rfl⟩,g4.new hl4,ze _,λ_=>by omega⟩
   rintro σ Hz ⟨jk,⟨v6',v7',v8',v9',afg,rfl⟩,gz,L0,L1⟩;have hz:=gz.1 lf _ QJ U8;refine (zr rfl ⟨lf,fs.map (λa=>(a.1,a.2.row)),rfl,?_,(by rw [zA];omega),(λa ha=>?_),λD qs hD pq sq=>?_⟩)
   ·rw [zg];exact aG.of hz
   ·obtain ⟨b,hb,rfl⟩:=zO.mp ha;exact ⟨gz.aT go.2 _ _ (Zl b hb),by intro z;cases z⟩
   obtain ⟨rs,VG,srs,rfl⟩:=M1 pq sq;refine ⟨D,rfl,⟨_,aG.of xa⟩,?_⟩;have lrs:rs.length=n:=by rw [VG.length_eq,PK]
   have hDl:(upd Hz D (HO.lst (List.map (λa=>V.ref a.1) (List.map (λa:Addr×M4=>(a.1,a.2.row)) rs)))) D=some (.lst (rs.map λa=>V.ref a.1)):=by rw [xa,zg];rfl
   have rD:=λa (ha:a∈rs)=>(bM.new (o:=HO.lst (List.map (λa=>V.ref a.1) (List.map (λa:Addr×M4=>(a.1,a.2.row)) rs))) hD) _ _ (gz.aT go.2 _ _ (Zl a (VG.mem_iff.mp ha)));have gD:=(go.trans gz).new (o:=HO.lst (List.map (λa=>V.ref a.1) (List.map (λa:Addr×M4=>(a.1,a.2.row)) rs))) hD;refine (let W2:IC:=λi τ acc H5=>∃ ps:List (Addr×M4),(∃ t0 t1 t2 t3,τ=[t0,t1,t2,t3,some (.int jk)])/\acc=(ps.map λa=>V.ref a.1)/\(ps.map (·.2))=((rs.take i).map λa=>a.2.jk jk)/\gc H5 ps/\ay (upd Hz D (HO.lst (List.map (λa=>V.ref a.1) (List.map (λa:Addr×M4=>(a.1,a.2.row)) rs)))) H5;qK (K:=K) (a:=D) (xs:=rs.map λa=>V.ref a.1) W2)
    ?_ (by rw [zA];omega) ?_ ?_ ?_
   ·exact ⟨[],⟨_,_,_,_,rfl⟩,rfl,rfl,(λ_ z=>nomatch z),ay.refl _⟩
   ·rintro i τ acc H6 ⟨ps,⟨t0,t1,t2,t3,rfl⟩,rfl,QW,rws,sm⟩;have:=congrArg List.length QW;rw [zA,zA,z8] at this;exact ⟨by rw [zA];omega,sm.seq (aG.of hDl)⟩
   ·rintro i x τ acc H5 C hx ⟨ps,⟨t0,t1,t2,t3,rfl⟩,rfl,QW,rws,sm⟩ hC;obtain ⟨r,hr,rfl⟩:=wQ hx;have cD:=sm _ _ (rD r (zC hr));refine (sI cD (zr rfl (zr rfl (zr rfl (zr rfl (aJ rfl rfl (zr rfl ⟨by show 4<=sizeLine;omega,λt ht=>hC _ _ _ ?_⟩)))))));refine ⟨ps++[(t,r.2.jk jk)],⟨_,_,_,_,rfl⟩,by rw [zD];rfl,by rw [zD,wK hr,zD,QW];rfl,λa ha=>?_,sm.trans (xi ht)⟩;rcases zT.mp ha with h | h
    ·exact xi ht _ _ (rws a h)
    ·cases zJ.mp h;exact xa
   ·rintro τ acc H6 ⟨ps,⟨t0,t1,t2,t3,rfl⟩,rfl,QW,rws,sm⟩ lt dU;refine ⟨lt,zr rfl (.inl ⟨aG.of xa,λt ht=>q t ps _ (((gD.same sm).new dU).new ht) xa ((rws.aT (bM.new dU)).aT (bM.new ht)) ?_ ?_⟩)⟩
    ·rw [QW,zA,yA];exact F.good (by omega) L0 L1 VG srs
    ·have:=congrArg List.length QW;rw [zA,zA,zA,yA] at this;omega
theorem JS:d9 T.E8 P w base 4 (T4):=by
 have Ab:=wd P w base T B;have Kb:=Jp P w base T B;have Ik:=Hf P w base T B;refine T.E8.F.ok GR (λvs H Q E h=>?_) (λbP A outer s H vs Q E hr h=>?_)
 ·obtain ⟨p,a,n,rfl,_⟩:=h;rfl
 ·have nd:=GR.nd;have hu:=hr.units;obtain ⟨p,aw,n,rfl,a1,a2,hn,hp,q⟩:=h;refine cy ?_;intro Y
  let B0:Bk Y ((ak Cb).drop 3):=⟨_,(xf (xy (xv (wS (xb (xc (bw Kb hr T.Ef (xb (xc (pv 0) (xc (pv 3) xo rfl) rfl))) (xc (bw Ik hr T.Cn (xb (xc (pv 0) (xc (pv 3) (xc (pv 4) xo rfl) rfl) rfl))) xo rfl) rfl))))))⟩
  let B1:Bk Y ((ak Cb).drop 1):=⟨_,(xf (xr (xt (i:=4) nd rfl rfl (bw Ab hr T.Ac (xb (xc (pv 0) (xc (xz wJ (pv 2) xh) xo rfl) rfl)))) (xr (wG (xx qB (pv 3) xh (aE _)) (xf (xy (xt (i:=4) nd rfl rfl xh))) wA) B0.bl)))⟩
  refine ⟨_,(xf (xr (xt (i:=3) nd rfl rfl (xz wJ xh (bw Ab hr T.Ac (xb (xc (pv 0) (xc (pv 1) xo rfl) rfl))))) B1.bl)),?_⟩;have line:1001<=sizeLine:=by rw [sizeLine_eq];decide
  have Sx:(2:Int) ^ 200 > 1000:=by decide
  refine (zr rfl (zr rfl ⟨p,aw,rfl,by omega,by omega,hp,λd H1 d0 d1 g1=>(aJ rfl rfl ?_)⟩));obtain ⟨k,rfl⟩:=zd d0;refine (zr rfl (zr rfl (aJ rfl rfl ⟨p,zr rfl ⟨by omega,by omega,g1.2,λe H2 e0 e1 g2=>?_⟩⟩)));obtain ⟨m,em⟩:=zd e0;have hm:m<=n:=by omega
  refine ⟨_,rfl,rfl,_,rfl,tU (fun σ H3=>∃ m:Nat,σ=[some (.ref p),some (.int aw),some (.int n),some (.int (1 + (k:Int))),some (.int m)]/\m<=n/\(m=0\/1<=k)/\Go p H H3) ?_ (λc k0=>k0 _ _ ⟨0,rfl,zX _,.inl rfl,g1.trans g2⟩) (λc=>⟨m,by rw [em];rfl,hm,.inr (by
    by_cases hk:k=0
    ·subst hk;exact absurd c (by simp)
    ·omega),g1.trans g2⟩)⟩
  rintro σ H2 ⟨m,rfl,hm,hk,g2⟩;refine (zr rfl (zr rfl ⟨p,1 + k,by simp,by omega,g2.2,λtr ah H3 g3 h3 l3 r3=>(zr rfl (zr rfl (zr rfl ⟨p,_,m,rfl,by omega,by omega,by omega,g3.2,λtm ps H4 g4 h4 r4 gd l4=>⟨by show 2<=sizeLine;omega,λb hb=>?_⟩⟩)))⟩));have h3':=g4.aT g3.2 _ _ h3;have tn:=bM.new (o:=HO.tup [V.ref tr,V.ref tm]) hb;refine q b ah tr tm ps _ ((g2.trans (g3.trans g4)).new hb) ⟨xa,tn _ _ h3',tn _ _ h4,r4.aT tn⟩ (by omega) (by omega) r3 ?_ (by omega);rw [l3];simpa using gd
theorem JP:d9 T.E6 P w base 3 (OA):=by
 have Ab:=wd P w base T B;have GB:=HY P w base T B;refine T.E6.F.ok GN (λvs H Q E h=>?_) (λbP A outer s H vs Q E hr h=>?_)
 ·obtain ⟨p,b,j,_,_,_,_,rfl,_⟩:=h;rfl
 ·have nd:=GN.nd;have hu:=hr.units;obtain ⟨p,b,j,ah,tr,tm,ps,rfl,hj,hb,gd,hp,q⟩:=h;refine cy ?_;intro Y
  let B0:Bk Y ((ak wl).drop 6):=⟨_,(xf (xy (xv (xz cZ (xu (wC rfl) (xu (wC rfl) (xu (wC rfl) (pv 1) xh (λ_ _=>rfl)) (pv 4) (λ_ _=>rfl)) xh (λ_ _=>rfl)) (xu (xp rfl) (wM (xb (xc xh (xc xh xo rfl) rfl))) (xz Ui (xz cV (bw Ab hr T.Ac (xb (xc (pv 0) (xc xh xo rfl) rfl))) xh) (pv 2)) (λ_ _=>rfl))))))⟩
  let B1:Bk Y (nb (ak wl) 5):=⟨_,(xf (xy (xt (i:=4) nd rfl rfl (xu (xp rfl) (wM (xb (xc (xz cV (pv 4) xh) (xc (xz cV (xz wJ (pv 4) (xw (xq rfl) (by rfl) T.bL PySem.boot_len (xb (xc (xu (wC rfl) (pv 1) xh (λ_ _=>rfl)) xo rfl)))) xh) xo rfl) rfl))) (pv 2) (λ_ _=>rfl)))))⟩
  let B2:Bk Y ((ak wl).drop 4):=⟨_,(xf (xr (xt (i:=4) nd rfl rfl (bw Ab hr T.Ac (xb (xc (pv 0) (xc (xw (xq rfl) (by rfl) T.bL PySem.boot_len (xb (xc (xu (wC rfl) (pv 1) xh (λ_ _=>rfl)) xo rfl))) xo rfl) rfl)))) (xr (wG (xx tE (pv 3) xh (aE _)) B1.ps wA) B0.bl)))⟩
  let B3:Bk Y ((ak wl).drop 3):=⟨_,(xf (xr (wG (xx (Na hu) (xu (wC rfl) (pv 1) xh (λ_ _=>rfl)) (wS wu) (aE _)) (xf (xy (xv (bw Ab hr T.Ac (xb (xc (pv 0) (xc xh xo rfl) rfl)))))) wA) B2.bl))⟩
  let B4:Bk Y ((ak wl).drop 1):=⟨_,(xf (xr (wG (xx qB (pv 3) xh (aE _)) (xf (xy (xv (xu (xp rfl) (wM (xb (xc xh (xc (xz iV xh xh) xo rfl) rfl))) (pv 2) (λ_ _=>rfl))))) wA) (xr (wG (xx qB (pv 3) xh (aE _)) (xf (xy (xv (bw GB hr T.Eh (xb (xc (pv 0) xo rfl)))))) wA) B3.bl)))⟩
  refine ⟨_,(xf (xr (xt (i:=3) nd rfl rfl (bw Ab hr T.Ac (xb (xc (pv 0) (xc xh xo rfl) rfl)))) B4.bl)),?_⟩;have line:=bD;have Sx:(2:Int) ^ 200 > 10000:=by decide
  have c9:LK 10 9:=⟨by decide,by decide,by decide⟩;have e9:(10:Int) ^ Int.toNat 9=1000000000:=by decide
  have W0:=gd.len;refine (zr rfl ⟨p,zr rfl ⟨by decide,by decide,hp,λway H1 w0 w1 g1=>?_⟩⟩);refine (zr rfl ⟨rfl,zr rfl (gg (λc=>?_) (λc=>(zr rfl ⟨rfl,zr rfl (gg (λc=>?_) (λc=>?_))⟩)))⟩)
  ·refine (aJ rfl rfl ⟨c9,by show 2<=sizeLine;omega,λl hl=>(zr rfl ?_)⟩);rcases hj with rfl | rfl
   ·exact (cu xa rfl (q _ _ (by omega) (by omega) (g1.new hl)))
   ·exact (cu xa rfl (q _ _ (by rw [e9];decide) (by rw [e9];decide) (g1.new hl)))
  ·exact (zr rfl ⟨p,rfl,g1.2,λd H2 d0 d1 g2=>q _ _ d0 d1 (g1.trans g2)⟩)
  have sd:=hb.aT (g1.aT hp);refine (zr rfl (fF sd.book rfl ⟨zX _,λu Xo=>?_⟩));have mw:=sd.aT (bM.new (o:=HO.tup []) Xo);have g2:=g1.new (o:=HO.tup []) Xo;refine ⟨tm,u,zr rfl ⟨rfl,bT.of mw.meets,bT.of xa,zr rfl (lO (λc2=>?_) (λc2=>?_))⟩⟩
  ·exact (zr rfl ⟨p,zr rfl ⟨by decide,by decide,g2.2,λd H3 d0 d1 g3=>q _ _ d0 (by omega) (g2.trans g3)⟩⟩)
  have lps:1<=ps.length:=by
   cases ps with
   | nil=>cases c2
   | cons _ _=>simp
  refine (zr rfl (zr rfl (fF mw.book rfl ⟨tm,zr rfl ⟨.inr (bT.of mw.meets),p,zr rfl ⟨by rw [zA];omega,by rw [zA];omega,g2.2,λd H3 d0 d1 g3=>?_⟩⟩⟩)));rw [zA] at d1;have Zj:=mw.aT (g3.aT g2.2);have gg3:=g2.trans g3;refine (zr rfl (aJ rfl rfl (zr rfl (gg (λc3=>?_) (λc3=>?_)))))
  ·refine (zr rfl (aJ rfl rfl ⟨⟨by decide,by decide⟩,zr rfl (zr rfl (fF Zj.book rfl ⟨tm,zr rfl ⟨.inr (bT.of Zj.meets),aJ rfl rfl (aJ rfl rfl ⟨⟨by decide,by decide⟩,by show 2<=sizeLine;omega,λl hl=>(zr rfl ?_)⟩)⟩⟩))⟩));have gx:=gg3.new (o:=HO.lst [V.int (d / 2),V.int ((d + ((ps.map λa=>V.ref a.1).length:Int)) / 2)]) hl;have hx:=Zj.aT (bM.new (o:=HO.lst [V.int (d / 2),V.int ((d + ((ps.map λa=>V.ref a.1).length:Int)) / 2)]) hl);obtain ⟨k,ek,hk⟩:∃ k:Nat,dI [V.int (d / 2),V.int ((d + ((ps.map λa=>V.ref a.1).length:Int)) / 2)] j=some (V.int (k:Int))/\k < ps.length:=by
    rcases hj with rfl | rfl
    ·obtain ⟨k,hk⟩:=zd (show 0<=d / 2 by omega);exact ⟨k,by rw [<-hk];rfl,by omega⟩
    ·obtain ⟨k,hk⟩:=zd (show 0<=(d + ((ps.map λa=>V.ref a.1).length:Int)) / 2 by omega);refine ⟨k,by rw [<-hk];rfl,?_⟩;rw [zA] at hk;omega
   refine (cu xa ek ?_);refine (zr rfl (fF hx.book rfl (zr rfl (fF hx.meets (wB (v:=V.ref ps[k].1) (by simp [hk])) (fF (hx.rows _ (zh hk)) rfl ⟨by show 2<=sizeLine;omega,λl9 XD=>?_⟩)))));have g9:=gx.new (o:=HO.lst [V.int 1,V.int 0]) XD;refine (zr rfl ⟨p,zr rfl ⟨by decide,by decide,g9.2,λe H9 e0 e1 se=>(aJ rfl rfl ⟨⟨by decide,by decide⟩,zr rfl (aJ rfl rfl ?_)⟩)⟩⟩);have h9:=se.1 l9 _ (gx.2.ne XD) xa;have tb:=gd.at (zh hk);have bx:(e / 3=0\/e / 3=1):=by omega
   rcases hj with rfl | rfl <;> rcases bx with bx | bx <;> rw [bx]
   ·exact (cu h9 (by decide:dI [V.int 1,V.int 0] (Builtin.bitXor 0 0)=some (V.int 1)) (aJ rfl rfl (q _ _ (by omega) (by omega) (g9.trans se))))
   ·exact (cu h9 (by decide:dI [V.int 1,V.int 0] (Builtin.bitXor 1 0)=some (V.int 0)) (aJ rfl rfl (q _ _ (by omega) (by omega) (g9.trans se))))
   ·exact (cu h9 (by decide:dI [V.int 1,V.int 0] (Builtin.bitXor 0 1)=some (V.int 0)) (aJ rfl rfl (q _ _ (by omega) (by omega) (g9.trans se))))
   ·exact (cu h9 (by decide:dI [V.int 1,V.int 0] (Builtin.bitXor 1 1)=some (V.int 1)) (aJ rfl rfl (q _ _ (by omega) (by omega) (g9.trans se))))
  ·have gx:=gg3;have hx:=Zj;obtain ⟨k,rfl⟩:=zd d0;have hk:k < ps.length:=by omega
   refine (zr rfl (fF hx.book rfl (zr rfl (fF hx.meets (wB (v:=V.ref ps[k].1) (by simp [hk])) (fF (hx.rows _ (zh hk)) rfl ⟨by show 2<=sizeLine;omega,λl9 XD=>?_⟩)))));have g9:=gx.new (o:=HO.lst [V.int 1,V.int 0]) XD;refine (zr rfl ⟨p,zr rfl ⟨by decide,by decide,g9.2,λe H9 e0 e1 se=>(aJ rfl rfl ⟨⟨by decide,by decide⟩,zr rfl (aJ rfl rfl ?_)⟩)⟩⟩);have h9:=se.1 l9 _ (gx.2.ne XD) xa;have tb:=gd.at (zh hk);have bx:(e / 3=0\/e / 3=1):=by omega
   rcases hj with rfl | rfl <;> rcases bx with bx | bx <;> rw [bx]
   ·exact (cu h9 (by decide:dI [V.int 1,V.int 0] (Builtin.bitXor 0 0)=some (V.int 1)) (aJ rfl rfl (q _ _ (by omega) (by omega) (g9.trans se))))
   ·exact (cu h9 (by decide:dI [V.int 1,V.int 0] (Builtin.bitXor 1 0)=some (V.int 0)) (aJ rfl rfl (q _ _ (by omega) (by omega) (g9.trans se))))
   ·exact (cu h9 (by decide:dI [V.int 1,V.int 0] (Builtin.bitXor 0 1)=some (V.int 0)) (aJ rfl rfl (q _ _ (by omega) (by omega) (g9.trans se))))
   ·exact (cu h9 (by decide:dI [V.int 1,V.int 0] (Builtin.bitXor 1 1)=some (V.int 1)) (aJ rfl rfl (q _ _ (by omega) (by omega) (g9.trans se))))
theorem HX:d9 T.D8 P w base 1 (Rl):=by
 refine T.D8.F.ok HN (λvs H Q E h=>?_) (λbP A outer s H vs Q E hr h=>?_)
 ·obtain ⟨x,t,rfl,_⟩:=h;rfl
 ·have nd:=HN.nd;have hu:=hr.units;obtain ⟨x,t,rfl,ht,k⟩:=h;refine ⟨_,(xf (xy (xv (fz (xw (fc) (by rfl) T.dB PyProof.Rows.boot_isinstance (xb (xc (pv 0) (xc (mh (v:=V.ty "int") rfl T.Yr PyProof.Rows.boot_int rfl) xo rfl) rfl))) (j4 (Ue (xw (fc) (by rfl) T.dB PyProof.Rows.boot_isinstance (xb (xc (pv 0) (xc (mh (v:=V.ty "bool") rfl T.Vq PyProof.Rows.boot_bool rfl) xo rfl) rfl))))))))),?_⟩;simp only [NF,t8,Qa,Ol,Wh,je,P9,sQ,Xe,rU,vf,M3,sX,sM,uQ,Ou,Oo,Rg,TF,LU,rI,uO,tC,lu,pL,VD,mO,sO,sR,Rf,sN,kQ,pJ,tB,Oq,Ow,Wa,sP,WG,WD,MY,VF,Wu,Wv,jR,Om,Ot,V8,ja,pK,nY,L2.start,zZ,yG,zR,yT,Nat.reduceAdd,Nat.reduceSub,List.replicate,xO,xV,yj,yb,yc,Option.some.injEq,exists_eq_left',exists_eq_left,exists_and_left,and_assoc,V.int.injEq,V.ty.injEq,V.str.injEq,V.bl.injEq,V.ref.injEq,List.cons.injEq,and_true,true_and,xF,xG];simp only [V.ty.injEq,ht,Option.some.injEq,exists_eq_left',exists_and_left,true_or,or_true,true_and];rcases qp ht with rfl | rfl | rfl | rfl | rfl | rfl | rfl <;> simpa [PV] using k
theorem CF:d9 T.Bo P w base 2 (Ox):=by
 have Gz:=HX P w base T B;refine T.Bo.F.ok GK (λvs H Q E h=>?_) (λbP A outer s H vs Q E hr h=>?_)
 ·obtain ⟨x,t,lo,hi,rfl,_⟩:=h;rfl
 ·have nd:=GK.nd;have hu:=hr.units;obtain ⟨x,t,lo,hi,rfl,ht,k⟩:=h;refine ⟨_,(xf (xy (xv (fz (bw Gz hr T.D8 (xb (xc (pv 0) xo rfl))) (j4 (O4 ji ji (pv 1) (pv 0) (pv 2))))))),?_⟩;simp only [NF,t8,Qa,Ol,Wh,je,P9,sQ,Xe,rU,vf,M3,sX,sM,uQ,Ou,Oo,Rg,TF,LU,rI,uO,tC,lu,pL,VD,mO,sO,sR,Rf,sN,kQ,pJ,tB,Oq,Ow,Wa,sP,WG,WD,MY,VF,Wu,Wv,jR,Om,Ot,V8,ja,pK,nY,L2.start,zZ,yG,zR,yT,Nat.reduceAdd,Nat.reduceSub,List.replicate,xO,xV,yj,yb,yc,Option.some.injEq,exists_eq_left',exists_eq_left,exists_and_left,and_assoc,V.int.injEq,V.ty.injEq,V.str.injEq,V.bl.injEq,V.ref.injEq,List.cons.injEq,and_true,true_and,xF,xG];refine ⟨x,t,rfl,ht,zr rfl ?_⟩;by_cases h:t = "int"
  ·subst h;obtain ⟨i,rfl⟩:=Q8 ht;simp only [NF,t8,Qa,Ol,Wh,je,P9,sQ,Xe,rU,vf,M3,sX,sM,uQ,Ou,Oo,Rg,TF,LU,rI,uO,tC,lu,pL,VD,mO,sO,sR,Rf,sN,kQ,pJ,tB,Oq,Ow,Wa,sP,WG,WD,MY,VF,Wu,Wv,jR,Om,Ot,V8,ja,pK,nY,L2.start,zZ,yG,zR,yT,Nat.reduceAdd,Nat.reduceSub,List.replicate,xO,xV,yj,yb,yc,Option.some.injEq,exists_eq_left',exists_eq_left,exists_and_left,and_assoc,V.int.injEq,V.ty.injEq,V.str.injEq,V.bl.injEq,V.ref.injEq,List.cons.injEq,and_true,true_and,xF,xG];by_cases h1:lo<=i
   ·simpa [h1,oX] using k
   ·simpa [h1,oX] using k
  ·rw [UM ht h] at k;simpa [h] using k
theorem Kt:d9 T.FG P w base 3 (TR):=by
 have AW:=CF P w base T B;refine T.FG.F.ok Ir (λvs H Q E h=>?_) (λbP A outer s H vs Q E hr h=>?_)
 ·obtain ⟨x,t,rfl,_⟩:=h;rfl
 ·have nd:=Ir.nd;have hu:=hr.units;obtain ⟨x,t,rfl,ht,k⟩:=h;refine ⟨_,(xf (xy (xv (bw AW hr T.Bo (xb (xc (pv 0) (xc xh (xc (qW (v:=V.int 1000000000) rfl T.uv ⟨_,rfl⟩) xo rfl) rfl) rfl)))))),?_⟩;simp only [NF,t8,Qa,Ol,Wh,je,P9,sQ,Xe,rU,vf,M3,sX,sM,uQ,Ou,Oo,Rg,TF,LU,rI,uO,tC,lu,pL,VD,mO,sO,sR,Rf,sN,kQ,pJ,tB,Oq,Ow,Wa,sP,WG,WD,MY,VF,Wu,Wv,jR,Om,Ot,V8,ja,pK,nY,L2.start,zZ,yG,zR,yT,Nat.reduceAdd,Nat.reduceSub,List.replicate,xO,xV,yj,yb,yc,Option.some.injEq,exists_eq_left',exists_eq_left,exists_and_left,and_assoc,V.int.injEq,V.ty.injEq,V.str.injEq,V.bl.injEq,V.ref.injEq,List.cons.injEq,and_true,true_and,xF,xG];exact ⟨x,t,dh rfl ⟨ht,k⟩⟩
theorem Fa:d9 T.C1 P w base 1 (Rt):=by
 refine T.C1.F.ok HP (λvs H Q E h=>?_) (λbP A outer s H vs Q E hr h=>?_)
 ·obtain ⟨o,t,rfl,_⟩:=h;rfl
 ·have nd:=HP.nd;have hu:=hr.units;obtain ⟨o,t,rfl,q⟩:=h;refine ⟨_,(xf (xy (xv (fz (O3 (mj (pv 0))) (j4 (jg pV (pv 0) (pv 1) (aE _))))))),?_⟩;cases o with
  | none=>exact (zr rfl (zr rfl (aF rfl q)))
  | some y=>exact (zr rfl (zr rfl (bH rfl (zr rfl (zr rfl (aJ rfl rfl q))))))
theorem Gg:d9 T.DO P w base 1 (TQ):=by
 refine T.DO.F.ok Iq (λvs H Q E h=>?_) (λbP A outer s H vs Q E hr h=>?_)
 ·obtain ⟨o,t,rfl,_⟩:=h;rfl
 ·have nd:=Iq.nd;have hu:=hr.units;obtain ⟨o,t,rfl,q⟩:=h;refine ⟨_,(xf (xy (xv (fz (O3 (mj (pv 0))) (j4 (jg ji (pv 0) (pv 1) (aE _))))))),?_⟩;cases o with
  | none=>exact (zr rfl (zr rfl (aF rfl q)))
  | some y=>exact (zr rfl (zr rfl (bH rfl (zr rfl (zr rfl (aJ rfl rfl q))))))
theorem E9:d9 T.A5 P w base 3 (uX):=by
 have AW:=CF P w base T B;refine T.A5.F.ok BW (λvs H Q E h=>?_) (λbP A outer s H vs Q E hr h=>?_)
 ·obtain ⟨b,x,t,_,_,_,_,rfl,_⟩:=h;rfl
 ·have nd:=BW.nd;have hu:=hr.units;obtain ⟨b,x,t,ah,tr,tm,ps,rfl,hb,ht,q⟩:=h;refine ⟨_,(xf (xy (xv (bw AW hr T.Bo (xb (xc (pv 1) (xc xh (xc (xz cZ (xw (xq rfl) (by rfl) T.bL PySem.boot_len (xb (xc (xu (wC rfl) (pv 0) xh (λ_ _=>rfl)) xo rfl))) xh) xo rfl) rfl) rfl)))))),?_⟩;refine (zr rfl (zr rfl (fF hb.book rfl ⟨tm,zr rfl ⟨.inr (bT.of hb.meets),aJ rfl rfl ⟨x,t,dh rfl ⟨ht,?_⟩⟩⟩⟩)));rw [zA];exact q
theorem JO:d9 T.Dj P w base 3 (uV):=by
 have AW:=CF P w base T B;refine T.Dj.F.ok GL (λvs H Q E h=>?_) (λbP A outer s H vs Q E hr h=>?_)
 ·obtain ⟨b,x,t,_,_,_,_,rfl,_⟩:=h;rfl
 ·have nd:=GL.nd;have hu:=hr.units;obtain ⟨b,x,t,ah,tr,tm,ps,rfl,hb,ht,q⟩:=h;refine ⟨_,(xf (xy (xv (bw AW hr T.Bo (xb (xc (pv 1) (xc xh (xc (xz cZ (xw (xq rfl) (by rfl) T.bL PySem.boot_len (xb (xc (xu (wC rfl) (pv 0) xh (λ_ _=>rfl)) xo rfl))) xh) xo rfl) rfl) rfl)))))),?_⟩;refine (zr rfl (zr rfl (fF hb.book rfl ⟨tr,zr rfl ⟨.inr (bT.of hb.ah),aJ rfl rfl ⟨x,t,dh rfl ⟨ht,?_⟩⟩⟩⟩)));rw [zA];exact q
theorem IF:d9 T.FH P w base 1 (OJ):=by
 refine T.FH.F.ok Iv (λvs H Q E h=>?_) (λbP A outer s H vs Q E hr h=>?_)
 ·obtain ⟨b,t,_,_,_,_,rfl,_⟩:=h;rfl
 ·have nd:=Iv.nd;have hu:=hr.units;obtain ⟨b,t,ah,tr,tm,ps,rfl,hb,hn,q⟩:=h;refine ⟨_,(xf (xy (xv (xw (xq rfl) (by rfl) T.bL PySem.boot_len (xb (xc (wy (own:=["meeting"]) (caps:=[1]) rfl (show aI ["meeting"] [1] ["book", "time"] (aq FF) _ from L2.iz) (gJ rfl (xu (wC rfl) (pv 0) xh (λ_ _=>rfl))) (λ_ _ _ _=>(xk (i:=0) (show List.Nodup (["meeting", "time"]:List Str) from by decide +kernel) rfl rfl)) (λ_ _ _ _=>lZ (xx ji (xu (wC rfl) (pv 0) xh (λ_ _=>rfl)) (pv 1) (aE _))) (λ_ _ _ _=>(pv 0))) xo rfl)))))),?_⟩;refine (zr rfl (fF hb.book rfl ⟨tm,rfl,⟨_,bT.of hb.meets⟩,?_⟩));refine (let W3:IC:=λi τ acc H5=>(∃ t0,τ=[t0,some (.int t)])/\acc.length=cnt ((ps.map (·.2)).take i) t/\acc.length<=i/\ay H H5;jv (K:=K) (a:=tm) (xs:=ps.map λa=>V.ref a.1) W3)
   ?_ (by rw [zA];omega) ?_ ?_ ?_
  ·exact ⟨⟨_,rfl⟩,rfl,zE _,ay.refl _⟩
  ·rintro i τ acc H5 ⟨⟨t0,rfl⟩,_,le,sm⟩;exact ⟨le,bT.of (sm _ _ hb.meets)⟩
  ·rintro i x τ acc H5 C hx ⟨⟨t0,rfl⟩,ec,le,sm⟩ hC;obtain ⟨r,hr,rfl⟩:=wQ hx;have cD:=sm _ _ (hb.rows r (zC hr));have hm:(ps.map (·.2))[i]?=some r.2:=by rw [zF,hr];rfl
   refine (zr rfl (fF cD rfl (zr rfl (aJ rfl rfl (zr rfl (gg (λc=>(zr rfl (hC _ _ _ ?_))) (λc=>hC _ _ _ ?_)))))))
   ·exact ⟨⟨_,rfl⟩,by rw [uo hm,if_pos c,zL,ec];rfl,by rw [zL];exact yw le,sm⟩
   ·exact ⟨⟨_,rfl⟩,by rw [uo hm,if_neg c,ec];rfl,by omega,sm⟩
  ·rintro τ acc H5 ⟨⟨t0,rfl⟩,ec,le,sm⟩ l hl;have e:(ps.map λa=>V.ref a.1).length=(ps.map (·.2)).length:=by simp
   rw [e,yA] at ec;refine ⟨l,zr rfl ⟨.inl (aG.of xa),?_⟩⟩;rw [ec];exact q _ (sm.trans (xi hl))
theorem JM:d9 T.Iz P w base 1 (TN):=by
 refine T.Iz.F.ok KG (λvs H Q E h=>?_) (λbP A outer s H vs Q E hr h=>?_)
 ·obtain ⟨b,_,_,_,_,rfl,_⟩:=h;rfl
 ·have nd:=KG.nd;have hu:=hr.units;obtain ⟨b,ah,tr,tm,ps,rfl,hb,gd,q⟩:=h;refine cy ?_;intro Y
  let B0:Bk Y ((nb (ak Hb) 1).drop 1):=⟨_,(xf (xy (wO (qP zQ zU zV wN (pv 1) (xb (xc (wS (xb (xc (pv 2) (xc (pv 4) (xc (pv 3) (xc (pv 5) xo rfl) rfl) rfl) rfl))) xo rfl))))))⟩
  let B1:Bk Y (nb (ak Hb) 1):=⟨_,(xf (xr (wO (qP zQ zU zV wN (pv 1) (xb (xc (wS (xb (xc (pv 2) (xc (pv 3) (xc (pv 4) (xc (pv 5) xo rfl) rfl) rfl) rfl))) xo rfl)))) B0.bl))⟩
  let B2:Bk Y ((ak Hb).drop 1):=⟨_,(xf (xr (wZ PassesOwn.never rfl (O0 rfl rfl T.cC (xb (xc (xu (wC rfl) (pv 0) xh (λ_ _=>rfl)) xo rfl))) (wE (n:=2) rfl rfl (xj (xk (i:=2) nd rfl rfl) (xj (wE (n:=4) rfl rfl (xj (xk (i:=3) nd rfl rfl) (xj (xk (i:=4) nd rfl rfl) (xj (xk (i:=5) nd rfl rfl) (xj (xk (i:=6) nd rfl rfl) wD))))) wD))) B1.ps) (xy (xv (pv 1)))))⟩
  refine ⟨_,(xf (xr (xt (i:=1) nd rfl rfl (wM wu)) B2.bl)),?_⟩;have line:=bD;have W0:=gd.len;refine ⟨zX _,λl hl=>?_⟩;have sd:=hb.same (xi (o:=HO.lst []) hl);refine (zr rfl (fF sd.book rfl ⟨tm,rfl,⟨_,bT.of sd.meets⟩,?_⟩));refine (let W4:IV:=λi σ H4=>(∃ v2 v3 v4 v5 v6,σ=[some (.ref b),some (.ref l),v2,v3,v4,v5,v6])/\ay H H4/\∃ ws:List (Addr×W4),H4 l=some (.lst (ws.map λa=>V.ref a.1))/\(∀ a∈ws,H4 a.1=some (.tup a.2.vs))/\ws.map (·.2)=dJ (ps.map (·.2)) i/\ws.length=2 * i;NH (K:=K) (a:=tm) (xs:=ps.map λa=>V.ref a.1) W4)
   ⟨⟨_,_,_,_,_,rfl⟩,xi hl,[],xa,(λ_ z=>nomatch z),rfl,rfl⟩ (λi σ H4 _ h4=>bT.of ((hb.same h4.2.1).meets)) ?_ ?_
  ·rintro i x q' σ H4 hx hq ⟨⟨v2,v3,v4,v5,v6,rfl⟩,sm,ws,h4,hr,ew,lw⟩;obtain ⟨r,rZ,rfl⟩:=wQ hx;have hi:i < ps.length:=(zB.mp rZ).1;have hm:(ps.map (·.2))[i]?=some r.2:=by rw [zF,rZ];rfl
   obtain ⟨a1,a2,a3,a4,a5,_⟩:=gd.at (zC rZ);have kR:=sm.trans (xi (o:=HO.tup [.int i,.ref r.1]) hq);have cD:=(hb.same kR).rows r (zC rZ);have h5:=(xi (o:=HO.tup [.int i,.ref r.1]) hq) _ _ h4;refine ⟨q',zr rfl ⟨bT.of xa,rfl,dh rfl (dh rfl (sI cD ⟨rfl,?_⟩))⟩⟩;refine (zr rfl ⟨.inl ⟨rfl,_,aG.of h5⟩,zr rfl (zr rfl (zr rfl (zr rfl ⟨by show 4<=sizeLine;omega,λt1 Nx=>⟨l,aJ rfl rfl ⟨xi Nx _ _ h5,by rw [zA];omega,?_⟩⟩⟩)))⟩);have n1:t1≠l:=(xg h5 Nx).symm;refine (zr rfl ⟨.inl ⟨rfl,_,aG.of xa⟩,zr rfl (zr rfl (zr rfl (zr rfl ⟨by show 4<=sizeLine;omega,λt2 oQ=>⟨l,aJ rfl rfl ⟨xi oQ _ _ xa,by rw [zL,zA];show ws.length + 1 < sizeLine;omega,?_⟩⟩⟩)))⟩);have n2:t2≠l:=λz=>by rw [z,xa] at oQ;cases oQ
   have n12:t1≠t2:=λz=>by rw [<-z,xl n1,xa] at oQ;cases oQ
   have e1:(r.2.lo.toNat:Int)=r.2.lo:=yt a1;have e2:(r.2.hi.toNat:Int)=r.2.hi:=yt (by omega);have jJ:ay H (upd (upd (upd (upd (upd H4 q' (.tup [.int i,.ref r.1])) t1 (.tup [.int i,.int r.2.lo,.int r.2.hi,.int r.2.t])) l (.lst ((ws.map λa=>V.ref a.1)++[.ref t1]))) t2 (.tup [.int i,.int r.2.hi,.int r.2.lo,.int r.2.t])) l (.lst ((ws.map λa=>V.ref a.1)++[.ref t1]++[.ref t2]))):=
    ay.put hl ((ay.put hl (kR.trans (xi Nx))).trans (xi oQ))
   refine ⟨⟨_,_,_,_,_,rfl⟩,jJ,ws++[(t1,⟨i,⟨r.2.lo.toNat,r.2.hi.toNat,r.2.t⟩⟩),(t2,⟨i,⟨r.2.hi.toNat,r.2.lo.toNat,r.2.t⟩⟩)],?_,λa ha=>?_,?_,?_⟩
   ·rw [xa,zD,List.append_assoc];rfl
   ·rcases zT.mp ha with h | h
    ·have:=hr a h;have na:a.1≠l:=wU this h4 (by intro z;cases z);have b1:=xi (o:=HO.tup [.int i,.ref r.1]) hq _ _ this;have b2:=xi (o:=HO.tup [.int i,.int r.2.lo,.int r.2.hi,.int r.2.t]) Nx _ _ b1;rw [xl na];exact xi oQ _ _ (by rw [xl na];exact b2)
    ·simp only [zN,yZ,or_false] at h;rcases h with rfl | rfl
     ·rw [xl n1];refine xi oQ _ _ ?_;rw [xl n1,xa];show _=some (HO.tup [.int i,.int (r.2.lo.toNat:Int),.int (r.2.hi.toNat:Int),.int r.2.t]);rw [e1,e2]
     ·rw [xl n2,xa];show _=some (HO.tup [.int i,.int (r.2.hi.toNat:Int),.int (r.2.lo.toNat:Int),.int r.2.t]);rw [e1,e2]
   ·rw [zD,ew,mH hm];rfl
   ·rw [zL,lw];show 2 * i + 2=_;omega
  ·rintro σ H4 ⟨⟨v2,v3,v4,v5,v6,rfl⟩,sm,ws,h4,hr,ew,lw⟩;rw [zA] at ew;exact (zr rfl (q l ws _ hl sm h4 hr ew))
theorem Cc:d9 T.Bi P w base 1 (MS):=by
 refine T.Bi.F.ok HK (λvs H Q E h=>?_) (λbP A outer s H vs Q E hr h=>?_)
 ·obtain ⟨b,k,v,_,_,_,_,_,rfl,_⟩:=h;rfl
 ·have nd:=HK.nd;have hu:=hr.units;obtain ⟨b,k,v,ah,tr,tm,ps,m,rfl,hb,hm,q⟩:=h;refine ⟨_,(xf (xr (we (xu (wC rfl) (xu (wC rfl) (pv 0) xh (λ_ _=>rfl)) (pv 1) (λ_ _=>rfl)) (wE (n:=4) rfl rfl (xj (xk (i:=3) nd rfl rfl) (xj (xk (i:=4) nd rfl rfl) (xj (xk (i:=5) nd rfl rfl) (xj (xk (i:=6) nd rfl rfl) wD)))))) (xy (xv (jf (xx qB (pv 2) (pv 3) (aE _)) (pv 4) (pv 3)))))),?_⟩;have hk:k < ps.length:=by
   have:=(zB.mp hm).1;simpa using this
  have em:ps[k].2=m:=by
   rw [zF,zG hk] at hm;exact Option.some.inj hm
  have cD:=hb.rows _ (zh hk);rw [em] at cD;refine (zr rfl (fF hb.book rfl (zr rfl (fF hb.meets (wB (v:=V.ref ps[k].1) (by simp [hk])) (sI cD ?_)))));refine (zr rfl (zr rfl ⟨rfl,zr rfl (gg (λc=>?_) (λc=>?_))⟩))
  ·rw [if_pos (V.int.inj c)] at q;exact (zr rfl q)
  ·rw [if_neg λz=>c (by rw [z])] at q;exact (zr rfl q)
theorem HW:d9 T.D7 P w base 1 (TY):=by
 refine T.D7.F.ok HL (λvs H Q E h=>?_) (λbP A outer s H vs Q E hr h=>?_)
 ·obtain ⟨b,k,x,_,_,_,_,rfl,_⟩:=h;rfl
 ·have nd:=HL.nd;have hu:=hr.units;obtain ⟨b,k,x,ah,tr,tm,ps,rfl,hb,hn,q⟩:=h;refine ⟨_,(xf (xy (xv (wy (own:=["other"]) (caps:=[2,1]) rfl (show aI ["other"] [2,1] ["book", "walker", "number"] (aq D2) _ from L2.iz) (qJ rfl T.cz (xb (xc (xw (xq rfl) (by rfl) T.bL PySem.boot_len (xb (xc (xu (wC rfl) (pv 0) xh (λ_ _=>rfl)) xo rfl))) xo rfl))) (λ_ _ _ _=>(xk (i:=0) (show List.Nodup (["other", "number", "walker"]:List Str) from by decide +kernel) rfl rfl)) (λ_ _ _ _=>qG) (λ_ _ _ _=>(jf (xx qB (pv 0) (pv 2) (aE _)) (pv 1) fu)))))),?_⟩;refine (zr rfl (fF hb.book rfl ⟨tr,zr rfl ⟨.inr (bT.of hb.ah),zr rfl ⟨by rw [zA];omega,by rw [zA];omega,?_⟩⟩⟩));refine (let W5:IC:=λi τ acc H5=>(∃ t0,τ=[t0,some (.int x),some (.int k)])/\acc=(rep i (av k x)).map oV/\H5=H;fX (lo:=0) (m:=(ah.map V.int).length) W5 ?_ (by rw [zA];omega) ?_ ?_ ?_)
  ·exact ⟨⟨_,rfl⟩,rfl,rfl⟩
  ·rintro i τ acc H5 ⟨⟨t0,rfl⟩,rfl,rfl⟩;rw [zA,wz];exact zE _
  ·rintro i τ acc H5 C hi ⟨⟨t0,rfl⟩,rfl,rfl⟩ hC;have snoc:∀ v,oV (av k x i)=v->(rep i (av k x)).map oV++[v]=(rep (i + 1) (av k x)).map oV:=λv e=>by
    unfold rep;rw [xI,zD,zD,<- e];rfl
   refine (zr rfl (zr rfl ⟨rfl,zr rfl (gg (λc=>(zr rfl (hC _ _ _ ⟨⟨_,rfl⟩,snoc _ ?_,rfl⟩))) (λc=>hC _ _ _ ⟨⟨_,rfl⟩,snoc _ ?_,rfl⟩))⟩))
   ·have:i=k:=by have:=V.int.inj c;omega
    unfold av;rw [if_pos this];rfl
   ·have:i≠k:=λz=>c (by rw [z];simp);unfold av;rw [if_neg this];rfl
  ·rintro τ acc H5 ⟨⟨t0,rfl⟩,rfl,rfl⟩ l hl;rw [zA];exact q l _ hl (xi hl) xa
theorem JF:d9 T.GV P w base 1 (Ru):=by
 refine T.GV.F.ok JC (λvs H Q E h=>?_) (λbP A outer s H vs Q E hr h=>?_)
 ·obtain ⟨_,_,_,rfl,_⟩:=h;rfl
 ·have nd:=JC.nd;have hu:=hr.units;obtain ⟨l,ws,n,rfl,hw,h60,q⟩:=h;refine ⟨_,(xf (xy (xv (xz cZ (xz Pa xh (xw (xq rfl) (by rfl) T.bL PySem.boot_len (xb (xc (pv 0) xo rfl)))) xh)))),?_⟩;refine (zr rfl ⟨l,zr rfl ⟨.inl (aG.of hw.1),aJ rfl rfl ⟨⟨Int.natCast_nonneg _,by rw [zA];omega,by decide⟩,aJ rfl rfl ?_⟩⟩⟩);rw [zA,LR];exact q
theorem Ie:d9 T.CZ P w base 1 (OF):=by
 refine T.CZ.F.ok EO (λvs H Q E h=>?_) (λbP A outer s H vs Q E hr h=>?_)
 ·obtain ⟨_,_,rfl,_⟩:=h;rfl
 ·have nd:=EO.nd;have hu:=hr.units;obtain ⟨s,k,rfl,k60,q⟩:=h;refine ⟨_,(xf (xy (xv (xz cZ (pv 0) (xz Ph (pv 0) (xz Pa xh (pv 1))))))),?_⟩;refine (zr rfl (zr rfl (zr rfl (aJ rfl rfl ⟨⟨Int.natCast_nonneg _,by omega,by decide⟩,aJ rfl rfl (aJ rfl rfl ?_)⟩))));rw [LR];show Q (V.int ((s:Int) - Builtin.bitAnd (s:Int) (((2 ^ k:Nat):Int)))) H;rw [R5];exact q
theorem JE:d9 T.GU P w base 1 (OB):=by
 refine T.GU.F.ok Jz (λvs H Q E h=>?_) (λbP A outer s H vs Q E hr h=>?_)
 ·obtain ⟨_,rfl,_⟩:=h;rfl
 ·have nd:=Jz.nd;have hu:=hr.units;obtain ⟨s,rfl,afB,q⟩:=h;refine ⟨_,(xf (xy (xv (wy (own:=["part"]) (caps:=[0]) rfl (show aI ["part"] [0] ["some"] (aq GT) _ from L2.iz) (qJ rfl T.cz (xb (xc (xz wJ (pv 0) xh) xo rfl))) (λ_ _ _ _=>(xk (i:=0) (show List.Nodup (["part", "some"]:List Str) from by decide +kernel) rfl rfl)) (λ_ _ _ _=>lZ (xx qB (xz Ph (pv 0) (pv 1)) (pv 0) (aE _))) (λ_ _ _ _=>(wS (xb (xc (pv 0) (xc (xz cZ (pv 1) (pv 0)) xo rfl) rfl)))))))),?_⟩;have line:=bD;refine (zr rfl (aJ rfl rfl (zr rfl ?_)));rw [show (s:Int) + 1=((s + 1:Nat):Int) from rfl];refine ⟨by omega,by omega,?_⟩;rw [zf];refine (let W6:IC:=λi τ acc H5=>(∃ t0,τ=[t0,some (.int (s:Int))])/\ay H H5/\∃ rs:List (Addr×Nat×Nat),acc=rs.map (λr=>V.ref r.1)/\(∀ r∈rs,H5 r.1=some (.tup [.int (r.2.1:Int),.int (r.2.2:Int)]))/\rs.map (·.2)=(((List.range (s + 1)).take i).filter λp=>p &&& s == p).map λp=>(p,s - p);fX (lo:=0) (m:=s + 1) W6 ⟨⟨_,rfl⟩,ay.refl _,[],rfl,(λ_ z=>nomatch z),rfl⟩ (by omega) ?_ ?_ ?_)
  ·rintro i τ acc H5 ⟨_,_,rs,rfl,_,e⟩;rw [zA];have:=congrArg List.length e;rw [zA,zA] at this;have z:=yX (λp:Nat=>p &&& s == p) ((List.range (s + 1)).take i);rw [z8] at z;omega
  ·rintro i τ acc H5 C hi ⟨⟨t0,rfl⟩,sm,rs,rfl,hr,e⟩ hC;have st:=wK (l:=List.range (s + 1)) (i:=i) (r:=i) (by rw [List.getElem?_range hi]);refine (zr rfl (zr rfl (aJ rfl rfl (zr rfl ⟨rfl,?_⟩))));rw [Int.zero_add];refine (zr rfl ?_);show if decide (V.int (Builtin.bitAnd (i:Int) (s:Int))=V.int (i:Int))=true then _ else _;rw [MB];by_cases e1:i &&& s=i
   ·refine bH (decide_eq_true (by rw [e1])) (zr rfl (zr rfl (zr rfl (aJ rfl rfl ⟨by show 2<=sizeLine;omega,λt ht=>?_⟩))));refine hC _ _ _ ⟨⟨_,rfl⟩,sm.trans (xi ht),rs++[(t,i,s - i)],by rw [zD];rfl,λr uF=>?_,?_⟩
    ·rcases zT.mp uF with h | h
     ·exact xi ht _ _ (hr r h)
     ·cases zJ.mp h;rw [xa,show ((s - i:Nat):Int)=(s:Int) - (i:Int) by omega]
    ·rw [st,List.filter_append,zD,zD,e];simp [e1]
   ·refine aF (decide_eq_false (λz=>e1 (Int.ofNat.inj (V.int.inj z)))) (hC _ _ _ ⟨⟨_,rfl⟩,sm,rs,rfl,hr,?_⟩);rw [st,List.filter_append,zD,e];simp [e1]
  ·rintro τ acc H5 ⟨⟨t0,rfl⟩,sm,rs,rfl,hr,e⟩ lc Mj;have s2:=xi (o:=HO.lst (rs.map λr=>V.ref r.1)) Mj;refine q lc rs _ (sm.trans s2) xa (λr h=>s2 _ _ (hr r h)) ?_;rw [e,yL (by rw [List.length_range];exact zE _)];rfl
theorem GW:d9 T.Dk P w base 4 (uY):=by
 have JH:=Kt P w base T B;have Ic:=JO P w base T B;refine T.Dk.F.ok GM (λvs H Q E h=>?_) (λbP A outer s H vs Q E hr h=>?_)
 ·obtain ⟨b,x,r,_,_,_,_,rfl,_⟩:=h;rfl
 ·have nd:=GM.nd;have hu:=hr.units;obtain ⟨b,x,r,ah,tr,tm,ps,rfl,hb,th,q⟩:=h;refine cy ?_;intro Y
  let B0:Bk Y ((ak B9).drop 2):=⟨_,(xf (xy (xv (fz (bw Ic hr T.Dj (xb (xc (pv 0) (xc (pv 2) xo rfl) rfl))) (fz (bw JH hr T.FG (xb (xc (pv 3) xo rfl))) (fz (bw Ic hr T.Dj (xb (xc (pv 0) (xc (pv 4) xo rfl) rfl))) (j4 (bw JH hr T.FG (xb (xc (pv 5) xo rfl))))))))))⟩
  let B1:Bk Y ((ak B9).drop 1):=⟨_,(xf (xr (we (pv 1) (wE (n:=4) rfl rfl (xj (xk (i:=2) nd rfl rfl) (xj (xk (i:=3) nd rfl rfl) (xj (xk (i:=4) nd rfl rfl) (xj (xk (i:=5) nd rfl rfl) wD)))))) B0.bl))⟩
  refine ⟨_,(xf (xr (wG (PW.pt (pQ (fm (qC (xw (fc) (by rfl) T.dB PyProof.Rows.boot_isinstance (xb (xc (pv 1) (xc (mh (v:=V.ty "tuple") rfl T.iu yV rfl) xo rfl) rfl))))) (jY (xx tD (xw (xq rfl) (by rfl) T.bL PySem.boot_len (xb (xc (pv 1) xo rfl))) xh (aE _))))) (xf (xy (xv iE))) wA) B1.bl)),?_⟩;rcases th with ⟨t,ht,nt,rfl⟩ | ⟨l,xs,rfl,hl,hx,rfl⟩
  ·refine (zr rfl ⟨x,t, "tuple", rfl,ht,.inr (.inr (.inr rfl)),zr rfl ?_⟩);refine bH ?_ (bH rfl q);rcases qp ht with rfl | rfl | rfl | rfl | rfl | rfl | rfl <;> first | rfl | exact absurd rfl nt
  ·refine (zr rfl ⟨_, "tuple", "tuple", rfl,LN hl,.inr (.inr (.inr rfl)),zr rfl (aF rfl ?_)⟩);refine (zr rfl ⟨l,zr rfl ⟨.inr (bT.of hl),rfl,zr rfl ?_⟩⟩);by_cases h4:xs.length=4
   ·obtain ⟨x0,x1,x2,x3,rfl⟩:=Ss h4;obtain ⟨t0,h0⟩:=hx x0 (by simp);obtain ⟨t1,h1⟩:=hx x1 (by simp);obtain ⟨t2,h2⟩:=hx x2 (by simp);obtain ⟨t3,h3⟩:=hx x3 (by simp);refine aF (by simp) ?_;refine (zr rfl (sI hl ?_));have q:Q (.bl (oX 0 ((ah.length:Int) - 1) x0 && (oX 0 1000000000 x1 && (oX 0 ((ah.length:Int) - 1) x2 && oX 0 1000000000 x3)))) H:=q;refine (zr rfl (zr rfl (uG b x0 t0 ah tr tm ps ⟨rfl,hb,h0,zr rfl (lO (λc0=>?_) (λc0=>by rw [c0] at q;exact q))⟩)));refine (zr rfl ⟨x1,t1,rfl,h1,zr rfl (lO (λc1=>?_) (λc1=>by rw [c0,c1] at q;exact q))⟩);refine (zr rfl (zr rfl (uG b x2 t2 ah tr tm ps ⟨rfl,hb,h2,zr rfl (lO (λc2=>?_) (λc2=>by rw [c0,c1,c2] at q;exact q))⟩)));refine (zr rfl ⟨x3,t3,rfl,h3,?_⟩);rw [c0,c1,c2] at q;exact q
   ·refine bH ?_ ?_
    ·have:¬ V.int (xs.length:Int)=V.int 4:=λz=>h4 (by have:=V.int.inj z;omega);simp [this]
    ·have:isLet (ah.length:Int) (some xs)=false:=by
      unfold isLet;split
      ·rename_i e;cases e;simp at h4
      ·rfl
     rw [this] at q;exact q
theorem DP:d9 T.Bd P w base 2 (OH):=by
 have Dc:=Fa P w base T B;have IY:=JM P w base T B;have Gy:=HW P w base T B;refine T.Bd.F.ok DJ (λvs H Q E h=>?_) (λbP A outer s H vs Q E hr h=>?_)
 ·obtain ⟨b,k,x,_,_,_,_,rfl,_⟩:=h;rfl
 ·have nd:=DJ.nd;have hu:=hr.units;obtain ⟨b,k,x,ah,tr,tm,ps,rfl,hb,hn,gd,q⟩:=h;refine cy ?_;intro Y
  let B0:Bk Y (nb (nb (ak wb) 2) 0):=⟨_,(xf (xr (we (pv 8) (j3 (pv 3) (pv 7) set_list)) (xy (LW (zq (Nat.add_le_add_left (by decide) _) hu) (pv 4) (pv 7) (wS (xb (xc (pv 5) (xc (pv 6) xo rfl) rfl))) rfl))))⟩
  let B1:Bk Y (nb (ak wb) 2):=⟨_,(xf (xy (wG (PW.pt (cY (fU (iT (xu (xp rfl) (pv 3) (pv 7) (λ_ _=>rfl)))) (cR (qC (bw Dc hr T.C1 (xb (xc (xu (xp rfl) (pv 3) (pv 6) (λ_ _=>rfl)) (xc (pv 8) xo rfl) rfl))))))) B0.ps wA)))⟩
  let B2:Bk Y ((ak wb).drop 2):=⟨_,(xf (xr (wZ PassesOwn.never rfl (wX rfl (bw IY hr T.Iz (xb (xc (pv 0) xo rfl)))) (wE (n:=4) rfl rfl (xj (xk (i:=5) nd rfl rfl) (xj (xk (i:=6) nd rfl rfl) (xj (xk (i:=7) nd rfl rfl) (xj (xk (i:=8) nd rfl rfl) wD))))) B1.ps) (xy (xv (wS (xb (xc (pv 3) (xc (pv 4) xo rfl) rfl)))))))⟩
  refine ⟨_,(xf (xr (xt (i:=3) nd rfl rfl (bw Gy hr T.D7 (xb (xc (pv 0) (xc (pv 1) (xc (pv 2) xo rfl) rfl) rfl)))) (xr (xt (i:=4) nd rfl rfl O2) B2.bl))),?_⟩;have line:=bD;have W0:=gd.len;refine (zr rfl (zr rfl (zr rfl (uG b k x ah tr tm ps ⟨rfl,hb,hn,λl H1 hl kR h1=>?_⟩))));refine λd hd=>?_;have Y4:d≠l:=(xg h1 hd).symm;have Wr:=kR.trans (xi (o:=HO.dK []) hd);have hfd:H d=none:=kR.free hd;refine (zr rfl (Yc b ah tr tm ps ⟨rfl,hb.same Wr,gd,λlw ws H2 XA jJ h2 hr ew=>?_⟩));have X6:=jJ _ _ (xi (o:=HO.dK []) hd _ _ h1);have NC:=jJ _ _ (xa (H:=H1) (a:=d) (o:=HO.dK []));have vO:(ws.map (·.2)).map (·.w)=aB (ps.map (·.2)):=by
   have:=jM (ps.map (·.2));rw [zA] at this;rw [ew,this]
  have lws:ws.length=2 * ps.length:=by
   have:=congrArg List.length vO;rw [zA,zA,jN,zA] at this;exact this
  have nwl:lw≠l:=(xg (xi (o:=HO.dK []) hd _ _ h1) XA).symm;have nwd:lw≠d:=(xg (xa (H:=H1) (a:=d) (o:=HO.dK [])) XA).symm;refine ⟨lw,rfl,⟨_,aG.of h2⟩,?_⟩;refine (let W7:IV:=λi σ H4=>(∃ v5 v6 v7 v8,σ=[some (.ref b),some (.int k),some (.int x),some (.ref l),some (.ref d),v5,v6,v7,v8])/\ay H H4/\H4 l=some (.lst ((rep ah.length (((ws.take i).map (·.2.w)).foldl aH (av k x))).map oV))/\(∃ kvs,H4 d=some (.dK kvs)/\kvs.length<=i/\pe (ps.map (·.2)) k (((ws.take i).map (·.2.w)).foldl aH (av k x)) kvs H4)/\(∀ b u,b≠l->b≠d->H2 b=some u->H4 b=some u);dW (K:=K) (a:=lw) (xs:=(ws.map λa=>V.ref a.1)) W7)
   ?_ ?_ ?_ ?_
  ·exact ⟨⟨_,_,_,_,rfl⟩,Wr.trans jJ,X6,⟨[],NC,zE _,λo t h=>.inl (by have h:av k x o=some t:=h;unfold av at h;split at h;assumption;cases h)⟩,λ_ _ _ _ e=>e⟩
  ·rintro i σ H4 _ ⟨_,_,_,_,kp⟩;exact aG.of (kp lw _ nwl nwd h2)
  ·rintro i y σ H4 hy ⟨⟨v5,v6,v7,v8,rfl⟩,pM,h4,⟨kvs,U7,lk,cm⟩,kp⟩;obtain ⟨r,rZ,rfl⟩:=wQ hy;have hi:i < ws.length:=(zB.mp rZ).1;have rm:r∈ws:=zC rZ;have p9:=hr r rm;have nl:r.1≠l:=wU p9 X6 (by intro z;cases z);have nd2:r.1≠d:=wU p9 NC (by intro z;cases z);have cD:=kp r.1 _ nl nd2 p9;have wm:r.2.w∈aB (ps.map (·.2)):=by
    rw [<-vO];exact zO.mpr ⟨r.2,zO.mpr ⟨r,rm,rfl⟩,rfl⟩
   obtain ⟨g1,g2,g3,g4,g5⟩:=dG gd wm;have gl:r.2.w.g < ah.length:=by omega
   have ol:r.2.w.o < ah.length:=by omega
   have fold:∀ f:Fn,((ws.take i).map (·.2.w)).foldl aH (av k x)=f->((ws.take (i + 1)).map (·.2.w)).foldl aH (av k x)=aH f r.2.w:=λf e=>by
    rw [wK rZ,zD,ya,e];rfl
   refine (sI cD ?_);generalize ef:((ws.take i).map (·.2.w)).foldl aH (av k x)=f at h4 cm;have fo:=fold f ef;have hg:((rep ah.length f).map oV)[r.2.w.g]?=some (oV (f r.2.w.g)):=cK gl;have ho:((rep ah.length f).map oV)[r.2.w.o]?=some (oV (f r.2.w.o)):=cK ol;refine (zr rfl (zr rfl (cu h4 (wB ho) (zr rfl (gg (λc=>?_) (λc=>aF rfl ?_))))))
   ·have c':=iW.mp c;refine (zr rfl (zr rfl (cu h4 (wB hg) (zr rfl ⟨f r.2.w.g,r.2.w.t,rfl,zr rfl (lO (λc2=>?_) (λc2=>?_))⟩))))
    ·refine (zr rfl (zr rfl (zr rfl ⟨l,_,_,r.2.w.o,rfl,rfl,h4,ia (by rw [zA,wz];exact ol),?_⟩)));refine (zr rfl (zr rfl ⟨by show 2<=sizeLine;omega,λtt NZ=>(zr rfl (zr rfl ⟨d,zr rfl ⟨NW.k (k:=Sum.inl (r.2.w.o:Int)) (xi NZ _ _ (by rw [xl Y4];exact U7)) (by omega),?_⟩⟩))⟩));have VH:l≠tt:=xg (xa) NZ;have smx:=(ay.put (o:=HO.lst (((rep ah.length f).map oV).set r.2.w.o (.int r.2.w.t))) hl pM).trans (xi (o:=HO.tup [.int r.2.n,.int r.2.w.g]) NZ);have hdx:=xi (o:=HO.tup [.int r.2.n,.int r.2.w.g]) NZ _ _ (show (upd H4 l (HO.lst (((rep ah.length f).map oV).set r.2.w.o (.int r.2.w.t)))) d=some (.dK kvs) by rw [xl Y4];exact U7);have ntd:tt≠d:=(xg (show (upd H4 l (HO.lst (((rep ah.length f).map oV).set r.2.w.o (.int r.2.w.t)))) d=some (.dK kvs) by rw [xl Y4];exact U7) NZ).symm;have lnk:bO (ps.map (·.2)) r.2.n r.2.w.g r.2.w.o r.2.w.t:=fR (i:=ps.length) (by rw [<-ew];exact zO.mpr ⟨r,rm,rfl⟩);have cmN:pe (ps.map (·.2)) k (((ws.take (i + 1)).map (·.2.w)).foldl aH (av k x)) (putK kvs (Sum.inl (r.2.w.o:Int)) (.ref tt)) (upd (upd (upd H4 l (HO.lst (((rep ah.length f).map oV).set r.2.w.o (.int r.2.w.t)))) tt (HO.tup [.int r.2.n,.int r.2.w.g])) d (HO.dK (putK kvs (Sum.inl (r.2.w.o:Int)) (.ref tt)))):=by
      rw [fo];unfold aH;rw [if_pos ⟨c',c2⟩];exact pe.step (x:=r.2) (cm.aT (((bM.set h4).trans (bM.new NZ)).trans (bM.Wt hdx))) c' c2 lnk (by rw [xl ntd,xa])
     refine ⟨⟨_,_,_,_,rfl⟩,ay.put hfd smx,?_,⟨_,xa,zi (eY _ _ _) (by omega),cmN⟩,λb u nb nb' e=>?_⟩
     ·rw [xl Y4.symm,xl VH,xa,fo];unfold aH;rw [if_pos ⟨c',c2⟩,<- jc ol,yq];rfl
     ·rw [xl nb'];exact xi NZ _ _ (by rw [xl nb];exact kp b u nb nb' e)
    ·refine ⟨⟨_,_,_,_,rfl⟩,pM,?_,⟨kvs,U7,by omega,by rw [fo];unfold aH;rw [if_neg λz=>by rw [z.2] at c2;cases c2];exact cm⟩,kp⟩;rw [fo];unfold aH;rw [if_neg λz=>by rw [z.2] at c2;cases c2];exact h4
   ·refine ⟨⟨_,_,_,_,rfl⟩,pM,?_,⟨kvs,U7,by omega,by rw [fo];unfold aH;rw [if_neg λz=>c (iW.mpr z.1)];exact cm⟩,kp⟩;rw [fo];unfold aH;rw [if_neg λz=>c (iW.mpr z.1)];exact h4
  ·rintro σ H4 ⟨⟨v5,v6,v7,v8,rfl⟩,pM,h4,⟨kvs,U7,lk,cm⟩,kp⟩;rw [zA,yA] at h4 cm;have e:((ws.map (·.2.w)).foldl aH (av k x))=fwd (ps.map (·.2)) (av k x):=by
    unfold fwd;rw [<-vO,zg];rfl
   rw [e] at h4 cm;exact (zr rfl (zr rfl ⟨by show 2<=sizeLine;omega,λtt NZ=>q tt l d kvs _ hl (pM.trans (xi NZ)) xa (xi NZ _ _ h4) (xi NZ _ _ U7) (cm.aT (bM.new NZ))⟩))
theorem GX:d9 T.BL P w base 3 (LO):=by
 have Cq:=DP P w base T B;refine T.BL.F.ok Dh (λvs H Q E h=>?_) (λbP A outer s H vs Q E hr h=>?_)
 ·obtain ⟨b,k,x,_,_,_,_,rfl,_⟩:=h;rfl
 ·have nd:=Dh.nd;have hu:=hr.units;obtain ⟨b,k,x,ah,tr,tm,ps,rfl,hk,hb,hn,gd,q⟩:=h;refine ⟨_,(xf (xr (we (bw Cq hr T.Bd (xb (xc (pv 0) (xc (pv 1) (xc (pv 2) xo rfl) rfl) rfl))) (wE (n:=2) rfl rfl (xj (xk (i:=3) nd rfl rfl) (xj (xk (i:=4) nd rfl rfl) wD)))) (xy (xv (pv 3))))),?_⟩;refine (zr rfl (zr rfl (zr rfl (uG b k x ah tr tm ps ⟨rfl,hb,hn,gd,λt l d kvs H1 hl sm ht h1 _ _=>?_⟩))));exact (uD ht (zr rfl (q l _ hl sm h1)))
theorem Kg:d9 T.Gf P w base 5 (uZ):=by
 have DY:=Gg P w base T B;have Fv:=GW P w base T B;have Cq:=DP P w base T B;refine T.Gf.F.ok HQ (λvs H Q E h=>?_) (λbP A outer s H vs Q E hr h=>?_)
 ·obtain ⟨b,lt,_,_,_,_,_,_,_,_,rfl,_⟩:=h;rfl
 ·have nd:=HQ.nd;have hu:=hr.units;obtain ⟨b,lt,s0,w0,a0,z0,ah,tr,tm,ps,rfl,hb,hn,gd,hL,qn,qy⟩:=h;refine cy ?_;intro Y
  let B0:Bk Y (nb (ak wv) 6):=⟨_,(xf (xr (we (RI (zq (Nat.add_le_add_left (by decide) _) hu) (pv 7) (pv 9) (λ_ _=>rfl)) (wE (n:=2) rfl rfl (xj (xk (i:=10) nd rfl rfl) (xj (xk (i:=9) nd rfl rfl) wD)))) (xy (wO (qP zQ zU zV wN (pv 8) (xb (xc (pv 10) xo rfl)))))))⟩
  let B1:Bk Y ((ak wv).drop 4):=⟨_,(xf (xr (xt (i:=8) nd rfl rfl (wM wu)) (xr (xt (i:=9) nd rfl rfl (pv 4)) (xr (mY PassesOwn.never (xx tD (pv 9) (pv 2) (aE _)) B0.ps) (xy (xv (l8 rfl (pv 8))))))))⟩
  let B2:Bk Y ((ak wv).drop 3):=⟨_,(xf (xr (wG (fm (qC (bw DY hr T.DO (xb (xc (xu (xp rfl) (pv 6) (pv 4) (λ_ _=>rfl)) (xc (pv 5) xo rfl) rfl))))) (xf (xy (xv fu))) wA) B1.bl))⟩
  let B3:Bk Y ((ak wv).drop 2):=⟨_,(xf (xr (we (bw Cq hr T.Bd (xb (xc (pv 0) (xc (pv 2) (xc (pv 3) xo rfl) rfl) rfl))) (wE (n:=2) rfl rfl (xj (xk (i:=6) nd rfl rfl) (xj (xk (i:=7) nd rfl rfl) wD)))) B2.bl))⟩
  let B4:Bk Y ((ak wv).drop 1):=⟨_,(xf (xr (we (pv 1) (wE (n:=4) rfl rfl (xj (xk (i:=2) nd rfl rfl) (xj (xk (i:=3) nd rfl rfl) (xj (xk (i:=4) nd rfl rfl) (xj (xk (i:=5) nd rfl rfl) wD)))))) B3.bl))⟩
  refine ⟨_,(xf (xr (wG (fm (qC (bw Fv hr T.Dk (xb (xc (pv 0) (xc (pv 1) xo rfl) rfl))))) (xf (xy (xv fu))) wA) B4.bl)),?_⟩;have line:=bD;obtain ⟨dU,hs1,Xm,_⟩:=id hL;refine (zr rfl (zr rfl (uG b (.ref lt) _ ah tr tm ps ⟨rfl,hb,hL.th,zr rfl (aF (by rw [hL.yes];rfl) ?_)⟩)));refine (zr rfl (sI dU ?_));refine (zr rfl (zr rfl (zr rfl (uG b s0 a0 ah tr tm ps ⟨rfl,hb,hn,gd,λt l d kvs H1 hl kR ht h1 hd cm=>(uD ht ?_)⟩))));generalize eE:fwd (ps.map (·.2)) (av s0 a0)=E0 at qn qy h1 cm;have er:=ko (s:=s0) (x:=a0) gd;rw [eE] at er;refine (zr rfl (zr rfl (cu h1 (wB (cK Xm)) (zr rfl ⟨E0 w0,z0,rfl,zr rfl (lO (λc=>?_) (λc=>?_))⟩))))
  ·exact qn (by cases e:bq (E0 w0) z0 with
    | false=>rfl
    | true=>rw [e] at c;cases c) _ kR
  obtain ⟨ew,hew,lez⟩:∃ e,E0 w0=some e/\e<=z0:=aA.mp (by cases e:bq (E0 w0) z0 with
    | true=>rfl
    | false=>rw [e] at c;cases c)
  refine ⟨zX _,λlc Mj=>(zr rfl ?_)⟩;have ab4:H lc=none:=kR.free Mj;refine su (fun σ H4=>∃ (v:Nat) (e:Int) (cs:List Int),∃ v10,σ=[some (.ref b),some (.ref lt),some (.int s0),some (.int a0),some (.int w0),some (.int z0),some (.ref l),some (.ref d),some (.ref lc),some (.int v),v10]/\E0 v=some e/\H4 lc=some (.lst (List.map V.int cs.reverse)) /\
    (∀ b u,b≠lc->H1 b=some u->H4 b=some u)/\cs.length + pO ah.length E0 e<=ah.length /\
    (∀ A:Int,(A=-1\/∃ n:Nat,∃ m,A=n/\(ps.map (·.2))[n]?=some m/\m.t<=e)->cG (ps.map (·.2)) v e A cs=some (w0,ew)))
   (fun σ _=>mu ah.length E0 σ) ?_ ?_ ?_
  ·exact ⟨w0,ew,[],zr rfl ⟨hew,xa,λb u nb e=>by rw [xl nb];exact e,by have:=RA ah.length E0 ew;simpa using this,λA _=>rfl⟩⟩
  ·rintro σ H4 ⟨v,e,cs,v10,rfl,he,hc,kp,lrk,wk⟩;refine (zr rfl (zr rfl ⟨rfl,zr rfl ?_⟩));by_cases hv:v=s0
   ·subst hv;rw [er.self] at he;cases he;refine UL rfl ?_;refine (zr rfl ⟨lc,zr rfl ⟨aG.of hc,λlr N5=>?_⟩⟩);have e1:(List.map V.int cs.reverse).reverse=List.map V.int cs:=by rw [<-List.map_reverse,List.reverse_reverse]
    rw [e1];have NY:ay H H4:=λb u eb=>kp b u (xg eb ab4) (kR b u eb);exact qy ew lr cs _ hew lez (NY.free N5) (NY.trans (xi N5)) xa (by omega) (wk (-1) (.inl rfl))
   ·refine bH (by have:¬ V.int (v:Int)=V.int (s0:Int):=λz=>hv (by have:=V.int.inj z;omega);simp [this]) ?_;obtain Sf | ⟨tt,n,g,y,c1,c2,c3,c4,c5⟩:=cm v e he
    ·exact absurd Sf hv
    obtain ⟨gi,vi,gv⟩:=c3.inside gd;have hd4:=kp d _ (λz=>by rw [z] at hd;rw [hd] at Mj;cases Mj) hd;have ht4:=kp tt _ (λz=>by rw [z] at c2;rw [c2] at Mj;cases Mj) c2;have dg:jG H4 d (.int (v:Int)) (some (.ref tt)):=by
     have:=jG.k (k:=Sum.inl (v:Int)) hd4;rw [c1] at this;exact this
    have rl:=Rz gi c4 c5;refine (zr rfl (zr rfl ⟨d,.ref tt,rfl,dg,uD ht4 ?_⟩));refine (zr rfl ⟨.inl ⟨rfl,_,aG.of hc⟩,zr rfl ⟨lc,aJ rfl rfl ⟨hc,by rw [zA,yO];omega,⟨g,y,(n:Int)::cs,zr rfl ⟨c4,?_,λb u nb eb=>by rw [xl nb];exact kp b u nb eb,by rw [zR];omega,λA hA=>?_⟩⟩,?_⟩⟩⟩)
    ·rw [xa,yo,zD];rfl
    ·obtain ⟨m,hm,mt,_⟩:=id c3;have an:A < n:=by
      rcases hA with rfl | ⟨n',m',rfl,oR,lt'⟩
      ·omega
      ·have:=P0 gd.ord.2 oR hm (by omega);omega
     rw [pB c3 gv c5 an];exact wk n (.inr ⟨n,m,rfl,hm,by omega⟩)
    ·show mu ah.length E0 _ < mu ah.length E0 _;unfold mu;simp only [xG,xF,yc,yb,zf,c4,he];exact rl
  ·rintro σ H4 Q1 Q2 hq ⟨x,hx,y,hy,hsc,k1,hk1,h⟩;exact ⟨x,hx,y,hy,hsc,k1,hk1,hq _ _ h⟩
theorem Gb:d9 T.CC P w base 2 (MO):=by
 have Hs:=IF P w base T B;have IW:=Ie P w base T B;refine T.CC.F.ok FX (λvs H Q E h=>?_) (λbP A outer s H vs Q E hr h=>?_)
 ·obtain ⟨_,_,_,_,_,_,_,_,_,_,rfl,_⟩:=h;rfl
 ·have nd:=FX.nd;have hu:=hr.units;obtain ⟨b,l,j,w0,s,ah,tr,tm,ps,ws,rfl,cx,hs,q⟩:=h;refine cy ?_;intro Y
  let B0:Bk Y (nb (ak qR) 1):=⟨_,(xf (xy (wG (PW.pt (cY (xx qB (pv 7) (pv 3) (aE _)) (cR (xx ji (pv 2) (bw Hs hr T.FH (xb (xc (pv 0) (xc (pv 8) xo rfl) rfl))) (aE _))))) (xf (xy (xt (i:=5) nd rfl rfl (bw IW hr T.CZ (xb (xc (pv 5) (xc (pv 6) xo rfl) rfl)))))) wA)))⟩
  let B1:Bk Y ((ak qR).drop 1):=⟨_,(xf (xr (wZ PassesOwn.never rfl (gK rfl rfl T.cC (xb (xc (pv 1) xo rfl))) (wE (n:=2) rfl rfl (xj (xk (i:=6) nd rfl rfl) (xj (wE (n:=2) rfl rfl (xj (xk (i:=7) nd rfl rfl) (xj (xk (i:=8) nd rfl rfl) wD))) wD))) B0.ps) (xy (xv (pv 5)))))⟩
  refine ⟨_,(xf (xr (xt (i:=5) nd rfl rfl (pv 4)) B1.bl)),?_⟩;have line:=bD;have w4:=cx.w4;have n60:=cx.gd.len;refine (zr rfl (zr rfl ⟨l,rfl,⟨_,aG.of cx.wa.1⟩,?_⟩));refine (let W8:IV:=λi σ H5=>∃ lf:Nat,(∃ v6 v7 v8,σ=[some (.ref b),some (.ref l),some (.int (j:Int)),some (.int (w0:Int)),some (.int (s:Int)),some (.int (lf:Int)),v6,v7,v8])/\(∀ k,lf.testBit k=(s.testBit k && !(decide (k < i) && eZ (ps.map (·.2)) (wq ws) j w0 k)))/\ay H H5;fN (K:=K) (a:=l) (xs:=ws.map λa=>V.ref a.1) W8 ⟨s,⟨_,_,_,rfl⟩,λk=>by simp,ay.refl _⟩ ?_ ?_ ?_)
  ·rintro i σ H5 _ ⟨_,_,_,s5⟩;exact aG.of (s5 _ _ cx.wa.1)
  ·rintro i v q0 σ H5 hv hq ⟨lf,⟨v6,v7,v8,rfl⟩,bits,s5⟩;obtain ⟨x,hx,rfl⟩:=wQ hv;have i4:i < ws.length:=(zB.mp hx).1;have s6:=s5.trans (xi (o:=HO.tup [V.int (i:Int),V.ref x.1]) hq);have kq:upd H5 q0 (HO.tup [V.int (i:Int),V.ref x.1]) q0=some (.tup [V.int (i:Int),V.ref x.1]):=xa;generalize upd H5 q0 (HO.tup [V.int (i:Int),V.ref x.1])=H6 at s6 kq ⊢;have QY:=cx.same s6;obtain ⟨kx,lx⟩:=QY.wa.2 x (zC hx);have dn:=Sy (ms:=ps.map (·.2)) (j:=j) (w:=w0) hx;have dN:eZ (ps.map (·.2)) (wq ws) j w0 i=false->∀ k,lf.testBit k=(s.testBit k && !(decide (k < i + 1) && eZ (ps.map (·.2)) (wq ws) j w0 k)):=λd k=>by
    rw [bits k];by_cases e:k=i
    ·subst e;rw [d];simp
    ·simp [show (k < i + 1)=(k < i) from propext ⟨λh=>by omega,λh=>by omega⟩]
   refine ⟨q0,zr rfl ⟨bT.of kq,rfl,dh rfl (dh rfl (uD kx ⟨rfl,?_⟩))⟩⟩;refine (zr rfl (zr rfl ⟨rfl,zr rfl ?_⟩));by_cases e1:x.2.1=w0
   ·refine bH (decide_eq_true (by rw [e1])) (zr rfl (zr rfl (zr rfl (ex6 b x.2.2 ah tr tm ps ⟨rfl,QY.bk,by omega,λH7 s7=>(aJ rfl rfl (zr rfl ?_))⟩))));refine gg (λc=>?_) (λc=>⟨lf,⟨_,_,_,rfl⟩,dN (by rw [dn,decide_eq_false (p:=j<=_) (by omega),xY]),s6.trans s7⟩);refine (zr rfl (zr rfl ⟨lf,i,rfl,by omega,j8 lf i,⟨_,_,_,rfl⟩,λk=>?_,s6.trans s7⟩));rw [PJ,bits k];by_cases e:k=i
    ·subst e;rw [dn,decide_eq_true e1,decide_eq_true (p:=j<=_) (by omega)];simp
    ·simp [show (k < i + 1)=(k < i) from propext ⟨λh=>by omega,λh=>by omega⟩,e]
   ·refine aF (decide_eq_false (λz=>e1 (Int.ofNat.inj (V.int.inj z)))) (aF rfl ⟨lf,⟨_,_,_,rfl⟩,dN (by rw [dn,decide_eq_false e1,yS]),s6⟩)
  ·rintro σ H5 ⟨lf,⟨v6,v7,v8,rfl⟩,bits,s5⟩;refine (zr rfl ?_);have e:lf=aC (ps.map (·.2)) (wq ws) j w0 s:=zz λk=>by
    rw [bits k,qE (by rw [gE];exact hs),zA];by_cases e:k < ws.length
    ·simp [e]
    ·rw [done_none (by rw [gE];omega)];simp
   rw [e];exact q _ s5
theorem K3:d9 T.JJ P w base 2 (MW):=by
 have AN:=Cc P w base T B;have IZ:=JE P w base T B;refine T.JJ.F.ok Kf (λvs H Q E h=>?_) (λbP A outer s H vs Q E hr h=>?_)
 ·obtain ⟨_,_,_,_,_,_,_,_,_,_,_,rfl,_⟩:=h;rfl
 ·have nd:=Kf.nd;have hu:=hr.units;obtain ⟨b,j,w0,s,v,ah,tr,tm,ps,sz,F,rfl,hb,gd,oO,hw,hs,s16,fo,hF,q⟩:=h;refine cy ?_;intro Y
  let B0:Bk Y ((nb (ak D3) 3).drop 1):=⟨_,(xf (xy (xt (i:=5) nd rfl rfl (xw (NS rfl) (by rfl) T.qj yY (xb (xc (xz Pg (wM (xb (xc (pv 5) xo rfl))) (wy (own:=["part", "rest"]) (caps:=[4,6,2]) rfl (show aI ["part", "rest"] [4,6,2] ["book", "stretch", "walker", "some", "following", "price", "other"] (aq D3) _ from L2.iz) (wX rfl (bw IZ hr T.GU (xb (xc (pv 3) xo rfl)))) (λ_ _ _ _=>(wE (n:=2) rfl rfl (xj (xk (i:=0) (show List.Nodup (["part", "rest", "following", "other", "walker"]:List Str) from by decide +kernel) rfl rfl) (xj (xk (i:=1) (show List.Nodup (["part", "rest", "following", "other", "walker"]:List Str) from by decide +kernel) rfl rfl) wD)))) (λ_ _ _ _=>qG) (λ_ _ _ _=>(xz wJ (xz wJ xh (xu (xp rfl) (xu (xp rfl) (pv 2) (pv 4) (λ_ _=>rfl)) (pv 0) (λ_ _=>rfl))) (xu (xp rfl) (xu (xp rfl) (pv 2) (pv 3) (λ_ _=>rfl)) (pv 1) (λ_ _=>rfl)))))) xo rfl))))))⟩
  let B1:Bk Y ((ak D3).drop 3):=⟨_,(xf (xr (wG (xx (fW rfl) (pv 2) (gO (LQ rfl) (xu (wC rfl) (xu (wC rfl) (pv 0) xh (λ_ _=>rfl)) (pv 1) (λ_ _=>rfl)) l5 (fV xh)) rfl) (xf (xr (xt (i:=6) nd rfl rfl (bw AN hr T.Bi (xb (xc (pv 0) (xc (pv 1) (xc (pv 2) xo rfl) rfl) rfl)))) B0.bl)) wA) (xy (xv (pv 5)))))⟩
  let B2:Bk Y ((ak D3).drop 1):=⟨_,(xf (xr (wG (fU (iT (pv 4))) (xf (xy (xv (xz wJ (xw (xq rfl) (by rfl) T.bL PySem.boot_len (xb (xc (xu (wC rfl) (pv 0) xh (λ_ _=>rfl)) xo rfl))) xh)))) wA) (xr (xt (i:=5) nd rfl rfl (xu (xp rfl) (xu (xp rfl) (pv 4) (pv 2) (λ_ _=>rfl)) (pv 3) (λ_ _=>rfl))) B1.bl)))⟩
  refine ⟨_,(xf (xr (wG (xx qB (pv 3) xh (aE _)) (xf (xy (xv xh))) wA) B2.bl)),?_⟩;have line:=bD;have n60:=gd.len;refine (zr rfl ⟨rfl,zr rfl ?_⟩);by_cases s0:s=0
  ·exact bH (decide_eq_true (by rw [s0];rfl)) (q 0 _ (ay.refl _) (.inl ⟨s0,rfl⟩))
  refine aF (decide_eq_false (λz=>s0 (Int.ofNat.inj (V.int.inj z)))) ?_;rcases fo with ⟨rfl,rfl⟩ | ⟨lf,A,rfl,kA,lA,rA,rfl⟩
  ·refine (zr rfl (zr rfl (bH rfl (zr rfl (fF hb.book rfl ⟨tm,zr rfl ⟨.inr (bT.of hb.meets),aJ rfl rfl ?_⟩⟩)))));refine q _ _ (ay.refl _) (.inr ⟨s0,?_⟩);rw [zA,zA]
  have jn:=hF _ rfl;obtain ⟨b1,sd⟩:∃ r,A[w0]?=some r:=⟨_,zG (by omega)⟩;have mb1:=zC sd;have F1:∀ s',((A.map (·.2)).getD w0 []).getD s' 0=b1.2.getD s' 0:=λs'=>by
   have:(A.map (·.2)).getD w0 []=b1.2:=by rw [zS,zF,sd];rfl
   rw [this]
  have lb1:=(rA b1 mb1).2;obtain ⟨xm,hxm⟩:∃ x,ps[j]?=some x:=⟨_,zG jn⟩;have mxm:=zC hxm;refine (zr rfl (zr rfl (aF rfl (zr rfl (zr rfl (cu kA (wB (by rw [zF,sd];rfl)) (zr rfl (cu ((rA b1 mb1).1) (fH (by omega)) ?_))))))));have kx:=hb.rows xm mxm;have fx:=gd.at mxm;obtain ⟨lo,elo⟩:=zd fx.1;obtain ⟨hi,ehi⟩:∃ n:Nat,xm.2.hi=n:=zd (by omega);refine (zr rfl (zr rfl (fF hb.book rfl (zr rfl (fF hb.meets (wB (by rw [zF,hxm];rfl)) (zr rfl ⟨xm.1,zr rfl ⟨bT.of kx,(by show ¬ (HT.cJ 4 0 none=0/\HT.cJ 4 4 (some 2)=4);decide),λp2 Xw=>?_⟩⟩))))));rw [show nZ xm.2.vs none (some 2)=[V.int xm.2.lo,V.int xm.2.hi] from rfl];have s2:=xi (o:=HO.tup [V.int xm.2.lo,V.int xm.2.hi]) Xw;have F2:∀ {o:Nat}{d:rT},A[o]?=some d->∀ s',((A.map (·.2)).getD o []).getD s' 0=d.2.getD s' 0:=λ{o d} h s'=>by
   have:(A.map (·.2)).getD o []=d.2:=by rw [zS,zF,h];rfl
   rw [this]
  have hm:=R0 hxm;refine ⟨p2,[.int xm.2.lo,.int xm.2.hi],rfl,.inr (bT.of xa),rfl,rfl,zr rfl ?_⟩;rw [show vC (V.int (w0:Int)) [V.int xm.2.lo,V.int xm.2.hi]=(decide ((w0:Int)=xm.2.lo) || decide ((w0:Int)=xm.2.hi)) from PY];refine tU (fun σ H'=>∃ x:Int,(∃ v6,σ=[some (.ref b),some (.int (j:Int)),some (.int (w0:Int)),some (.int (s:Int)),some (.ref lf),some (.int x),v6])/\ay H H'/\ff (ps.map (·.2)) j (some λw s=>(((A.map (·.2)).getD w []).getD s 0)) w0 s x) ?_ (λc k0=>?_) (λc=>⟨_,⟨_,rfl⟩,s2,.inr ⟨s0,.inl ⟨λo t l=>?_,(F1 s).symm⟩⟩⟩)
  ·rintro σ H' ⟨x,⟨v6,rfl⟩,s',lx⟩;exact (zr rfl (q x H' s' lx))
  ·generalize upd H p2 _=H2 at s2 ⊢;obtain ⟨o,eo,lk⟩:∃ o:Nat,(if (w0:Int)=xm.2.lo then xm.2.hi else xm.2.lo)=(o:Int)/\bO (ps.map (·.2)) j w0 o xm.2.t:=by
    have c:(decide ((w0:Int)=xm.2.lo) || decide ((w0:Int)=xm.2.hi))=true:=c;rw [xX,decide_eq_true_eq,decide_eq_true_eq] at c;by_cases e:(w0:Int)=xm.2.lo
    ·exact ⟨hi,by rw [if_pos e,ehi],xm.2,hm,rfl,.inl ⟨by omega,by omega⟩⟩
    ·exact ⟨lo,by rw [if_neg e,elo],xm.2,hm,rfl,.inr ⟨by omega,by omega⟩⟩
   have oW:o < ah.length:=(lk.inside gd).2.1;obtain ⟨d1,QN⟩:∃ r,A[o]?=some r:=⟨_,zG (by omega)⟩;have md1:=zC QN;have ld1:=(rA d1 md1).2;refine (zr rfl (zr rfl (zr rfl (Yb b j w0 ah tr tm ps xm.2 ⟨rfl,hb.same s2,hm,?_⟩))));rw [eo];refine (zr rfl ⟨by show 1<=sizeLine;omega,λl1 y1=>?_⟩);have w1:=xi (o:=HO.lst [V.int (b1.2.getD s 0)]) y1;have u1:upd H2 l1 (HO.lst [V.int (b1.2.getD s 0)]) l1=some (.lst [V.int (b1.2.getD s 0)]):=xa;generalize upd H2 l1 _=H3 at w1 u1 ⊢;refine (zr rfl ⟨s,rfl,by omega,λls rs H4 s4 kl kr es=>?_⟩);have s24:=(s2.trans w1).trans s4;refine ⟨ls,rfl,⟨_,aG.of kl⟩,?_⟩;have ln:=split_len s;have lrs:rs.length<=s + 1:=by rw [<-es,zA] at ln;exact ln
   refine (let W9:IC:=λi τ acc H5=>(∃ t0 t1,τ=[t0,t1,some (.ref lf),some (.int (o:Int)),some (.int (w0:Int))])/\acc=((rs.take i).map λr=>1 + b1.2.getD r.2.1 0 + d1.2.getD r.2.2 0).map V.int/\ay H4 H5;qK (K:=K) (a:=ls) (xs:=rs.map λr=>V.ref r.1) W9 ⟨⟨_,_,rfl⟩,rfl,ay.refl _⟩ (by rw [zA];omega) ?_ ?_ ?_)
   ·rintro i τ acc H5 ⟨_,rfl,s5⟩;refine ⟨?_,aG.of (s5 _ _ kl)⟩;rw [zA,zA,z8];omega
   ·rintro i v τ acc H5 C hv ⟨⟨t0,t1,rfl⟩,rfl,s5⟩ hC;obtain ⟨r,hr,rfl⟩:=wQ hv;have mr:=zC hr;have r2:=split_le (s:=s) (r:=r.2) (by rw [<-es];exact yE mr);have YU:=s24.trans s5;refine (uD (s5 _ _ (kr r mr)) ?_);refine (zr rfl (zr rfl (cu (YU _ _ kA) (wB (by rw [zF,sd];rfl)) (zr rfl (cu (YU _ _ (rA b1 mb1).1) (fH (by omega)) (aJ rfl rfl ?_))))));refine (zr rfl (zr rfl (cu (YU _ _ kA) (wB (by rw [zF,QN];rfl)) (zr rfl (cu (YU _ _ (rA d1 md1).1) (fH (by omega)) (aJ rfl rfl (hC _ _ _ ⟨⟨_,_,rfl⟩,?_,s5⟩)))))));rw [wK hr,zD,zD];rfl
   ·rintro τ acc H5 ⟨⟨t0,t1,rfl⟩,rfl,s5⟩ lc Mj;rw [zA,yA];have w6:=xi (o:=HO.lst ((rs.map λr=>1 + b1.2.getD r.2.1 0 + d1.2.getD r.2.2 0).map V.int)) Mj;have u6:upd H5 lc (HO.lst ((rs.map λr=>1 + b1.2.getD r.2.1 0 + d1.2.getD r.2.2 0).map V.int)) lc=some (.lst ((rs.map λr=>1 + b1.2.getD r.2.1 0 + d1.2.getD r.2.2 0).map V.int)):=xa;generalize upd H5 lc _=H6 at w6 u6 ⊢;refine ⟨l1,lc,aJ rfl rfl ⟨w6 _ _ (s5 _ _ (s4 _ _ u1)),u6,by rw [zA,zA];show 1 + _<=_;omega,λl2 y2=>?_⟩⟩;have w7:=xi (o:=HO.lst ([V.int (b1.2.getD s 0)]++(rs.map λr=>1 + b1.2.getD r.2.1 0 + d1.2.getD r.2.2 0).map V.int)) y2;refine ⟨l2,b1.2.getD s 0::rs.map λr=>1 + b1.2.getD r.2.1 0 + d1.2.getD r.2.2 0,rfl,aG.of xa,Nat.succ_pos _,λM hM mn=>?_⟩;refine k0 _ _ ⟨M,⟨_,rfl⟩,((s24.trans s5).trans w6).trans w7,.inr ⟨s0,.inr ⟨o,xm.2.t,lk,?_,λp sp=>?_,?_⟩⟩⟩
    ·dsimp only;rw [F1];exact mn _ (.head _)
    ·have:(p,s - p)∈rs.map (·.2):=by rw [es];exact dH.mpr ⟨⟨sp.le,fK.mpr sp⟩,rfl⟩
     obtain ⟨r',uF,e'⟩:=zO.mp this;have:=mn _ (zp _ (yE uF));rw [e'] at this;dsimp only;rw [F1,F2 QN];exact this
    ·rcases zN.mp hM with e | e
     ·exact .inl (by dsimp only;rw [F1];exact e)
     ·obtain ⟨r',uF,e'⟩:=zO.mp e;have mr:r'.2∈gG s:=by rw [<-es];exact yE uF
      obtain ⟨r0,p,q0⟩:=r';obtain ⟨⟨_,b2⟩,rfl⟩:=dH.mp mr;exact .inr ⟨p,fK.mp b2,by dsimp only;rw [F1,F2 QN];exact e'.symm⟩
  ·have c:(decide ((w0:Int)=xm.2.lo) || decide ((w0:Int)=xm.2.hi))=false:=c;rw [Bool.or_eq_false_iff,decide_eq_false_iff_not,decide_eq_false_iff_not] at c;obtain ⟨m',oR,_,cc⟩:=l;rw [hm] at oR;cases oR;rcases cc with ⟨a1,a2⟩ | ⟨a1,a2⟩ <;> omega
theorem KN:d9 T.IB P w base 3 (Rn):=by
 have Jb:=JF P w base T B;have EC:=Gb P w base T B;have La:=K3 P w base T B;refine T.IB.F.ok JA (λvs H Q E h=>?_) (λbP A outer s H vs Q E hr h=>?_)
 ·obtain ⟨_,_,_,_,_,_,_,_,_,_,_,rfl,_⟩:=h;rfl
 ·have nd:=JA.nd;have hu:=hr.units;obtain ⟨b,l,j,w0,v,ah,tr,tm,ps,ws,F,rfl,cx,hw,fo,hF,q⟩:=h;refine cy ?_;intro Y
  let B0:Bk Y ((nb (ak EY) 1).drop 1):=⟨_,(xf (xy (wO (qP zQ zU zV wN (pv 5) (xb (xc (jf (xx qB (pv 7) (pv 6) (aE _)) (bw La hr T.JJ (xb (xc (pv 0) (xc (pv 2) (xc (pv 3) (xc (pv 6) (xc (pv 4) xo rfl) rfl) rfl) rfl) rfl))) (xu (xp rfl) (pv 5) (pv 7) (λ_ _=>rfl))) xo rfl))))))⟩
  let B1:Bk Y ((ak EY).drop 1):=⟨_,(xf (xr (wZ PassesOwn.never rfl (qJ rfl T.cz (xb (xc (xz wJ (bw Jb hr T.GV (xb (xc (pv 1) xo rfl))) xh) xo rfl))) (xk (i:=6) nd rfl rfl) (xf (xr (xt (i:=7) nd rfl rfl (bw EC hr T.CC (xb (xc (pv 0) (xc (pv 1) (xc (pv 2) (xc (pv 3) (xc (pv 6) xo rfl) rfl) rfl) rfl) rfl)))) B0.bl))) (xy (xv (pv 5)))))⟩
  refine ⟨_,(xf (xr (xt (i:=5) nd rfl rfl (wM wu)) B1.bl)),?_⟩;have line:=bD;have w4:=cx.w4;have p16:=SV w4;have p0:=yk ws.length;refine ⟨zX _,λlr N5=>?_⟩;have s1:=xi (o:=HO.lst []) N5;have k1:upd H lr (HO.lst []) lr=some (.lst []):=xa;generalize upd H lr (HO.lst [])=H1 at s1 k1 ⊢;refine (zr rfl ⟨l,ws,zr rfl ⟨(cx.same s1).wa,by omega,aJ rfl rfl ?_⟩⟩);refine ⟨((2 ^ ws.length:Nat):Int),?_,by omega,by omega,?_⟩
  ·show [V.int (((2 ^ ws.length:Nat):Int) - 1 + 1)]=_;rw [Int.sub_add_cancel]
  rw [zf];refine (let W10:IV:=λs σ H5=>∃ r:List Int,(∃ v6 v7,σ=[some (.ref b),some (.ref l),some (.int (j:Int)),some (.int (w0:Int)),some v,some (.ref lr),v6,v7])/\ay H H5/\H5 lr=some (.lst (r.map V.int))/\r.length=s/\∀ s',s' < s->(aC (ps.map (·.2)) (wq ws) j w0 s'=s'->ff (ps.map (·.2)) j F w0 s' (r.getD s' 0))/\r.getD s' 0=r.getD (aC (ps.map (·.2)) (wq ws) j w0 s') 0;cN (lo:=0) (n:=2 ^ ws.length) W10 ⟨[],⟨_,_,rfl⟩,s1,k1,rfl,(λj z=>absurd z (yI _))⟩ ?_ ?_)
  ·rintro s σ H5 hs ⟨r,⟨v6,v7,rfl⟩,s5,k5,VJ,old⟩;rw [Int.zero_add];have Tc:=cx.same s5;have VL:s < 2 ^ (wq ws).length:=by rw [gE];exact hs
   have ole:=(wg (ms:=ps.map (·.2)) (ws:=wq ws) (j:=j) (w:=w0) VL).le;refine (zr rfl (zr rfl (zr rfl (zr rfl (zr rfl (NI b l j w0 s ah tr tm ps ws ⟨rfl,Tc,hs,λH6 s6=>?_⟩))))));have T8:=s5.trans s6;have k6:=s6 _ _ k5;refine (zr rfl ⟨.inl ⟨rfl,_,aG.of k6⟩,zr rfl (zr rfl ⟨rfl,zr rfl ?_⟩)⟩);have put:∀ {H':Hp}{o:HO},ay H H'->ay H (upd H' lr o):=λs a u e=>by rw [xl (xg e N5)];exact s a u e
   by_cases e1:aC (ps.map (·.2)) (wq ws) j w0 s=s
   ·refine bH (decide_eq_true (by rw [e1])) (zr rfl (zr rfl (zr rfl (zr rfl (zr rfl (Sw b j w0 s v ah tr tm ps (2 ^ ws.length) F ⟨rfl,(Tc.same s6).bk,cx.gd,cx.oO,hw,hs,p16,fo.same T8,hF,λx H7 s7 lx=>?_⟩))))));refine ⟨lr,aJ rfl rfl ⟨s7 _ _ k6,by rw [zA];omega,r++[x],⟨_,_,rfl⟩,put (T8.trans s7),by rw [xa,zD];rfl,by rw [zL,VJ];rfl,mW VJ VL old (λ_=>lx) (λn=>absurd e1 n)⟩⟩
   ·refine aF (decide_eq_false (λz=>e1 (Int.ofNat.inj (V.int.inj z)))) (zr rfl (zr rfl (cu k6 (fH (by omega)) ?_)));refine ⟨lr,aJ rfl rfl ⟨k6,by rw [zA];omega,r++[_],⟨_,_,rfl⟩,put T8,by rw [xa,zD];rfl,by rw [zL,VJ];rfl,mW VJ VL old (λn=>absurd n e1) (λ_=>rfl)⟩⟩
  ·rintro σ H5 ⟨r,⟨v6,v7,rfl⟩,s5,k5,VJ,old⟩;exact (zr rfl (q lr r H5 s5 N5 k5 VJ λs hs=>old s (by rw [gE] at hs;exact hs)))
theorem Ig:d9 T.C0 P w base 4 (uU):=by
 have K6:=KN P w base T B;refine T.C0.F.ok EQ (λvs H Q E h=>?_) (λbP A outer s H vs Q E hr h=>?_)
 ·obtain ⟨_,_,_,_,_,_,_,rfl,_⟩:=h;rfl
 ·have nd:=EQ.nd;have hu:=hr.units;obtain ⟨b,l,ah,tr,tm,ps,ws,rfl,cx,q⟩:=h;refine cy ?_;intro Y
  let B0:Bk Y ((nb (ak wj) 1).drop 1):=⟨_,(xf (xy (wO (qP zQ zU zV wN (pv 2) (xb (xc (wy (own:=["walker"]) (caps:=[0,1,3,4]) rfl (show aI ["walker"] [0,1,3,4] ["book", "wishes", "prices", "stretch", "following"] (aq wj) _ from L2.iz) (qJ rfl T.cz (xb (xc (xw (xq rfl) (by rfl) T.bL PySem.boot_len (xb (xc (xu (wC rfl) (pv 0) xh (λ_ _=>rfl)) xo rfl))) xo rfl))) (λ_ _ _ _=>(xk (i:=0) (show List.Nodup (["walker", "book", "wishes", "stretch", "following"]:List Str) from by decide +kernel) rfl rfl)) (λ_ _ _ _=>qG) (λ_ _ _ _=>(bw K6 hr T.IB (xb (xc (pv 1) (xc (pv 2) (xc (pv 3) (xc (pv 0) (xc (pv 4) xo rfl) rfl) rfl) rfl) rfl))))) xo rfl))))))⟩
  let B1:Bk Y ((ak wj).drop 1):=⟨_,(xf (xr (wZ PassesOwn.never rfl (RD rfl T.vV rfl T.cz (xb (xc (xz wJ (xw (xq rfl) (by rfl) T.bL PySem.boot_len (xb (xc (xu (wC rfl) (pv 0) xh (λ_ _=>rfl)) xo rfl))) xh) xo rfl))) (xk (i:=3) nd rfl rfl) (xf (xr (xt (i:=4) nd rfl rfl (jf (sZ (pv 2) (λ_=>rfl)) (xu (xp rfl) (pv 2) (L3 qo xh) (λ_ _=>rfl)) fu)) B0.bl))) (xy (xv (l8 rfl (pv 2))))))⟩
  refine ⟨_,(xf (xr (xt (i:=2) nd rfl rfl (wM wu)) B1.bl)),?_⟩;have line:=bD;have w4:=cx.w4;have n60:=cx.gd.len;have oO:=cx.oO;refine ⟨zX _,λlp hlp=>?_⟩;have s1:=xi (o:=HO.lst []) hlp;have k1:upd H lp (HO.lst []) lp=some (.lst []):=xa;generalize upd H lp (HO.lst [])=H1 at s1 k1 ⊢;have sd:=cx.bk.same s1;refine (zr rfl (fF sd.book rfl ⟨tm,zr rfl ⟨.inr (bT.of sd.meets),aJ rfl rfl ⟨ps.length + 1,by rw [zA];rfl,by omega,?_⟩⟩⟩));refine (let W11:IV:=λi σ H5=>∃ A,(∃ v3 v4,σ=[some (.ref b),some (.ref l),some (.ref lp),v3,v4])/\ay H H5/\iZ H H5 lp ah.length (2 ^ ws.length) (ps.map (·.2)) (wq ws) A i;vJ W11 ⟨[],⟨_,_,rfl⟩,s1,k1,(λ_ z=>nomatch z),(λ_ z=>nomatch z),rfl,(λ_ z=>absurd z (yI _))⟩ ?_ ?_)
  ·rintro i σ H5 hi ⟨A,⟨v3,v4,rfl⟩,s5,d5⟩;have ej:((ps.length + 1:Nat):Int) - 1 + (i:Nat) * -1=((ps.length - i:Nat):Int):=by omega
   rw [ej];have Tc:=cx.same s5;obtain ⟨v,F,fo,eF,hv⟩:=d5.via (K:=K) (σ:=[some (.ref b),some (.ref l),some (.ref lp),some (.int ((ps.length - i:Nat):Int)),v4]) rfl;refine (zr rfl ⟨_,.inl ⟨_,aG.of d5.top,rfl⟩,hv _ ?_⟩);have hF:∀ G,F=some G->ps.length - i < ps.length:=λG z=>by
    by_cases e:i=0
    ·rw [if_pos e] at eF;rw [eF] at z;cases z
    ·omega
   have hb5:=Tc.bk;refine (zr rfl ⟨.inl ⟨rfl,_,aG.of d5.top⟩,zr rfl (fF hb5.book rfl ⟨tr,zr rfl ⟨.inr (bT.of hb5.ah),zr rfl ⟨by rw [zA];omega,by rw [zA];omega,?_⟩⟩⟩)⟩);rw [show (((ah.map V.int).length:Nat):Int).toNat=ah.length by rw [zA];rfl];refine (let W12:IC:=λw0 τ acc H6=>∃ B:List rT,(∃ t0,τ=[t0,some (.ref b),some (.ref l),some (.int ((ps.length - i:Nat):Int)),some v])/\acc=(B.map λb=>V.ref b.1)/\B.length=w0/\ay H5 H6/\QB H H6 lp (2 ^ ws.length) (ps.map (·.2)) (wq ws) (ps.length - i) F B;fX (lo:=0) (m:=ah.length) W12 ⟨[],⟨_,rfl⟩,rfl,rfl,ay.refl _,QB.nil⟩ (by omega) ?_ ?_ ?_)
   ·rintro w0 τ acc H6 ⟨B,_,rfl,e,_,_⟩;rw [zA,e];exact zE _
   ·rintro w0 τ acc H6 C hw ⟨B,⟨t0,rfl⟩,rfl,e,s6,rB⟩ hC;rw [Int.zero_add];refine (zr rfl (zr rfl (zr rfl (zr rfl (zr rfl (Sw b l (ps.length - i) w0 v ah tr tm ps ws F ⟨rfl,Tc.same s6,hw,fo.same s6,hF,λlr r H7 s7 f7 k7 l7 d7=>?_⟩))))));refine hC _ _ _ ⟨B++[(lr,r)],⟨_,rfl⟩,by rw [zD];rfl,by rw [zL,e];rfl,s6.trans s7,(rB.same s7).snoc k7 l7 ((s5.trans s6).free f7) ?_ (by rw [e];exact d7)⟩;exact Ne.symm (xg (s6 _ _ d5.top) f7)
   ·rintro τ acc H6 ⟨B,⟨t0,rfl⟩,rfl,e,s6,rB⟩ la Nz;have s7:=xi (o:=HO.lst (B.map λb=>V.ref b.1)) Nz;have k7:upd H6 la (HO.lst (B.map λb=>V.ref b.1)) la=some (.lst (B.map λb=>V.ref b.1)):=xa;generalize upd H6 la _=H7 at s7 k7 ⊢;have d7:=(d5.same s6).same s7;have ne:la≠lp:=Ne.symm (xg (s6 _ _ d5.top) Nz);have lA:A.length=i:=d5.len;refine ⟨lp,aJ rfl rfl ⟨d7.top,by rw [zA];omega,A++[(la,B)],⟨_,_,rfl⟩,ay.put hlp ((s5.trans s6).trans s7),?_⟩⟩;have bt:∀ c u,c≠lp->H7 c=some u->upd H7 lp (.lst (A.map (λa=>V.ref a.1)++[V.ref la])) c=some u:=λc u n k=>by rw [xl n];exact k
    have YY:=rB.same s7;refine d7.snoc (F:=F) bt xa (bt _ _ ne k7) ((s5.trans s6).free Nz) ne e ⟨λx hx=>⟨bt _ _ (YY.row x hx).2.2.2 (YY.row x hx).1,(YY.row x hx).2⟩,?_⟩ eF;rw [zA];exact YY.dp
  ·rintro σ H5 ⟨A,⟨v3,v4,rfl⟩,s5,d5⟩;have gd:=cx.gd;have lA:A.length=ps.length + 1:=d5.len;have nA:(ps.map (·.2)).length=ps.length:=zA _;rw [<-nA] at d5;refine (zr rfl ⟨lp,zr rfl ⟨aG.of d5.top,λlq hq=>?_⟩⟩);have s6:=xi (o:=HO.lst (A.map λa=>V.ref a.1).reverse) hq;have k6:upd H5 lq (HO.lst (A.map λa=>V.ref a.1).reverse) lq=some (.lst (A.map λa=>V.ref a.1).reverse):=xa;generalize upd H5 lq _=H6 at s6 k6 ⊢;rw [<-List.map_reverse] at k6;rw [gE ws |>.symm] at d5;have pr:=d5.pr gd s6 k6;rw [nA,gE] at pr;exact q lq A.reverse H6 (s5.trans s6) (s5.free hq) (λa ha=>⟨(d5.str a (yU.mp ha)).2.2.1,λb hb=>(d5.row a (yU.mp ha) b hb).2.2.1⟩) pr (d5.done gd)
theorem Jl:d9 T.Eb P w base 4 (OL a.tP cM):=by
 have IZ:=JE P w base T B;refine T.Eb.F.okC T.aaO F4 (λvs H Q E h=>?_) (λA outer s H vs Q E hr h=>?_)
 ·obtain ⟨_,_,_,_,_,_,rfl,_⟩:=h;rfl
 ·have nd:=F4.nd;have hu:=hr.units;obtain ⟨lk,lg,s,xs,ys,sz,rfl,k1,k2,e1,e2,hs,s16,mt,q⟩:=h;refine ⟨_,(xf (xy (xv (M6 (caps:=[0,1]) (pn := "pair") rfl rfl T.qj rfl T.aaN B rfl (hr.mono (by decide)) (show jD ["pair"] [0,1] ["kept", "given", "some"] (aq Cy) _ from ⟨rfl,rfl,rfl,by decide +kernel,by decide +kernel,by decide +kernel,by decide +kernel,by decide +kernel⟩) (λ_ _ _ _ _=>rfl) (λ_ _ _ _ _=>(xz wJ (xu (xp rfl) (pv 1) (xu (wC rfl) (pv 0) xh (λ_ _=>rfl)) (λ_ _=>rfl)) (xu (xp rfl) (pv 2) (xu (wC rfl) (pv 0) xh (λ_ _=>rfl)) (λ_ _=>rfl)))) (bw IZ hr T.GU (xb (xc (pv 2) xo rfl))) rfl)))),?_⟩;have line:=bD;refine (zr rfl ⟨s,rfl,by omega,λl0 rs H1 s1 kl kr es=>?_⟩);have mt1:=mt.dO s1;have ge:∀ {z:Addr}{ns:List Int}{H':Hp},H z=some (.lst (ns.map V.int))->bN a.tP H1 H'->H' z=some (.lst (ns.map V.int)):=λk bt=>bt _ _ (mt.Pq k) (s1 _ _ k);refine ⟨l0,rs.map (λr=>(r.1,[(r.2.1:Int),(r.2.2:Int)])),(λz=>xs.getD (z.getD 0 0).toNat 0 + ys.getD (z.getD 1 0).toNat 0),rfl,by rw [zg];exact kl,?_,mt1,λx hx=>?_,λx hx H' bt=>?_,λx H2 hx best bt WU=>?_⟩
  ·rw [zA];have:(0,s)∈rs.map (·.2):=by rw [es];exact dH.mpr ⟨⟨zX _,Nat.zero_and _⟩,rfl⟩
   obtain ⟨r,hr,_⟩:=zO.mp this;exact List.length_pos_of_mem hr
  ·obtain ⟨r,hr,rfl⟩:=zO.mp hx;exact kr r hr
  ·obtain ⟨r,hr,rfl⟩:=zO.mp hx;have le:=split_le (s:=s) (r:=r.2) (by rw [<-es];exact yE hr);have k:=bt _ _ (mt1.vn (kr r hr)) (kr r hr);refine (zr rfl (zr rfl (fF k rfl (cu (ge k1 bt) (fH (by omega)) (zr rfl (zr rfl (fF k rfl (cu (ge k2 bt) (fH (by omega)) (aJ rfl rfl ⟨rfl,ay.refl _⟩)))))))))
  ·obtain ⟨r,hr,rfl⟩:=zO.mp hx;have mr:r.2∈gG s:=by rw [<-es];exact yE hr
   obtain ⟨r0,p,q0⟩:=r;obtain ⟨⟨_,b2⟩,rfl⟩:=dH.mp mr;refine q r0 p H2 (λb u n e=>bt b u n (s1 b u e)) WU (bt _ _ (mt1.vn (kr _ hr)) (kr _ hr)) (fK.mp b2) λp' sp=>?_;have:(p',s - p')∈rs.map (·.2):=by rw [es];exact dH.mpr ⟨⟨sp.le,fK.mpr sp⟩,rfl⟩
   obtain ⟨r',uF,e'⟩:=zO.mp this;have:=best _ (yE uF);rw [e'] at this;exact this
theorem Ks:d9 T.He P w base 5 (Oz a.tP cM):=by
 have Hs:=IF P w base T B;have AN:=Cc P w base T B;have Jb:=JF P w base T B;have EC:=Gb P w base T B;have J7:=Jl P w base T B;refine T.He.F.ok Ip (λvs H Q E h=>?_) (λbP A outer s H vs Q E hr h=>?_)
 ·obtain ⟨_,_,_,_,_,_,_,_,_,_,_,rfl,_⟩:=h;rfl
 ·have nd:=Ip.nd;have hu:=hr.units;obtain ⟨b,k,a0,l,lp,ah,tr,tm,ps,ws,P,rfl,cx,hk,dp,fin,own,mt,q⟩:=h;refine cy ?_;intro Y
  let B0:Bk Y ((nb (ak wc) 2).drop 9):=⟨_,(xf (xy (wO (qP zQ zU zV wN (pv 6) (xb (xc (wS (xb (xc (xz wJ (pv 7) xh) (xc (pv 11) (xc (pv 13) xo rfl) rfl) rfl))) xo rfl))))))⟩
  let B1:Bk Y ((nb (ak wc) 2).drop 8):=⟨_,(xf (xr (wO (qP zQ zU zV wN (pv 6) (xb (xc (wS (xb (xc (xz wJ (pv 7) xh) (xc (pv 8) (xc (pv 12) xo rfl) rfl) rfl))) xo rfl)))) B0.bl))⟩
  let B2:Bk Y ((nb (ak wc) 2).drop 7):=⟨_,(xf (xr (wO (qP zQ zU zV wN (pv 5) (xb (xc (wS (xb (xc (pv 7) (xc (pv 8) xo rfl) rfl))) xo rfl)))) B1.bl))⟩
  let B3:Bk Y ((nb (ak wc) 2).drop 6):=⟨_,(xf (xr (we (bw J7 hr T.Eb (xb (xc (xu (xp rfl) (pv 10) (pv 8) (λ_ _=>rfl)) (xc (xu (xp rfl) (pv 10) (pv 11) (λ_ _=>rfl)) (xc (pv 9) xo rfl) rfl) rfl))) (wE (n:=2) rfl rfl (xj (xk (i:=12) nd rfl rfl) (xj (xk (i:=13) nd rfl rfl) wD)))) B2.bl))⟩
  let B4:Bk Y (nb (nb (ak wc) 2) 4):=⟨_,(xf (xr (wO (qP zQ zU zV wN (pv 6) (xb (xc (wS (xb (xc (xz wJ (pv 7) xh) (xc (pv 8) (xc (pv 9) xo rfl) rfl) rfl))) xo rfl)))) (xy kU)))⟩
  let B5:Bk Y ((nb (ak wc) 2).drop 4):=⟨_,(xf (xr (wG (xx qB (xu (xp rfl) (xu (xp rfl) (xu (xp rfl) (pv 4) (pv 7) (λ_ _=>rfl)) (pv 8) (λ_ _=>rfl)) (pv 9) (λ_ _=>rfl)) (xu (xp rfl) (xu (xp rfl) (pv 10) (pv 8) (λ_ _=>rfl)) (pv 9) (λ_ _=>rfl)) (aE _)) B4.ps wA) (xr (xt (i:=11) nd rfl rfl (bw AN hr T.Bi (xb (xc (pv 0) (xc (pv 7) (xc (pv 8) xo rfl) rfl) rfl)))) B3.bl)))⟩
  let B6:Bk Y ((nb (ak wc) 2).drop 2):=⟨_,(xf (xr (wG (xx qB (pv 9) xh (aE _)) (xf (xy kU)) wA) (xr (xt (i:=10) nd rfl rfl (xu (xp rfl) (pv 4) (xz wJ (pv 7) xh) (λ_ _=>rfl))) B5.bl)))⟩
  let B7:Bk Y (nb (ak wc) 2):=⟨_,(xf (xr (we (O5 zQ PySem.F.slot_list_pop PySem.F.type_list_pop Ut (pv 6)) (wE (n:=3) rfl rfl (xj (xk (i:=7) nd rfl rfl) (xj (xk (i:=8) nd rfl rfl) (xj (xk (i:=9) nd rfl rfl) wD))))) (xr (xt (i:=9) nd rfl rfl (bw EC hr T.CC (xb (xc (pv 0) (xc (pv 3) (xc (pv 7) (xc (pv 8) (xc (pv 9) xo rfl) rfl) rfl) rfl) rfl)))) B6.bl)))⟩
  let B8:Bk Y ((ak wc).drop 1):=⟨_,(xf (xr (xt (i:=6) nd rfl rfl (wM (xb (xc (wS (xb (xc (bw Hs hr T.FH (xb (xc (pv 0) (xc (pv 2) xo rfl) rfl))) (xc (pv 1) (xc (bw Jb hr T.GV (xb (xc (pv 3) xo rfl))) xo rfl) rfl) rfl))) xo rfl)))) (xr (mY PassesOwn.never (sZ (pv 6) (λ_=>rfl)) B7.ps) (xy (xv (xw (ou) (by rfl) T.oB PyProof.Rows.boot_sorted (xb (xc (pv 5) xo rfl))))))))⟩
  refine ⟨_,(xf (xr (xt (i:=5) nd rfl rfl (wM wu)) B8.bl)),?_⟩;have line:=bD;have w4:=cx.w4;have gd:=cx.gd;have n60:ps.length<=60:=gd.len;have p16:=SV w4;have p0:=yk ws.length;have eK:(wq ws).length=ws.length:=gE ws;have nm:(ps.map (·.2)).length=ps.length:=zA _;have Se:∀ x∈wq ws,x.1 < ah.length:=λx hx=>by
   obtain ⟨y,hy,rfl⟩:=zO.mp hx;exact (cx.wa.2 y hy).2
  have fr:=dp.Vf gd Se;refine ⟨zX _,λlg hlg=>?_⟩;have s1:=xi (o:=HO.lst []) hlg;have k1:upd H lg (HO.lst []) lg=some (.lst []):=xa;generalize upd H lg (HO.lst [])=H1 at s1 k1 ⊢;have cx1:=cx.same s1;refine (zr rfl (zr rfl (ex6 b a0 ah tr tm ps ⟨rfl,cx1.bk,by omega,λH2 s2=>?_⟩)));have cx2:=cx1.same s2;refine (zr rfl (zr rfl ⟨l,ws,zr rfl ⟨cx2.wa,by omega,by show 3<=sizeLine;omega,λt ht=>?_⟩⟩));have s3:=xi (o:=HO.tup [V.int (cnt (ps.map (·.2)) a0:Nat),V.int (k:Int),V.int (((2 ^ ws.length:Nat):Int) - 1)]) ht;have k3:upd H2 t (HO.tup [V.int (cnt (ps.map (·.2)) a0:Nat),V.int (k:Int),V.int (((2 ^ ws.length:Nat):Int) - 1)]) t=some (.tup [V.int (cnt (ps.map (·.2)) a0:Nat),V.int (k:Int),V.int ((2 ^ (wq ws).length - 1:Nat):Int)]):=by
   rw [xa,eK,show ((2 ^ ws.length - 1:Nat):Int)=((2 ^ ws.length:Nat):Int) - 1 by omega]
  generalize upd H2 t _=H3 at s3 k3 ⊢;refine ⟨by show 1<=sizeLine;omega,λlq hlq=>?_⟩;have s4:=xi (o:=HO.lst [V.ref t]) hlq;have k4:upd H3 lq (HO.lst [V.ref t]) lq=some (.lst [V.ref t]):=xa;generalize upd H3 lq (HO.lst [V.ref t])=H4 at s4 k4 ⊢;have s14:=(s2.trans s3).trans s4;have s04:=s1.trans s14;have L4:gY a.tP cM H H4 lg lq [] [(t,(cnt (ps.map (·.2)) a0,k,2 ^ (wq ws).length - 1))]:=
   ⟨ay.uw s04,mt.dO s04,hlg,((s1.trans s2).trans s3).free hlq,xg ((s2.trans s3) _ _ k1) hlq,s14 _ _ k1,k4,(λ_ z=>nomatch z),λx hx=>by cases zJ.mp hx;exact s4 _ _ k3⟩
  refine acN ?_;refine Q4 (m0:=gR (ps.map (·.2)).length ([(t,(cnt (ps.map (·.2)) a0,k,2 ^ (wq ws).length - 1))].map (·.2))) (λm σ H5=>∃ G:List (Addr×Nat×Nat),∃ Qs:List (Addr×gq),(∃ v7 v8 v9 v10 v11 QH QG,σ=[some (.ref b),some (.int (k:Int)),some (.int a0),some (.ref l),some (.ref lp),some (.ref lg),some (.ref lq),v7,v8,v9,v10,v11,QH,QG])/\m=gR (ps.map (·.2)).length (Qs.map (·.2))/\gY a.tP cM H H5 lg lq G Qs/\oG Qs/\bY (ps.map (·.2)) (cP (aV P)) ah.length (wq ws) k a0 (G.map (·.2)) (Qs.map (·.2))) ⟨[],_,⟨_,_,_,_,_,_,_,rfl⟩,rfl,L4,(λi x h=>by cases i with | zero=>exact zX _ | succ i=>cases h),bY.start hk⟩ ?_ ?_
  ·rintro m σ H5 ⟨G,Qs,⟨v7,v8,v9,v10,v11,QH,QG,rfl⟩,rfl,L5,Rj,ex⟩;rcases List.eq_nil_or_concat Qs with rfl | ⟨Q0,⟨q0,j,w0,s⟩,eQ⟩
   ·refine (zr rfl ⟨false,.inl ⟨_,aG.of L5.kq,rfl⟩,aF rfl ?_⟩);have eG:=ex.c;have sG:=ex.s;rw [yG,yG,xQ,Int.add_zero] at eG;obtain ⟨T,h,tre,sv,lT,pT,tT⟩:=Tt fr gd hk (G:=G.map (·.2)) eG (λk x hx=>by
     rcases sG k x hx with ⟨y,hy,_⟩ | h
     ·cases hy
     ·exact h) own
    rw [eK] at eG lT;rw [zA] at eG;refine (zr rfl ⟨lg,G.map (λx=>(x.1,[(x.2.1:Int),(x.2.2:Int)])),rfl,by rw [zg];exact aG.of L5.kg,by rw [zA];omega,λy hy=>?_,λls qs hls pm srt=>?_⟩)
    ·obtain ⟨x,hx,rfl⟩:=zO.mp hy;exact ⟨L5.pg x hx,List.cons_ne_nil _ _⟩
    ·obtain ⟨Tl,pl,rfl,eT⟩:=Tw pm srt pT tT;rw [zg];have s6:=xi (o:=HO.lst (Tl.map λx=>V.ref x.1)) hls;refine q ls Tl h _ (L5.bt.jW s6) (L5.mt.dO s6) (Vd L5.mt L5.bt hls) ⟨xa,λx hx=>s6 _ _ (L5.pg x (pl.mem_iff.mp hx)),by rw [eT];exact tre,sv⟩ ?_;rw [<-eT,zA] at lT;exact lT
   ·rw [List.concat_eq_append] at eQ;subst eQ;rw [zD] at ex;obtain ⟨hj,hw,hs,has⟩:=ex.last;rw [eK] at hs;rw [nm] at hj;refine (zr rfl ⟨true,.inl ⟨_,aG.of L5.kq,by rw [zD];cases Q0 <;> rfl⟩,bH rfl ?_⟩);refine (zr rfl ⟨.inl ⟨rfl,_,aG.of L5.kq⟩,lq,_,V.ref q0,rfl,rfl,L5.kq,by rw [zD,zL,zb (by simp)];simp,?_⟩);rw [show (List.map (λx=>V.ref x.1) (Q0++[(q0,j,w0,s)])).dropLast=Q0.map λx=>V.ref x.1 by rw [zD];exact List.dropLast_concat];have kx:=L5.pq _ (zI _ (.head _));have L6:=L5.Ws (Q':=Q0) λx hx=>L5.pq x (zY _ hx);have k6:upd H5 lq (.lst (Q0.map λx=>V.ref x.1)) q0=some (.tup [.int (j:Int),.int (w0:Int),.int (s:Int)]):=by rw [xl (wU kx L5.kq (by intro z;cases z))];exact kx
    generalize upd H5 lq (.lst (Q0.map λx=>V.ref x.1))=H6 at L6 k6 ⊢;have QY:=cx.oz mt L6.bt;refine (un3 k6 ?_);refine (zr rfl (zr rfl (zr rfl (zr rfl (zr rfl (NI b l j w0 s ah tr tm ps ws ⟨rfl,QY.cb,hs,λH7 s7=>?_⟩))))));have L7:=L6.same s7;have My:=QY.same s7;refine (zr rfl ⟨rfl,zr rfl ?_⟩);have m1:gR (ps.map (·.2)).length ((Q0++[(q0,j,w0,s)]).map (·.2))=gR (ps.map (·.2)).length (Q0.map (·.2)) + 3 ^ (ps.length - j):=by rw [zD,<- nm];exact jj _ _ _
    have pw0:=Nat.pow_pos (n:=ps.length - j) (show 0 < 3 by decide);by_cases e0:aC (ps.map (·.2)) (wq ws) j w0 s=0
    ·refine bH (decide_eq_true (by rw [e0];rfl)) ⟨_,?_,G,Q0,⟨_,_,_,_,_,_,_,rfl⟩,rfl,L7,Rj.pop.1,ex.drop dp fr e0⟩;rw [m1];omega
    refine aF (decide_eq_false (λz=>e0 (Int.ofNat.inj (V.int.inj z)))) ?_;have lt:=ex.RO dp gd (by rw [nm,eK];exact fin) e0;rw [nm] at lt;have os:=(wg (ms:=ps.map (·.2)) (j:=j) (w:=w0) (s:=s) (ws:=wq ws) (by rw [eK];exact hs)).lt hs;obtain ⟨A1,B1,hA1,hB1,mA1,mB1,lB1,vB1⟩:=My.pr.get (j:=j + 1) (k:=w0) lt hw;obtain ⟨A0,B0,hA0,hB0,mA0,mB0,lB0,vB0⟩:=My.pr.get (j:=j) (k:=w0) hj hw;refine (zr rfl (zr rfl (aJ rfl rfl (cu My.pr.top (wB (j:=j + 1) (by rw [zF,hA1];rfl)) ?_))));have sA1:=My.pr.str A1 mA1;have sB1:=My.pr.row A1 mA1 B1 mB1;have gB1:dI (B1.2.map V.int) ((aC (ps.map (·.2)) (wq ws) j w0 s:Nat):Int)=some (.int (cP (aV P) (j + 1) w0 (aC (ps.map (·.2)) (wq ws) j w0 s))):=by rw [<-vB1];exact fH (by omega)
    have gB0:dI (B0.2.map V.int) ((aC (ps.map (·.2)) (wq ws) j w0 s:Nat):Int)=some (.int (cP (aV P) j w0 (aC (ps.map (·.2)) (wq ws) j w0 s))):=by rw [<-vB0];exact fH (by omega)
    refine (zr rfl (zr rfl (cu My.pr.top (wB (by rw [zF,hA0];rfl)) (zr rfl (cu (My.pr.str A0 mA0) (wB (by rw [zF,hB0];rfl)) (zr rfl (cu (My.pr.row A0 mA0 B0 mB0) gB0 ?_)))))));refine (zr rfl (zr rfl (cu sA1 (wB (by rw [zF,hB1];rfl)) (zr rfl (cu sB1 gB1 ⟨rfl,zr rfl ?_⟩)))));have pw1:=aba ps.length j lt;have sq:Q0.length<=j + 1:=Rj.pop.2;by_cases e1:cP (aV P) j w0 (aC (ps.map (·.2)) (wq ws) j w0 s)=cP (aV P) (j + 1) w0 (aC (ps.map (·.2)) (wq ws) j w0 s)
    ·refine bH (decide_eq_true (by rw [e1])) ?_;refine (zr rfl ⟨.inl ⟨rfl,_,aG.of L7.kq⟩,zr rfl (aJ rfl rfl (zr rfl (zr rfl ⟨by show 3<=sizeLine;omega,λt1 Nx=>?_⟩)))⟩);have s8:=xi (o:=HO.tup [V.int ((j:Int) + 1),V.int (w0:Int),V.int ((aC (ps.map (·.2)) (wq ws) j w0 s:Nat):Int)]) Nx;have k8:upd H7 t1 (HO.tup [V.int ((j:Int) + 1),V.int (w0:Int),V.int ((aC (ps.map (·.2)) (wq ws) j w0 s:Nat):Int)]) t1=some (.tup [V.int ((j + 1:Nat):Int),V.int (w0:Int),V.int ((aC (ps.map (·.2)) (wq ws) j w0 s:Nat):Int)]):=xa;generalize upd H7 t1 _=H8 at s8 k8 ⊢;have L8:=L7.same s8;refine ⟨lq,aJ rfl rfl ⟨L8.kq,by rw [zA];omega,_,?_,G,Q0++[(t1,(j + 1,w0,aC (ps.map (·.2)) (wq ws) j w0 s))],⟨_,_,_,_,_,_,_,rfl⟩,rfl,L8.Vr k8,Rj.pop.1.push (by show Q0.length<=j + 1 + 1;omega),?_⟩⟩
     ·rw [m1,zD,show gR (ps.map (·.2)).length (Q0.map (·.2)++[(t1,(j + 1,w0,aC (ps.map (·.2)) (wq ws) j w0 s))].map (·.2))=gR (ps.map (·.2)).length (Q0.map (·.2)) + 3 ^ (ps.length - (j + 1)) by rw [<-nm];exact jj _ _ _];omega
     ·rw [zD];exact ex.go dp (by rw [nm];exact lt) e1
    ·refine aF (decide_eq_false (λz=>e1 (V.int.inj z))) ?_;obtain ⟨o,tt,lk,gv⟩:=U9 dp (by rw [nm];exact lt) hw (by rw [eK];exact hs) e0 e1;obtain ⟨mm,UT,emm,cmm⟩:=id lk;obtain ⟨ho,oW,_⟩:=lk.inside gd;have fx:=gd.each mm (zC UT);have eo:(if (w0:Int)=mm.lo then mm.hi else mm.lo)=(o:Int):=by
      rcases cmm with ⟨c1,c2⟩ | ⟨c1,c2⟩ <;> (split <;> omega)
     have acC:=ex.lC dp gd (by rw [nm,eK];exact fin);rw [zA,nm] at acC;refine (zr rfl (zr rfl (zr rfl (Yb b j w0 ah tr tm ps mm ⟨rfl,My.bk,UT,?_⟩))));rw [eo];obtain ⟨A2,B2,hA2,hB2,mA2,mB2,lB2,vB2⟩:=My.pr.get (j:=j + 1) (k:=o) lt oW;obtain rfl:A1=A2:=by rw [hA1] at hA2;exact Option.some.inj hA2
     refine (zr rfl (zr rfl (cu sA1 (wB (by rw [zF,hB1];rfl)) (zr rfl (zr rfl (cu sA1 (wB (by rw [zF,hB2];rfl)) (zr rfl ⟨B1.1,B2.1,aC (ps.map (·.2)) (wq ws) j w0 s,B1.2,B2.2,2 ^ ws.length,rfl,sB1,My.pr.row A1 mA1 B2 mB2,lB1,lB2,os,p16,L7.mt,λt2 p H8 b8 Y5 k8 sp mn=>?_⟩)))))));have L8:=L7.but b8 Y5;refine (uD k8 ?_);refine (zr rfl ⟨.inl ⟨rfl,_,aG.of L8.kg⟩,zr rfl (zr rfl ⟨by show 2<=sizeLine;omega,λt3 ht3=>?_⟩)⟩);have s9:=xi (o:=HO.tup [V.int (j:Int),V.int (w0:Int)]) ht3;have k9:upd H8 t3 (HO.tup [V.int (j:Int),V.int (w0:Int)]) t3=some (.tup [V.int (j:Int),V.int (w0:Int)]):=xa;generalize upd H8 t3 _=H9 at s9 k9 ⊢;have L9:=L8.same s9;refine ⟨lg,aJ rfl rfl ⟨L9.kg,by rw [zA];omega,?_⟩⟩;have L10:=L9.acP (x:=(j,w0)) k9;generalize upd H9 lg _=VY at L10 ⊢;refine (zr rfl ⟨.inl ⟨rfl,_,aG.of L10.kq⟩,zr rfl (aJ rfl rfl (zr rfl (zr rfl ⟨by show 3<=sizeLine;omega,λt4 ht4=>?_⟩)))⟩);have s11:=xi (o:=HO.tup [V.int ((j:Int) + 1),V.int (w0:Int),V.int (p:Int)]) ht4;have k11:upd VY t4 (HO.tup [V.int ((j:Int) + 1),V.int (w0:Int),V.int (p:Int)]) t4=some (.tup [V.int ((j + 1:Nat):Int),V.int (w0:Int),V.int (p:Int)]):=xa;generalize upd VY t4 _=H11 at s11 k11 ⊢;have L11:=L10.same s11;refine ⟨lq,aJ rfl rfl ⟨L11.kq,by rw [zA];omega,?_⟩⟩;have L12:=L11.Vr (x:=(j + 1,w0,p)) k11;generalize upd H11 lq _=VX at L12 ⊢;refine (zr rfl ⟨.inl ⟨rfl,_,aG.of L12.kq⟩,zr rfl (aJ rfl rfl (zr rfl (zr rfl ⟨by show 3<=sizeLine;omega,λt5 ht5=>?_⟩)))⟩);have s13:=xi (o:=HO.tup [V.int ((j:Int) + 1),V.int (o:Int),V.int ((aC (ps.map (·.2)) (wq ws) j w0 s - p:Nat):Int)]) ht5;have k13:upd VX t5 (HO.tup [V.int ((j:Int) + 1),V.int (o:Int),V.int ((aC (ps.map (·.2)) (wq ws) j w0 s - p:Nat):Int)]) t5=some (.tup [V.int ((j + 1:Nat):Int),V.int (o:Int),V.int ((aC (ps.map (·.2)) (wq ws) j w0 s - p:Nat):Int)]):=xa;generalize upd VX t5 _=H13 at s13 k13 ⊢;have L13:=L12.same s13;refine ⟨lq,aJ rfl rfl ⟨L13.kq,by rw [zA,zL];show Q0.length + 1 < _;omega,_,?_,G++[(t3,(j,w0))],Q0++[(t4,(j + 1,w0,p))]++[(t5,(j + 1,o,aC (ps.map (·.2)) (wq ws) j w0 s - p))],⟨_,_,_,_,_,_,_,rfl⟩,rfl,L13.Vr k13,(Rj.pop.1.push (by show Q0.length<=j + 1 + 1;omega)).push (by rw [zL];show Q0.length + 1<=j + 1 + 1;omega),?_⟩⟩
     ·rw [m1,zD,zD,show gR (ps.map (·.2)).length (Q0.map (·.2)++[(t4,(j + 1,w0,p))].map (·.2)++[(t5,(j + 1,o,aC (ps.map (·.2)) (wq ws) j w0 s - p))].map (·.2))=gR (ps.map (·.2)).length (Q0.map (·.2)) + 3 ^ (ps.length - (j + 1)) + 3 ^ (ps.length - (j + 1)) by rw [<-nm];exact (jj _ _ _).trans (congrArg (· + _) (jj _ _ _))];have:0 < 3 ^ (ps.length - (j + 1)):=Nat.pow_pos (by decide);omega
     ·rw [zD,zD,zD];refine ex.give dp gd lk sp (gv p sp λp' sp'=>?_);rw [<-vB1,<- vB1,<- vB2,<- vB2];exact mn p' sp'
  ·rintro σ H5 Q1 Q2 h ⟨v,e,k',t',c⟩;exact ⟨v,e,k',t',h _ _ c⟩
theorem KM:d9 T.IA P w base 6 (sU a.tP cM):=by
 have Hr:=GX P w base T B;have KC:=Kg P w base T B;have Ja:=Ig P w base T B;have KU:=Ks P w base T B;refine T.IA.F.ok Jy (λvs H Q E h=>?_) (λbP A outer s H vs Q E hr h=>?_)
 ·obtain ⟨_,_,_,_,_,_,_,_,_,rfl,_⟩:=h;rfl
 ·have nd:=Jy.nd;have hu:=hr.units;obtain ⟨b,k,a0,l,ah,tr,tm,ps,ws,rfl,cx,r8,p24,w1,hk,Zu,Zt,lst,mt,q⟩:=h;refine ⟨_,(xf (xr (wG (PW.pt (pQ (xx tE (xw (xq rfl) (by rfl) T.bL PySem.boot_len (xb (xc (xu (wC rfl) (pv 0) xh (λ_ _=>rfl)) xo rfl))) (qW (v:=V.int 8) rfl T.gh ⟨_,rfl⟩) (aE _)) (jY (xx tE (xw (xq rfl) (by rfl) T.bL PySem.boot_len (xb (xc (xu (wC rfl) (pv 0) xh (λ_ _=>rfl)) xo rfl))) (qW (v:=V.int 24) rfl T.fY ⟨_,rfl⟩) (aE _))))) (xf (xy qN)) wA) (xr (wZ PassesOwn.never rfl (gK rfl rfl T.cC (xb (xc (pv 3) xo rfl))) (wE (n:=2) rfl rfl (xj (xk (i:=4) nd rfl rfl) (xj (wE (n:=2) rfl rfl (xj (xk (i:=5) nd rfl rfl) (xj (xk (i:=6) nd rfl rfl) wD))) wD))) (xf (xy (wG (fU (iT (bw KC hr T.Gf (xb (xc (pv 0) (xc (wS (xb (xc (pv 1) (xc (pv 2) (xc (pv 5) (xc (pv 6) xo rfl) rfl) rfl) rfl))) xo rfl) rfl))))) (xf (xy (xv (wS (xb (xc gM (xc (pv 4) (xc (bw Hr hr T.BL (xb (xc (pv 0) (xc (pv 1) (xc (pv 2) xo rfl) rfl) rfl))) xo rfl) rfl) rfl)))))) wA)))) (xr (xt (i:=7) nd rfl rfl (bw Ja hr T.C0 (xb (xc (pv 0) (xc (pv 3) xo rfl) rfl)))) (xy (xv (wS (xb (xc gM (xc (bw KU hr T.He (xb (xc (pv 0) (xc (pv 1) (xc (pv 2) (xc (pv 3) (xc (pv 7) xo rfl) rfl) rfl) rfl) rfl))) (xc (pv 7) xo rfl) rfl) rfl))))))))),?_⟩;have line:=bD;have w4:=cx.w4;have gd:=cx.gd;have eK:(wq ws).length=ws.length:=gE ws;have hb:=cx.bk;refine (zr rfl (fF hb.book rfl ⟨tr,zr rfl ⟨.inr (bT.of hb.ah),aJ rfl rfl (zr rfl ?_)⟩⟩));refine aF (decide_eq_false (by rw [zA];omega)) (zr rfl (fF hb.book rfl ⟨tm,zr rfl ⟨.inr (bT.of hb.meets),aJ rfl rfl (zr rfl ?_)⟩⟩));refine aF (decide_eq_false (by rw [zA];omega)) ?_;refine (zr rfl ⟨l,rfl,⟨_,aG.of cx.wa.1⟩,?_⟩);refine fN (K:=K) (a:=l) (xs:=ws.map λa=>V.ref a.1) (λi σ H5=>(∃ v4 v5 v6 v7,σ=[some (.ref b),some (.int (k:Int)),some (.int a0),some (.ref l),v4,v5,v6,v7])/\ay H H5/\∀ j,j < i->∀ x,(wq ws)[j]?=some x->bq (fwd (ps.map (·.2)) (av k a0) x.1) x.2=true) ⟨⟨_,_,_,_,rfl⟩,ay.refl _,(λj z=>absurd z (yI _))⟩ ?_ ?_ ?_
  ·rintro i σ H5 _ ⟨_,s5,_⟩;exact aG.of (s5 _ _ cx.wa.1)
  ·rintro i v q0 σ H5 hv hq ⟨⟨v4,v5,v6,v7,rfl⟩,s5,old⟩;obtain ⟨x,hx,rfl⟩:=wQ hv;have hxq:(wq ws)[i]?=some x.2:=by unfold wq;rw [zF,hx];rfl
   have s6:=s5.trans (xi (o:=HO.tup [V.int (i:Int),V.ref x.1]) hq);have kq:upd H5 q0 (HO.tup [V.int (i:Int),V.ref x.1]) q0=some (.tup [V.int (i:Int),V.ref x.1]):=xa;generalize upd H5 q0 (HO.tup [V.int (i:Int),V.ref x.1])=H6 at s6 kq ⊢;have QY:=cx.same s6;obtain ⟨kx,lx⟩:=QY.wa.2 x (zC hx);obtain ⟨z0,z9⟩:=lst x (zC hx);refine ⟨q0,zr rfl ⟨bT.of kq,rfl,dh rfl (dh rfl (uD kx ⟨rfl,?_⟩))⟩⟩;refine (zr rfl (zr rfl (zr rfl (zr rfl (zr rfl ⟨by show 4<=sizeLine;omega,λlt dU=>?_⟩)))));have s7:=s6.trans (xi (o:=HO.tup [V.int (k:Int),V.int a0,V.int (x.2.1:Int),V.int x.2.2]) dU);have k7:upd H6 lt (HO.tup [V.int (k:Int),V.int a0,V.int (x.2.1:Int),V.int x.2.2]) lt=some (.tup [V.int (k:Int),V.int a0,V.int (x.2.1:Int),V.int x.2.2]):=xa;generalize upd H6 lt (HO.tup [V.int (k:Int),V.int a0,V.int (x.2.1:Int),V.int x.2.2])=H7 at s7 k7 ⊢;have My:=cx.same s7;have snoc:bq (fwd (ps.map (·.2)) (av k a0) x.2.1) x.2.2=true->∀ j,j < i + 1->∀ x,(wq ws)[j]?=some x->bq (fwd (ps.map (·.2)) (av k a0) x.1) x.2=true:=λup j hj y hy=>by
    by_cases e:j=i
    ·subst e;rw [hxq] at hy;cases hy;exact up
    ·exact old j (by omega) y hy
   refine (NI b lt k x.2.1 a0 x.2.2 ah tr tm ps ⟨rfl,My.bk,by omega,gd,⟨k7,hk,lx,Zu,Zt,z0,z9⟩,λno H8 s8=>?_,λe l0 ns H8 ee ez hl s8 kl _ _=>?_⟩)
   ·have cx8:=My.same s8;refine (zr rfl (bH rfl (zr rfl (zr rfl (zr rfl (zr rfl (uG b k a0 ah tr tm ps ⟨rfl,hk,cx8.bk,by omega,gd,λl1 H9 n9 s9 k9=>⟨by show 3<=sizeLine;omega,λt ht=>?_⟩⟩)))))));have MZ:=xi (o:=HO.tup [V.str (Str.ofString "never"),V.int (i:Int),V.ref l1]) ht;have s:=(s7.trans s8).trans (s9.trans MZ);exact q t _ (ay.uw s) (mt.dO s) (.inl ⟨i,l1,xa,⟨⟨x.2,hxq,no⟩,old⟩,MZ _ _ k9,(s7.trans s8).free n9⟩)
   ·exact (zr rfl (aF rfl ⟨⟨_,_,_,_,rfl⟩,s7.trans s8,snoc (aA.mpr ⟨e,ee,ez⟩)⟩))
  ·rintro σ H5 ⟨⟨v4,v5,v6,v7,rfl⟩,s5,all⟩;have Tc:=cx.same s5;have sv:aD (fwd (ps.map (·.2)) (av k a0)) (wq ws):=λj x hx=>all j (by rw [zA,<- eK];exact (zB.mp hx).1) x hx;have Se:∀ x∈wq ws,x.1 < ah.length:=λx hx=>by
    obtain ⟨y,hy,rfl⟩:=zO.mp hx;exact (cx.wa.2 y hy).2
   have nm:(ps.map (·.2)).length=ps.length:=zA _;refine (zr rfl (zr rfl (uG b l ah tr tm ps ws ⟨rfl,Tc,λlp P H6 s6 f6 fP pr dp=>?_⟩)));have QY:=Tc.same s6;have up:=Q6 (dp.Vf gd Se) gd hk sv;rw [nm,eK] at up;have T8:=s5.trans s6;have mt6:=mt.dO T8;refine (zr rfl (zr rfl (zr rfl (zr rfl (zr rfl (Sw b k a0 l lp ah tr tm ps ws P ⟨rfl,⟨QY.bk,gd,cx.r1,cx.oO,QY.wa,w1,w4,pr⟩,hk,dp,up,λx hx e=>?_,mt6,λlt Tl h H7 b7 mt7 f7 tt len=>?_⟩))))))
   ·obtain ⟨j,hj⟩:=zv.mp hx;obtain ⟨y,hy,le⟩:=aA.mp (sv j x hj);rw [e,gU] at hy;cases hy;exact le
   ·refine (zr rfl ⟨by show 3<=sizeLine;omega,λt ht=>?_⟩);have s8:=xi (o:=HO.tup [V.str (Str.ofString "tree"),V.ref lt,V.ref lp]) ht;have pr7:=pr.oz mt6 b7;exact q t _ (((ay.uw T8).trans b7).jW s8) (mt7.dO s8) (.inr ⟨lt,lp,Tl,h,P,xa,sv,⟨s8 _ _ tt.top,λx hx=>s8 _ _ (tt.row x hx),tt.tr,tt.sv⟩,by rw [nm];exact pr7.same s8,dp,len,⟨T8.free f7,s5.free f6,λa ha=>⟨s5.free (fP a ha).1,λb hb=>s5.free ((fP a ha).2 b hb)⟩⟩,xg pr.top f7,λa ha=>⟨xg (pr.str a ha) f7,λb hb=>xg (pr.row a ha b hb) f7⟩⟩)
theorem JN:d9 T.Di P w base 2 (Rv):=by
 have Dc:=Fa P w base T B;have DY:=Gg P w base T B;have IY:=JM P w base T B;refine T.Di.F.ok GJ (λvs H Q E h=>?_) (λbP A outer s H vs Q E hr h=>?_)
 ·obtain ⟨b,la,_,_,_,_,_,rfl,_⟩:=h;rfl
 ·have nd:=GJ.nd;have hu:=hr.units;obtain ⟨b,la,ah,tr,tm,ps,f0,rfl,hb,hn,gd,Nz,q⟩:=h;refine cy ?_;intro Y
  let B0:Bk Y (nb (ak BZ) 1):=⟨_,(xf (xy (wG (PW.pt (cY (qC (bw Dc hr T.C1 (xb (xc (xu (xp rfl) (pv 1) (pv 4) (λ_ _=>rfl)) (xc (pv 6) xo rfl) rfl)))) (cR (fm (qC (bw DY hr T.DO (xb (xc (xu (xp rfl) (pv 2) (pv 5) (λ_ _=>rfl)) (xc (pv 6) xo rfl) rfl)))))))) (xf (xy (we (pv 6) (j3 (pv 2) (pv 5) set_list)))) wA)))⟩
  let B1:Bk Y ((ak BZ).drop 1):=⟨_,(xf (xr (wZ PassesOwn.never rfl (wX rfl (bw IY hr T.Iz (xb (xc (pv 0) xo rfl)))) (wE (n:=4) rfl rfl (xj (xk (i:=3) nd rfl rfl) (xj (xk (i:=4) nd rfl rfl) (xj (xk (i:=5) nd rfl rfl) (xj (xk (i:=6) nd rfl rfl) wD))))) B0.ps) (xy (xv (pv 2)))))⟩
  refine ⟨_,(xf (xr (xt (i:=2) nd rfl rfl (cL (fG rfl) (by rfl) T.vW PyProof.Rows.boot_list (xb (xc (pv 1) xo rfl)))) B1.bl)),?_⟩;have line:=bD;have W0:=gd.len;refine (zr rfl ⟨la,zr rfl ⟨.inl (aG.of Nz),λl hl=>?_⟩⟩);have kR:=xi (o:=HO.lst ((rep ah.length f0).map oV)) hl;have h1:(upd H l (HO.lst ((rep ah.length f0).map oV))) l=some (.lst ((rep ah.length f0).map oV)):=xa;generalize upd H l (HO.lst ((rep ah.length f0).map oV))=H1 at kR h1 ⊢;refine (zr rfl (Yc b ah tr tm ps ⟨rfl,hb.same kR,gd,λlw ws H2 XA jJ h2 hr ew=>?_⟩));have X6:=jJ _ _ h1;have vO:(ws.map (·.2)).map (·.w)=aB (ps.map (·.2)):=by
   have:=jM (ps.map (·.2));rw [zA] at this;rw [ew,this]
  have lws:ws.length=2 * ps.length:=by
   have:=congrArg List.length vO;rw [zA,zA,jN,zA] at this;exact this
  have nla:la≠l:=xg Nz hl;have nwl:lw≠l:=(xg h1 XA).symm;refine ⟨lw,rfl,⟨_,aG.of h2⟩,?_⟩;refine (let W13:IV:=λi σ H4=>(∃ v3 v4 v5 v6,σ=[some (.ref b),some (.ref la),some (.ref l),v3,v4,v5,v6])/\ay H H4/\H4 l=some (.lst ((rep ah.length (((ws.take i).map (·.2.w)).foldl (cj f0) f0)).map oV))/\(∀ b u,b≠l->H2 b=some u->H4 b=some u);dW (K:=K) (a:=lw) (xs:=(ws.map λa=>V.ref a.1)) W13)
   ?_ ?_ ?_ ?_
  ·exact ⟨⟨_,_,_,_,rfl⟩,kR.trans jJ,X6,λ_ _ _ e=>e⟩
  ·rintro i σ H4 _ ⟨_,_,_,kp⟩;exact aG.of (kp lw _ nwl h2)
  ·rintro i y σ H4 hy ⟨⟨v3,v4,v5,v6,rfl⟩,pM,h4,kp⟩;obtain ⟨r,rZ,rfl⟩:=wQ hy;have hi:i < ws.length:=(zB.mp rZ).1;have rm:r∈ws:=zC rZ;have p9:=hr r rm;have nl:r.1≠l:=wU p9 X6 (by intro z;cases z);have cD:=kp r.1 _ nl p9;have wm:r.2.w∈aB (ps.map (·.2)):=by
    rw [<-vO];exact zO.mpr ⟨r.2,zO.mpr ⟨r,rm,rfl⟩,rfl⟩
   obtain ⟨g1,g2,g3,g4,g5⟩:=dG gd wm;have gl:r.2.w.g < ah.length:=by omega
   have ol:r.2.w.o < ah.length:=by omega
   have fold:∀ f:Fn,((ws.take i).map (·.2.w)).foldl (cj f0) f0=f->((ws.take (i + 1)).map (·.2.w)).foldl (cj f0) f0=cj f0 f r.2.w:=λf e=>by
    rw [wK rZ,zD,ya,e];rfl
   refine (sI cD ?_);generalize ef:((ws.take i).map (·.2.w)).foldl (cj f0) f0=f at h4;have fo:=fold f ef;have hg:((rep ah.length f0).map oV)[r.2.w.g]?=some (oV (f0 r.2.w.g)):=cK gl;have ho:((rep ah.length f).map oV)[r.2.w.o]?=some (oV (f r.2.w.o)):=cK ol;have ab5:=pM _ _ Nz;refine (zr rfl (zr rfl (cu ab5 (wB hg) (zr rfl ⟨f0 r.2.w.g,r.2.w.t,rfl,zr rfl (lO (λc=>?_) (λc=>aF rfl ?_))⟩))))
   ·refine (zr rfl (zr rfl (cu h4 (wB ho) (zr rfl ⟨f r.2.w.o,r.2.w.t,rfl,zr rfl (lO (λc2=>?_) (λc2=>?_))⟩))))
    ·refine (zr rfl (zr rfl (zr rfl ⟨l,_,_,r.2.w.o,rfl,rfl,h4,ia (by rw [zA,wz];exact ol),⟨_,_,_,_,rfl⟩,ay.put hl pM,?_,λb u nb e=>by rw [xl nb];exact kp b u nb e⟩)));rw [xa,fo];unfold cj;rw [if_pos ⟨c,by simpa using c2⟩,<- jc ol,yq];rfl
    ·refine ⟨⟨_,_,_,_,rfl⟩,pM,?_,kp⟩;rw [fo];unfold cj;rw [if_neg (λz=>by rw [z.2] at c2;cases c2)];exact h4
   ·refine ⟨⟨_,_,_,_,rfl⟩,pM,?_,kp⟩;rw [fo];unfold cj;rw [if_neg (λz=>by rw [z.1] at c;cases c)];exact h4
  ·rintro σ H4 ⟨⟨v3,v4,v5,v6,rfl⟩,pM,h4,kp⟩;refine (zr rfl (q l H4 hl pM ?_));rw [zA,yA] at h4;have ej:vz (aB (ps.map (·.2))) f0=((ws.map (·.2.w)).foldl (cj f0) f0):=by
    unfold vz;rw [<-vO,zg];rfl
   rw [ej];exact h4
theorem IE:d9 T.DC P w base 3 (OC):=by
 have Gy:=HW P w base T B;have HZ:=JN P w base T B;refine T.DC.F.ok EV (λvs H Q E h=>?_) (λbP A outer s H vs Q E hr h=>?_)
 ·obtain ⟨b,k,x,_,_,_,_,rfl,_⟩:=h;rfl
 ·have nd:=EV.nd;have hu:=hr.units;obtain ⟨b,k,x,ah,tr,tm,ps,rfl,hb,hn,gd,q⟩:=h;refine cy ?_;intro Y
  let B0:Bk Y (nb (ak qF) 2):=⟨_,(xf (xr (wO (qP zQ zU zV wN (pv 3) (xb (xc (pv 4) xo rfl)))) (xy (xt (i:=4) nd rfl rfl (bw HZ hr T.Di (xb (xc (pv 0) (xc (pv 4) xo rfl) rfl)))))))⟩
  let B1:Bk Y ((ak qF).drop 1):=⟨_,(xf (xr (xt (i:=4) nd rfl rfl (bw HZ hr T.Di (xb (xc (pv 0) (xc (xu (xp rfl) (pv 3) xh (λ_ _=>rfl)) xo rfl) rfl)))) (xr (mY PassesOwn.never (xx (Uj hu) (pv 4) (xu (xp rfl) (pv 3) (L3 qo xh) (λ_ _=>rfl)) (aE _)) B0.ps) (xy (xv (pv 3))))))⟩
  refine ⟨_,(xf (xr (xt (i:=3) nd rfl rfl (wM (xb (xc (bw Gy hr T.D7 (xb (xc (pv 0) (xc (pv 1) (xc (pv 2) xo rfl) rfl) rfl))) xo rfl)))) B1.bl)),?_⟩;have line:300000<=sizeLine:=by rw [sizeLine_eq];decide
  have W0:=gd.len;have lw:(aB (ps.map (·.2))).length<=120:=by rw [jN,zA];omega
  have mx:Nf (aB (ps.map (·.2))) ah.length (av k x)<=121000:=by
   refine zi (RY _ _ _) (zi (Nat.mul_le_mul hn (yw lw)) (by decide))
  generalize Yd:aB (ps.map (·.2))=ws at lw mx;refine (zr rfl (zr rfl (zr rfl (uG b k x ah tr tm ps ⟨rfl,hb,hn,λl0 H1 r6 kR h1=>?_⟩))));refine ⟨by show 1<=sizeLine;omega,λl hl=>?_⟩;have jJ:=kR.trans (xi (o:=HO.lst [V.ref l0]) hl);have UY:H l=none:=kR.free hl;have n0:l0≠l:=xg h1 hl;have h2:=xi (o:=HO.lst [V.ref l0]) hl _ _ h1;have Zm:(upd H1 l (HO.lst [V.ref l0])) l=some (.lst [V.ref l0]):=xa;generalize upd H1 l (HO.lst [V.ref l0])=H2 at jJ h2 Zm ⊢;refine (zr rfl (zr rfl (cu Zm rfl (uG b l0 ah tr tm ps _ ⟨rfl,hb.same jJ,hn,gd,h2,λlf H3 Mi SO h3=>?_⟩))));refine su (fun σ H4=>∃ (as:List Addr) (lf:Addr),σ=[some (.ref b),some (.int k),some (.int x),some (.ref l),some (.ref lf)]/\as≠[]/\ay H H4/\H4 l=some (.lst (as.map V.ref)) /\
    (∀ (i:Nat) (a:Addr),as[i]?=some a->H a=none/\a≠l/\H4 a=some (.lst ((rep ah.length (bf ws (av k x) i)).map oV)))/\(∀ i,i + 1 < as.length->rep ah.length (bf ws (av k x) (i + 1))≠rep ah.length (bf ws (av k x) i)) /\
    H lf=none/\lf≠l/\H4 lf=some (.lst ((rep ah.length (bf ws (av k x) as.length)).map oV))/\as.length + Nf ws ah.length (bf ws (av k x) (as.length - 1))<=Nf ws ah.length (av k x) + 1)
   (λ_ H4=>match H4 l with | some (.lst xs)=>200001 - xs.length | _=>0) ?_ ?_ ?_
  ·refine ⟨[l0],lf,rfl,by simp,jJ.trans SO,SO _ _ Zm,λi a h=>?_,λi h=>absurd h (by simp),jJ.free Mi,(xg Zm Mi).symm,?_,?_⟩
   ·cases i with
    | zero=>cases h;exact ⟨r6,n0,SO _ _ h2⟩
    | succ i=>cases h
   ·rw [Yd] at h3;exact h3
   ·show 1 + Nf ws ah.length (av k x)<=_;omega
  ·rintro σ H4 ⟨as,lf,rfl,ne,pM,h4,VT,oY,ab3,RW,U6,hmu⟩;obtain ⟨m,em⟩:∃ m,as.length=m + 1:=⟨as.length - 1,by have:=List.length_pos_iff.mpr ne;omega⟩;have la:∃ a,as[m]?=some a:=⟨as[m],zG (by omega)⟩;obtain ⟨a,ha⟩:=la;have Nz:=VT m a ha;have gl:as.getLast?=some a:=by rw [List.getLast?_eq_getElem?,em];exact ha
   have atl:dI (as.map V.ref) (-1)=some (V.ref a):=oE (by rw [List.getLast?_map,gl];rfl);rw [em] at U6 hmu;refine (zr rfl (zr rfl (zr rfl (cu h4 atl ⟨lf,a,aJ rfl rfl ⟨aG.of U6,aG.of Nz.2.2,zr rfl (lO (λc=>?_) (λc=>?_))⟩⟩))))
   ·have c':rep ah.length (bf ws (av k x) (m + 1))≠rep ah.length (bf ws (av k x) m):=by simpa using c
    have lt:Nf ws ah.length (bf ws (av k x) (m + 1)) < Nf ws ah.length (bf ws (av k x) m):=by
     have:¬ ∀ i,i < ah.length->bf ws (av k x) (m + 1) i=bf ws (av k x) m i:=λh=>c' (OU.mpr h);obtain ⟨i,hi⟩:=Classical.not_forall.mp this;obtain ⟨hi,oY⟩:=Classical.not_imp.mp hi;exact Us hi oY
    have ag2:m + 1 + Nf ws ah.length (bf ws (av k x) m)<=Nf ws ah.length (av k x) + 1:=hmu;refine (zr rfl ⟨.inl ⟨rfl,_,aG.of h4⟩,zr rfl ⟨l,aJ rfl rfl ⟨h4,by rw [zA];omega,?_⟩⟩⟩);have h5:∀ b u,b≠l->H4 b=some u->(upd H4 l (HO.lst (as.map V.ref++[V.ref lf]))) b=some u:=λb u nb e=>by rw [xl nb];exact e
    have Zk:(upd H4 l (HO.lst (as.map V.ref++[V.ref lf]))) l=some (.lst (as.map V.ref++[V.ref lf])):=xa;have QI:=ay.put (o:=HO.lst (as.map V.ref++[V.ref lf])) UY pM;generalize upd H4 l (HO.lst (as.map V.ref++[V.ref lf]))=H5 at h5 Zk QI ⊢;refine (zr rfl (zr rfl (uG b lf ah tr tm ps _ ⟨rfl,hb.same QI,hn,gd,h5 _ _ RW U6,λl6 H6 hl6 rX h6=>?_⟩)));refine ⟨⟨as++[lf],l6,rfl,by simp,QI.trans rX,by rw [rX _ _ Zk,zD];rfl,λi a' h=>?_,λi h=>?_,QI.free hl6,(xg Zk hl6).symm,?_,?_⟩,?_⟩
    ·rcases xR i as.length with li | li
     ·rw [zl li] at h;have z:=VT i a' h;exact ⟨z.1,z.2.1,rX _ _ (h5 _ _ z.2.1 z.2.2)⟩
     ·have ei:i=as.length:=by
       have:=(zB.mp h).1;rw [zL,yQ] at this;omega
      subst ei;rw [zb (zE _),xE] at h;cases h;rw [em];exact ⟨ab3,RW,rX _ _ (h5 _ _ RW U6)⟩
    ·rw [zL,yQ] at h;rcases xR (i + 1) as.length with li | li
     ·exact oY i li
     ·have ei:i=m:=by omega
      rw [ei];exact c'
    ·rw [zL,yQ,em];rw [Yd] at h6;exact h6
    ·rw [zL,yQ,em];show m + 1 + 1 + Nf ws ah.length (bf ws (av k x) (m + 1))<=_;omega
    ·rw [rX _ _ Zk,h4];show 200001 - (as.map V.ref++[V.ref lf]).length < 200001 - (as.map V.ref).length;rw [zL,zA,yQ];omega
   ·have c':rep ah.length (bf ws (av k x) (m + 1))=rep ah.length (bf ws (av k x) m):=by simpa using c
    refine (zr rfl (q l as H4 UY pM h4 ⟨ne,by omega,λi a h=>?_,?_,?_⟩))
    ·rw [Yd];exact ⟨(VT i a h).1,(VT i a h).2.2⟩
    ·rw [Yd];exact oY
    ·rw [Yd,em];exact c'
  ·rintro σ H4 Q1 Q2 hq ⟨x,hx,y,hy,z,hz,p,xs,i,v,e1,e2,e3,e4,a,b,os,ps,e5,e6,e7,e8,j,e9,h⟩;exact ⟨x,hx,y,hy,z,hz,p,xs,i,v,e1,e2,e3,e4,a,b,os,ps,e5,e6,e7,e8,j,e9,hq _ _ h⟩
theorem Ji:d9 T.D6 P w base 2 (OE):=by
 have IY:=JM P w base T B;refine T.D6.F.ok FY (λvs H Q E h=>?_) (λbP A outer s H vs Q E hr h=>?_)
 ·obtain ⟨b,v,n,g,t,_,_,_,_,rfl,_⟩:=h;rfl
 ·have nd:=FY.nd;have hu:=hr.units;obtain ⟨b,v,n,g,t,ah,tr,tm,ps,rfl,hb,gd,lk,q⟩:=h;refine ⟨_,(xf (xr (wZ PassesOwn.never rfl (wX rfl (bw IY hr T.Iz (xb (xc (pv 0) xo rfl)))) (wE (n:=4) rfl rfl (xj (xk (i:=3) nd rfl rfl) (xj (xk (i:=4) nd rfl rfl) (xj (xk (i:=5) nd rfl rfl) (xj (xk (i:=6) nd rfl rfl) wD))))) (xf (xy (wG (PW.pt (cY (xx qB (pv 4) (pv 1) (aE _)) (cR (xx qB (pv 6) (pv 2) (aE _))))) (xf (xy (xv (pv 3)))) wA)))) (xy (xv fu)))),?_⟩;refine (zr rfl (Yc b ah tr tm ps ⟨rfl,hb,gd,λlw ws H2 XA jJ h2 hr ew=>?_⟩));have W0:=gd.len;have inn:=R4 lk;rw [zA,<- ew] at inn;refine ⟨lw,rfl,⟨_,aG.of h2⟩,?_⟩;refine (let W14:IV:=λi σ H4=>(∃ v3 v4 v5 v6,σ=[some (.ref b),some (.int v),some (.int t),v3,v4,v5,v6])/\H4=H2/\∀ j r,j < i->ws[j]?=some r->r.2≠⟨n,⟨v,g,t⟩⟩;dW (K:=K) (a:=lw) (xs:=(ws.map λa=>V.ref a.1)) W14)
   ⟨⟨_,_,_,_,rfl⟩,rfl,λj r h=>absurd h (yI _)⟩ ?_ ?_ ?_
  ·rintro i σ H4 _ ⟨_,rfl,_⟩;exact aG.of h2
  ·rintro i y σ H4 hy ⟨⟨v3,v4,v5,v6,rfl⟩,rfl,no⟩;obtain ⟨r,rZ,rfl⟩:=wQ hy;have rm:r∈ws:=zC rZ;have cD:=hr r rm;have rl:bO (ps.map (·.2)) r.2.n r.2.w.g r.2.w.o r.2.w.t:=fR (i:=ps.length) (by rw [<-ew];exact zO.mpr ⟨r,rm,rfl⟩);have step:r.2≠⟨n,⟨v,g,t⟩⟩->∀ j r',j < i + 1->ws[j]?=some r'->r'.2≠⟨n,⟨v,g,t⟩⟩:=λne j r' hj e=>by
    rcases xR j i with l | l
    ·exact no j r' l e
    ·have ej:j=i:=by omega
     rw [ej,rZ] at e;cases e;exact ne
   refine (sI cD ?_);refine (zr rfl (zr rfl ⟨rfl,zr rfl (gg (λc=>?_) (λc=>aF rfl ?_))⟩))
   ·have c1:(r.2.w.g:Int)=v:=V.int.inj c;refine (zr rfl (zr rfl ⟨rfl,zr rfl (gg (λc2=>?_) (λc2=>?_))⟩))
    ·have e1:r.2.w.g=v:=by omega
     have e2:r.2.w.t=t:=V.int.inj c2;rw [e1,e2] at rl;have en:=rl.uniq gd lk;refine (zr rfl ?_);rw [en];exact q _ jJ
    ·exact ⟨⟨_,_,_,_,rfl⟩,rfl,step λe=>c2 (by rw [e])⟩
   ·exact ⟨⟨_,_,_,_,rfl⟩,rfl,step λe=>c (by rw [e])⟩
  ·rintro σ H4 ⟨⟨v3,v4,v5,v6,rfl⟩,rfl,no⟩;obtain ⟨r,uF,er⟩:=zO.mp inn;obtain ⟨j,hj⟩:=zv.mp uF;exact absurd er (no j r (by rw [zA];exact (zB.mp hj).1) hj)
theorem Jk:d9 T.Ea P w base 3 (OM):=by
 have AN:=Cc P w base T B;have J1:=Ji P w base T B;refine T.Ea.F.ok F3 (λvs H Q E h=>?_) (λbP A outer s H vs Q E hr h=>?_)
 ·obtain ⟨b,l,w,s,m,a,t,_,_,_,_,_,rfl,_⟩:=h;rfl
 ·have nd:=F3.nd;have hu:=hr.units;obtain ⟨b,l,w,s0,m,a0,t0,ah,tr,tm,ps,as,rfl,hb,gd,hw,m9,hl,Y7,VT,nw,q⟩:=h;refine cy ?_;intro Y
  let B0:Bk Y ((nb (ak qS) 2).drop 1):=⟨_,(xf (xr (wO (qP zQ zU zV wN (pv 3) (xb (xc (pv 6) xo rfl)))) (xy (xt (i:=4) nd rfl rfl (bw AN hr T.Bi (xb (xc (pv 0) (xc (pv 6) (xc (pv 4) xo rfl) rfl) rfl)))))))⟩
  let B1:Bk Y (nb (ak qS) 2):=⟨_,(xf (xr (xt (i:=6) nd rfl rfl (bw J1 hr T.D6 (xb (xc (pv 0) (xc (pv 4) (xc (xu (xp rfl) (pv 5) (pv 4) (λ_ _=>rfl)) xo rfl) rfl) rfl)))) B0.bl))⟩
  refine ⟨_,(xf (xr (xt (i:=3) nd rfl rfl (wM wu)) (xr (xt (i:=4) nd rfl rfl (pv 2)) (xr (wZ PassesOwn.never rfl (wX rfl (l8 rfl (pv 1))) (xk (i:=5) nd rfl rfl) B1.ps) (xy (xv (l8 rfl (pv 3)))))))),?_⟩;have line:=bD;refine ⟨zX _,λlc Mj=>?_⟩;have kR:=xi (o:=HO.lst []) Mj;have h1:(upd H lc (HO.lst [])) lc=some (.lst (List.map V.int ([]:List Int).reverse)):=xa;generalize upd H lc (HO.lst [])=H1 at kR h1 ⊢;refine (zr rfl (zr rfl ⟨l,zr rfl ⟨aG.of (kR _ _ hl),λlb QM=>?_⟩⟩));rw [<-List.map_reverse];have jJ:=kR.trans (xi (o:=HO.lst (as.reverse.map V.ref)) QM);have h2:=xi (o:=HO.lst (as.reverse.map V.ref)) QM _ _ h1;have h2b:(upd H1 lb (HO.lst (as.reverse.map V.ref))) lb=some (.lst (as.reverse.map V.ref)):=xa;have nbc:lb≠lc:=(xg h1 QM).symm;generalize upd H1 lb (HO.lst (as.reverse.map V.ref))=H2 at jJ h2 h2b ⊢;refine ⟨lb,rfl,⟨_,aG.of h2b⟩,?_⟩;refine dW (K:=K) (a:=lb) (xs:=as.reverse.map V.ref) (λj σ H4=>∃ (v:Nat) (T:Int) (cs:List Int),∃ v5 v6,σ=[some (.ref b),some (.ref l),some (.int w),some (.ref lc),some (.int v),v5,v6]/\v < ah.length/\H4 lc=some (.lst (List.map V.int cs.reverse))/\cs.length=j/\jC (aB (ps.map (·.2))) (av s0 a0) (m - j) v T /\
    (∀ b u,b≠lc->H2 b=some u->H4 b=some u)/\(∀ A:Int,(A=-1\/∃ n:Nat,∃ m,A=n/\(ps.map (·.2))[n]?=some m/\m.t<=T)->cG (ps.map (·.2)) v T A cs=some (w,t0)))
   ⟨w,t0,[],dh rfl ⟨hw,h2,rfl,nw,λ_ _ _ e=>e,λA _=>rfl⟩⟩ ?_ ?_ ?_
  ·rintro i σ H4 _ ⟨_,_,_,_,_,_,_,_,_,_,kp,_⟩;exact aG.of (kp lb _ nbc h2b)
  ·rintro j y σ H4 hy ⟨v,T,cs,v5,v6,rfl,hv,h4,lcs,na,kp,wk⟩;obtain ⟨c,hc,rfl⟩:=wQ hy;have hj:j < m:=by
    have:=(zB.mp hc).1;rw [yO,Y7] at this;exact this
   obtain ⟨i,ei⟩:∃ i,m - j=i + 1:=⟨m - j - 1,by omega⟩;rw [ei] at na;have hci:as[i]?=some c:=by
    rw [List.getElem?_reverse (by rw [Y7];exact hj)] at hc;rw [<-hc,Y7];congr 1;omega
   have NY:ay H H4:=λb u eb=>kp b u (xg eb Mj) (jJ b u eb);have hc4:=NY _ _ (VT i c hci);obtain ⟨x,hx,ho,ht,y,lt,nb⟩:=na.back;obtain ⟨n,S0⟩:=Od hx;rw [ho,ht] at S0;obtain ⟨gi,_,gne⟩:=S0.inside gd;obtain ⟨mm,UT,mt,_⟩:=id S0;have hv4:((rep ah.length (bf (aB (ps.map (·.2))) (av s0 a0) (i + 1))).map oV)[v]?=some (V.int T):=by rw [cK hv,na.1];rfl
   refine (zr rfl (zr rfl (zr rfl (zr rfl (cu hc4 (wB hv4) (Zr b v n x.g T ah tr tm ps ⟨rfl,hb.same NY,gd,S0.turn,λH5 QI=>?_⟩))))));have h5:=QI _ _ h4;refine (zr rfl ⟨.inl ⟨rfl,_,aG.of h5⟩,zr rfl ⟨lc,aJ rfl rfl ⟨h5,by rw [zA,yO];omega,?_⟩⟩⟩);have kp6:∀ b u,b≠lc->H4 b=some u->(upd H5 lc (HO.lst (List.map V.int cs.reverse++[V.int n]))) b=some u:=λb u nb e=>by rw [xl nb];exact QI _ _ e
   have h6:(upd H5 lc (HO.lst (List.map V.int cs.reverse++[V.int n]))) lc=some (.lst (List.map V.int ((n:Int)::cs).reverse)):=by rw [xa,yo,zD];rfl
   generalize upd H5 lc (HO.lst (List.map V.int cs.reverse++[V.int n]))=H6 at kp6 h6 ⊢;have rX:ay H H6:=λb u eb=>kp6 b u (xg eb Mj) (NY b u eb);refine (zr rfl (zr rfl (zr rfl (Yb b n v ah tr tm ps mm ⟨rfl,hb.same rX,UT,?_⟩))));rw [S0.turn.other gd UT];refine ⟨x.g,y,(n:Int)::cs,dh rfl ⟨gi,h6,by rw [zR,lcs],by rw [show m - (j + 1)=i by omega];exact nb,λb u nb e=>kp6 b u nb (kp b u nb e),λA hA=>?_⟩⟩;have an:A < n:=by
    rcases hA with rfl | ⟨n',m',rfl,oR,lt'⟩
    ·omega
    ·have:=P0 gd.ord.2 oR UT (by omega);omega
   rw [pB S0 gne lt an];exact wk n (.inr ⟨n,mm,rfl,UT,by omega⟩)
  ·rintro σ H4 ⟨v,T,cs,v5,v6,rfl,hv,h4,lcs,na,kp,wk⟩;rw [zA,yO,Y7] at lcs na;rw [xE] at na;have e0:v=s0/\T=a0:=by
    have:=na.1;unfold bf av at this;split at this
    ·rename_i e;cases this;exact ⟨e,rfl⟩
    ·cases this
   obtain ⟨rfl,rfl⟩:=e0;refine (zr rfl ⟨lc,zr rfl ⟨aG.of h4,λlr N5=>?_⟩⟩);have e1:(List.map V.int cs.reverse).reverse=List.map V.int cs:=by rw [<-List.map_reverse,List.reverse_reverse]
   rw [e1];have NY:ay H H4:=λb u eb=>kp b u (xg eb Mj) (jJ b u eb);exact q lr cs _ (NY.free N5) (NY.trans (xi N5)) xa lcs (wk (-1) (.inl rfl))
theorem KO:d9 T.ID P w base 5 (Rr):=by
 have DY:=Gg P w base T B;have Fv:=GW P w base T B;have Jv:=IE P w base T B;have J6:=Jk P w base T B;refine T.ID.F.ok JB (λvs H Q E h=>?_) (λbP A outer s H vs Q E hr h=>?_)
 ·obtain ⟨b,lt,_,_,_,_,_,_,_,_,rfl,_⟩:=h;rfl
 ·have nd:=JB.nd;have hu:=hr.units;obtain ⟨b,lt,s0,w0,a0,z0,ah,tr,tm,ps,rfl,hb,hn,gd,hL,qn,qy⟩:=h;refine cy ?_;intro Y
  let B0:Bk Y (nb (nb (ak DM) 3) 0):=⟨_,(xf (xy (xv (bw J6 hr T.Ea (xb (xc (pv 0) (xc (gO (mT rfl) (pv 6) (fV xh) (fV (xz wJ (pv 7) xh))) (xc (pv 4) xo rfl) rfl) rfl))))))⟩
  let B1:Bk Y ((ak DM).drop 3):=⟨_,(xf (xr (wZ PassesOwn.never rfl (gK rfl rfl T.cC (xb (xc (pv 6) xo rfl))) (wE (n:=2) rfl rfl (xj (xk (i:=7) nd rfl rfl) (xj (xk (i:=8) nd rfl rfl) wD))) (xf (xy (wG (qC (bw DY hr T.DO (xb (xc (xu (xp rfl) (pv 8) (pv 4) (λ_ _=>rfl)) (xc (pv 5) xo rfl) rfl)))) B0.ps wA)))) (xy (xv fu))))⟩
  let B2:Bk Y ((ak DM).drop 1):=⟨_,(xf (xr (we (pv 1) (wE (n:=4) rfl rfl (xj (xk (i:=2) nd rfl rfl) (xj (xk (i:=3) nd rfl rfl) (xj (xk (i:=4) nd rfl rfl) (xj (xk (i:=5) nd rfl rfl) wD)))))) (xr (xt (i:=6) nd rfl rfl (bw Jv hr T.DC (xb (xc (pv 0) (xc (pv 2) (xc (pv 3) xo rfl) rfl) rfl)))) B1.bl)))⟩
  refine ⟨_,(xf (xr (wG (fm (qC (bw Fv hr T.Dk (xb (xc (pv 0) (xc (pv 1) xo rfl) rfl))))) (xf (xy (xv fu))) wA) B2.bl)),?_⟩;have line:=bD;obtain ⟨dU,hs1,Xm,_⟩:=id hL;refine (zr rfl (zr rfl (uG b (.ref lt) _ ah tr tm ps ⟨rfl,hb,hL.th,zr rfl (aF (by rw [hL.yes];rfl) ?_)⟩)));refine (zr rfl (sI dU ?_));refine (zr rfl (zr rfl (zr rfl (uG b s0 a0 ah tr tm ps ⟨rfl,hb,hn,gd,λl as H1 hl kR h1 rws=>?_⟩))));refine (zr rfl ⟨l,rfl,⟨_,aG.of h1⟩,?_⟩);refine (let W15:IV:=λi σ H4=>(∃ v7 v8,σ=[some (.ref b),some (.ref lt),some (.int s0),some (.int a0),some (.int w0),some (.int z0),some (.ref l),v7,v8])/\ay H1 H4/\∀ j,j < i->bq (bf (aB (ps.map (·.2))) (av s0 a0) j w0) z0=false;fN (K:=K) (a:=l) (xs:=as.map V.ref) W15)
   ⟨⟨_,_,rfl⟩,ay.refl _,λj h=>absurd h (yI _)⟩ (λi σ H4 _ h4=>aG.of (h4.2.1 _ _ h1)) ?_ ?_
  ·rintro i x q' σ H4 hx hq ⟨⟨v7,v8,rfl⟩,sm,no⟩;obtain ⟨r,hr,rfl⟩:=wQ hx;have hi:=(zB.mp hr).1;have jJ:=sm.trans (xi (o:=HO.tup [.int i,V.ref r]) hq);have ht:(upd H4 q' (HO.tup [.int i,V.ref r])) q'=some (.tup [.int i,V.ref r]):=xa;generalize upd H4 q' (HO.tup [.int i,V.ref r])=H5 at jJ ht ⊢;have cD:=jJ _ _ (rws.at' i r hr).2;refine (uD ht ?_);refine (zr rfl (zr rfl (cu cD (wB (cK Xm)) (zr rfl ⟨_,z0,rfl,zr rfl (lO (λc=>?_) (λc=>?_))⟩))))
   ·obtain ⟨T,lT,nw⟩:=Pp c no;have i9:=Ve gd Xm c no;refine (zr rfl (zr rfl ⟨1,rfl,zr rfl (aJ rfl rfl (zr rfl ⟨l,zr rfl ⟨aG.of (jJ _ _ h1),λlx hlx=>?_⟩⟩))⟩));rw [Sz _ i (by rw [zA];exact hi),<- List.map_drop,<- List.map_take];have SO:=jJ.trans (xi (o:=HO.lst (List.map V.ref ((as.drop 1).take i))) hlx);have h3:(upd H5 lx (HO.lst (List.map V.ref ((as.drop 1).take i)))) lx=some (.lst (List.map V.ref ((as.drop 1).take i))):=xa;generalize upd H5 lx (HO.lst (List.map V.ref ((as.drop 1).take i)))=H6 at SO h3 ⊢;refine (zr rfl (acD b lx w0 s0 i a0 T ah tr tm ps _ ⟨rfl,(hb.same kR).same SO,gd,Xm,by omega,h3,by rw [z8,List.length_drop];omega,λj c hj=>?_,nw,λlr cs H7 N5 sm7 h7 lcs wk=>?_⟩))
    ·have:as[j + 1]?=some c:=by
      rw [List.getElem?_take] at hj;split at hj
      ·rw [List.getElem?_drop,Nat.add_comm] at hj;exact hj
      ·cases hj
     exact SO _ _ (rws.at' (j + 1) c this).2
    ·have NY:=kR.trans SO;exact qy i lr cs T H7 ⟨c,no⟩ (NY.free N5) (NY.trans sm7) h7 lcs lT wk
   ·refine ⟨⟨_,_,rfl⟩,jJ,λj hj=>?_⟩;rcases xR j i with lj | lj
    ·exact no j lj
    ·have ej:j=i:=by omega
     rw [ej];exact c
  ·rintro σ H4 ⟨⟨v7,v8,rfl⟩,sm,no⟩;rw [zA] at no;have pos:=List.length_pos_iff.mpr rws.pos;refine qn (λi=>?_) _ (kR.trans sm);rcases xR i as.length with li | li
   ·exact no i li
   ·have:=Nt gd (m:=as.length - 1) (by rw [show as.length - 1 + 1=as.length by omega];exact rws.last) i (by omega);rw [this];exact no _ (by omega)
theorem Jm:d9 T.Ec P w base 2 (T5):=by
 have Gz:=HX P w base T B;refine T.Ec.F.ok F5 (λvs H Q E h=>?_) (λbP A outer s H vs Q E hr h=>?_)
 ·obtain ⟨_,_,rfl,_⟩:=h;rfl
 ·have nd:=F5.nd;have hu:=hr.units;obtain ⟨p,ns,rfl,hp,n10,q⟩:=h;refine ⟨_,(xf (xy (xv (xw (Qt rfl rfl) (by rfl) T.Ys PyProof.Rows.boot_all (xb (xc (wy (own:=["thing"]) (caps:=[]) rfl (show aI ["thing"] [] ["things"] (aq Cz) _ from L2.iz) (gJ rfl (pv 0)) (λ_ _ _ _=>(xk (i:=0) (show List.Nodup (["thing"]:List Str) from by decide +kernel) rfl rfl)) (λ_ _ _ _=>qG) (λ_ _ _ _=>(bw Gz hr T.D8 (xb (xc (pv 0) xo rfl))))) xo rfl)))))),?_⟩;have line:=bD;refine (zr rfl ⟨p,rfl,⟨_,bT.of hp⟩,?_⟩);refine (let W16:IC:=λi τ acc H5=>(∃ t0,τ=[t0])/\acc=(List.replicate i true).map V.bl/\H5=H;jv (K:=K) (a:=p) (xs:=ns.map V.int) W16 ⟨⟨_,rfl⟩,rfl,rfl⟩ (by rw [zA];omega) ?_ ?_ ?_)
  ·rintro i τ acc H5 ⟨_,rfl,rfl⟩;exact ⟨by simp,bT.of hp⟩
  ·rintro i x τ acc H5 C hx ⟨⟨t0,rfl⟩,rfl,rfl⟩ hC;obtain ⟨j,_,rfl⟩:=wQ hx;exact (zr rfl ⟨.int j, "int", rfl,rfl,hC _ _ _ ⟨⟨_,rfl⟩,by rw [List.replicate_succ',zD];rfl,rfl⟩⟩)
  ·rintro τ acc H5 ⟨_,rfl,rfl⟩ l hl;refine ⟨l,zr rfl ⟨aG.of xa,?_⟩⟩;have:(List.replicate (ns.map V.int).length true).all id=true:=by simp
   rw [this];exact q _ (xi hl)
theorem Jj:d9 T.D9 P w base 3 (uW):=by
 have J8:=Jm P w base T B;refine T.D9.F.ok FZ (λvs H Q E h=>?_) (λbP A outer s H vs Q E hr h=>?_)
 ·obtain ⟨_,_,_,_,_,rfl,_⟩:=h;rfl
 ·have nd:=FZ.nd;have hu:=hr.units;obtain ⟨p,gv,m,l,g,rfl,hp,q⟩:=h;refine ⟨_,(xf (xy (xv (fz (xw (fc) (by rfl) T.dB PyProof.Rows.boot_isinstance (xb (xc (pv 0) (xc (mh (v:=V.ty "tuple") rfl T.iu yV rfl) xo rfl) rfl))) (fz (jg qB (xw (xq rfl) (by rfl) T.bL PySem.boot_len (xb (xc (pv 0) xo rfl))) xh (aE _)) (fz (jg (fW rfl) (xu (wC rfl) (pv 0) xh (λ_ _=>rfl)) (wS (xb (xc gM (xc gM xo rfl) rfl))) rfl) (j4 (bw J8 hr T.Ec (xb (xc (gO (LQ rfl) (pv 0) (fV xh) l5) xo rfl)))))))))),?_⟩;have line:=bD;have e:vC (V.str (sr gv)) [V.str (Str.ofString "give"),V.str (Str.ofString "copy")]=true:=by cases gv <;> rfl
  refine (zr rfl ⟨_, "tuple", "tuple", rfl,LN hp,.inr (.inr (.inr rfl)),zr rfl (bH rfl (zr rfl ⟨p,zr rfl ⟨.inr (bT.of hp),rfl,zr rfl (bH rfl (zr rfl (fF hp rfl ⟨by show 2<=_;omega,λt2 oQ=>⟨t2,zr rfl ⟨.inr (bT.of xa),rfl,rfl,zr rfl (bH e ?_)⟩⟩⟩)))⟩⟩))⟩);have s1:=xi (o:=HO.tup [V.str (Str.ofString "give"),V.str (Str.ofString "copy")]) oQ;have UQ:=s1 _ _ hp;generalize upd H t2 (HO.tup [V.str (Str.ofString "give"),V.str (Str.ofString "copy")])=H1 at s1 UQ ⊢;refine (zr rfl (zr rfl ⟨p,zr rfl ⟨bT.of UQ,λz=>(by have:=z.1;revert this;show HT.cJ 4 0 (some 1)=0->False;decide),λt3 ht3=>?_⟩⟩));have s2:=xi (o:=HO.tup (List.map V.int [m,l,g])) ht3;exact ⟨t3,[m,l,g],rfl,xa,by show 3<=10;decide,λH3 s3=>q _ (s1.trans (s2.trans s3))⟩
theorem Ku:cF P w K mg base mD 1 a.CU a.DQ ["thing"] (lY):=⟨λ_ _ _ _ h=>h.elim,λ_ _ _ _ _ _ _ _ _ _ _ _ _ h=>h.elim⟩
theorem C2:cF P w K mg base mD 1 a.Am a.Aw ["self", "letter", "walker"] (Rm a.Aa):=by
 refine T.An.ok CV (λvs H Q E h=>?_) (λbP A outer s H vs Q E hr h=>?_)
 ·obtain ⟨_,_,_,_,_,_,_,_,_,_,_,_,_,_,_,_,_,rfl,_⟩:=h;rfl
 ·have nd:=CV.nd;have hu:=hr.units;obtain ⟨x,b,dx,lL,lH,lA,lP,lD,ls,hs,os,ns,r,ds,n,w0,l,rfl,t,hn,q⟩:=h;refine ⟨_,(xf (xr (we (xu (xp rfl) (wT (pv 0) rfl) (pv 1) (λ_ _=>rfl)) (wE (n:=4) rfl rfl (xj (xk (i:=3) nd rfl rfl) (xj (xk (i:=4) nd rfl rfl) (xj (xk (i:=5) nd rfl rfl) (xj (xk (i:=6) nd rfl rfl) wD)))))) (xy (xv (jg jh (pv 2) (wS (xb (xc (pv 3) (xc (pv 5) xo rfl) rfl))) rfl))))),?_⟩;have line:=bD;have hl:=t.rows l (zC hn);have rS:dI (ls.map λl=>V.ref l.1) (n:Int)=some (V.ref l.1):=wB (by rw [zF,hn];rfl);refine (zr rfl ⟨x,_,dx,dh rfl ⟨t.ins,T.Ae,T.bI,rfl,zr rfl (cu t.Ni rS (sI hl ?_))⟩⟩);refine (zr rfl (zr rfl (zr rfl ⟨by show 2<=_;omega,λt2 oQ=>⟨t2,zr rfl ⟨.inr (bT.of xa),rfl,rfl,?_⟩⟩⟩)));have e:vC (V.int w0) [V.int (l.2.s:Int),V.int (l.2.w:Int)]=(decide (w0=l.2.s) || decide (w0=l.2.w)):=by
   simp [vC,Mr];congr 1 <;> exact decide_eq_decide.mpr ⟨Eq.symm,Eq.symm⟩
  show Q (.bl (!vC (V.int w0) [V.int (l.2.s:Int),V.int (l.2.w:Int)])) _;rw [e];exact q _ (xi oQ)
theorem Cd:cF P w K mg base mD 1 a.Af a.Ap ["self", "letter", "walker", "time"] (TX a.Aa):=by
 refine T.Ah.ok BX (λvs H Q E h=>?_) (λbP A outer s H vs Q E hr h=>?_)
 ·obtain ⟨_,_,_,_,_,_,_,_,_,_,_,_,_,_,_,_,_,_,rfl,_⟩:=h;rfl
 ·have nd:=BX.nd;have hu:=hr.units;obtain ⟨x,b,dx,lL,lH,lA,lP,lD,ls,hs,os,ns,r,ds,n,w0,t0,l,rfl,t,hn,ho,q⟩:=h;refine cy ?_;intro Y
  let B0:Bk Y ((ak wf).drop 1):=⟨_,(xf (xy (wG (PW.pt (cY (xx qB (pv 2) (pv 6) (aE _)) (cY (xx ji (pv 3) (pv 7) (aE _)) (cR (fU (iT (xu (xp rfl) (wT (pv 0) rfl) (pv 1) (λ_ _=>rfl)))))))) (xf (xy (we (pv 3) (j3 (wT (pv 0) rfl) (pv 1) set_list)))) wA)))⟩
  refine ⟨_,(xf (xr (we (xu (xp rfl) (wT (pv 0) rfl) (pv 1) (λ_ _=>rfl)) (wE (n:=4) rfl rfl (xj (xk (i:=4) nd rfl rfl) (xj (xk (i:=5) nd rfl rfl) (xj (xk (i:=6) nd rfl rfl) (xj (xk (i:=7) nd rfl rfl) wD)))))) B0.bl)),?_⟩;have line:=bD;have hl:=t.rows l (zC hn);have rS:dI (ls.map λl=>V.ref l.1) (n:Int)=some (V.ref l.1):=wB (by rw [zF,hn];rfl);refine (zr rfl ⟨x,_,dx,dh rfl ⟨t.ins,T.Ae,T.bI,rfl,zr rfl (cu t.Ni rS (sI hl ?_))⟩⟩);obtain ⟨o,eo⟩:∃ o,os[n]?=some o:=⟨_,zG ho⟩;have at2:dI (os.map oV) (n:Int)=some (oV o):=wB (by rw [zF,eo];rfl);have dN:¬ (w0=l.2.w/\t0<=l.2.z/\os[n]?=some none)->Q .bV H:=λc=>q H (λ_ _ _ e=>e) (by rw [iG,if_neg c];exact t.arr);refine (zr rfl (zr rfl ⟨rfl,zr rfl ?_⟩));by_cases c1:w0=l.2.w
  ·refine bH (by rw [c1];simp) (zr rfl (zr rfl (aJ rfl rfl (zr rfl (gg (λc2=>?_) (λc2=>dN λc=>c2 c.2.1))))));refine (zr rfl ⟨x,_,dx,dh rfl ⟨t.ins,T.Ae,T.dc,rfl,zr rfl (cu t.arr at2 (zr rfl ?_))⟩⟩);cases o with
   | some i=>exact aF rfl (dN λc=>by rw [eo] at c;cases c.2.2)
   | none=>
    refine bH rfl (zr rfl (zr rfl ⟨x,_,dx,dh rfl ⟨t.ins,T.Ae,T.dc,rfl,zr rfl ⟨lA,_,_,n,rfl,rfl,t.arr,by rw [zA];unfold uE;rw [if_pos (by omega),if_pos (by omega)];simp,?_⟩⟩⟩));refine q _ bN.set ?_;rw [xa,iG,if_pos ⟨c1,c2,eo⟩,yq];rfl
  ·exact aF (by simp [c1]) (dN λc=>c1 c.1)
theorem Hg:cF P w K mg base mD 2 a.Al a.AC ["self", "book", "letters"] (Rq a.Aa):=by
 have A9:=Cd P w base T B;refine T.Ar.ok DL (λvs H Q E h=>?_) (λbP A outer s H vs Q E hr h=>?_)
 ·obtain ⟨_,_,_,_,_,_,_,_,_,rfl,_⟩:=h;rfl
 ·have nd:=DL.nd;have hu:=hr.units;obtain ⟨x,dx,b,l0,ls,ah,tr,tm,ps,rfl,hx,hb,gd,rm,r6,hrw,n41,q⟩:=h;refine cy ?_;intro Y
  let B0:Bk Y (nb (ak wI) 7):=⟨_,(xf (xy (wO (qO (pv 0) T.Ae T.Cw A9 (hr.mono (by decide)) T.Cv .nil eX (xb (xc (pv 3) (xc (pv 4) (xc (pv 5) xo rfl) rfl) rfl))))))⟩
  let B1:Bk Y ((ak wI).drop 7):=⟨_,(xf (xy (wZ PassesOwn.never rfl (gK rfl rfl T.cC (xb (xc (wT (pv 0) rfl) xo rfl))) (wE (n:=2) rfl rfl (xj (xk (i:=3) nd rfl rfl) (xj (wE (n:=4) rfl rfl (xj (xk (i:=4) nd rfl rfl) (xj (xk (i:=5) nd rfl rfl) (xj (xk (i:=6) nd rfl rfl) (xj (xk (i:=7) nd rfl rfl) wD))))) wD))) B0.ps)))⟩
  let B2:Bk Y ((ak wI).drop 4):=⟨_,(xf (xr (gH (pv 0) (wy (own:=["meeting"]) (caps:=[]) rfl (show aI ["meeting"] [] ["self", "book", "letters", "number", "sender", "since", "wish", "last"] (aq wI) _ from L2.iz) (gJ rfl (xu (wC rfl) (pv 1) xh (λ_ _=>rfl))) (λ_ _ _ _=>(xk (i:=0) (show List.Nodup (["meeting"]:List Str) from by decide +kernel) rfl rfl)) (λ_ _ _ _=>qG) (λ_ _ _ _=>xh)) rfl) (xr (gH (pv 0) xh rfl) (xr (gH (pv 0) (wM wu) rfl) B1.bl))))⟩
  let B3:Bk Y ((ak wI).drop 3):=⟨_,(xf (xr (gH (pv 0) (wy (own:=["letter"]) (caps:=[]) rfl (show aI ["letter"] [] ["self", "book", "letters", "number", "sender", "since", "wish", "last"] (aq wI) _ from L2.iz) (wX rfl (wT (pv 0) rfl)) (λ_ _ _ _=>(xk (i:=0) (show List.Nodup (["letter"]:List Str) from by decide +kernel) rfl rfl)) (λ_ _ _ _=>qG) (λ_ _ _ _=>fu)) rfl) B2.bl))⟩
  let B4:Bk Y ((ak wI).drop 2):=⟨_,(xf (xr (gH (pv 0) (wy (own:=["sender", "since", "wish", "last"]) (caps:=[]) rfl (show aI ["sender", "since", "wish", "last"] [] ["self", "book", "letters", "number", "sender", "since", "wish", "last"] (aq wI) _ from L2.iz) (wX rfl (wT (pv 0) rfl)) (λ_ _ _ _=>(wE (n:=4) rfl rfl (xj (xk (i:=0) (show List.Nodup (["sender", "since", "wish", "last"]:List Str) from by decide +kernel) rfl rfl) (xj (xk (i:=1) (show List.Nodup (["sender", "since", "wish", "last"]:List Str) from by decide +kernel) rfl rfl) (xj (xk (i:=2) (show List.Nodup (["sender", "since", "wish", "last"]:List Str) from by decide +kernel) rfl rfl) (xj (xk (i:=3) (show List.Nodup (["sender", "since", "wish", "last"]:List Str) from by decide +kernel) rfl rfl) wD)))))) (λ_ _ _ _=>qG) (λ_ _ _ _=>(RH (OX (pv 0) (pv 1) RC) rfl rfl (by intro h;cases h) (by decide)))) rfl) B3.bl))⟩
  refine ⟨_,(xf (xr (gH (pv 0) (pv 1) rfl) (xr (gH (pv 0) (cL (fG rfl) (by rfl) T.vW PyProof.Rows.boot_list (xb (xc (pv 2) xo rfl))) rfl) B4.bl))),?_⟩;have h60:=gd.len;have line:=bD;refine (zr rfl (zr rfl ⟨x,_,dx,zr rfl ⟨hx,T.Ae,T.cg,by decide,?_⟩⟩));have b1:bN x H (upd H x (.ins a.Aa dx (bQ "book" (.ref b) []))):=bN.set;have i1:upd H x (.ins a.Aa dx (bQ "book" (.ref b) [])) x=some (.ins a.Aa dx [("book", .ref b)]):=xa;generalize upd H x (.ins a.Aa dx (bQ "book" (.ref b) []))=H1 at b1 i1 ⊢;have tu:∀ H',bN x H H'->bM H H':=λH' z c xs e=>z c _ (wU e hx (by intro z;cases z)) e;have n0:l0≠x:=wU r6 hx (by intro z;cases z);refine (zr rfl ⟨l0,zr rfl ⟨.inl (aG.of (b1 _ _ n0 r6)),λlL hL=>?_⟩⟩);have nL:lL≠x:=(xg i1 hL).symm;have s2:=xi (o:=HO.lst (ls.map λl=>V.ref l.1)) hL;have kL:upd H1 lL (HO.lst (ls.map λl=>V.ref l.1)) lL=some (.lst (ls.map λl=>V.ref l.1)):=xa;have i2:=s2 _ _ i1;generalize upd H1 lL (HO.lst (ls.map λl=>V.ref l.1))=H2 at s2 kL i2 ⊢;refine (zr rfl ⟨x,_,dx,zr rfl ⟨i2,T.Ae,T.bI,by show 1 < 1000;decide,?_⟩⟩);have b3:bN x H (upd H2 x (.ins a.Aa dx (bQ "letters" (.ref lL) [("book", .ref b)]))):=(b1.trans (ay.but s2)).trans bN.set;have i3:upd H2 x (.ins a.Aa dx (bQ "letters" (.ref lL) [("book", .ref b)])) x=some (.ins a.Aa dx [("book", .ref b),("letters", .ref lL)]):=xa
  replace kL:upd H2 x (.ins a.Aa dx (bQ "letters" (.ref lL) [("book", .ref b)])) lL=some (.lst (ls.map λl=>V.ref l.1)):=by rw [xl nL];exact kL
  generalize upd H2 x (.ins a.Aa dx (bQ "letters" (.ref lL) [("book", .ref b)]))=H3 at b3 i3 kL ⊢;have rw3:∀ l∈ls,H3 l.1=some (.tup (nk l.2)):=λl hl=>tu _ b3 _ _ (hrw l hl);refine (zr rfl ⟨x,_,dx,dh rfl ⟨i3,T.Ae,T.bI,rfl,lL,rfl,⟨_,aG.of kL⟩,?_⟩⟩);refine (let W17:IC:=λi τ acc H5=>(∃ t0 t1 t2 t3,τ=[t0,t1,t2,t3])/\∃ hs:List (Addr×List (Int×Int)),acc=(hs.map λh=>V.ref h.1)/\hs.map (·.2)=(ls.take i).map (λl=>[((l.2.s:Int),l.2.a)])/\ay H3 H5/\(∀ h∈hs,H3 h.1=none/\H5 h.1=some (.dK (iJ h.2)))/\(hs.map (·.1)).Nodup;qK (K:=K) (a:=lL) (xs:=ls.map λl=>V.ref l.1) W17 ⟨⟨_,_,_,_,rfl⟩,[],rfl,rfl,ay.refl _,(λ_ h=>nomatch h),List.nodup_nil⟩ (by rw [zA];omega) ?_ ?_ ?_)
  ·rintro i τ acc H5 ⟨_,hs,rfl,e,s5,_⟩;exact ⟨by rw [zA];have:=congrArg List.length e;simp at this;omega,aG.of (s5 _ _ kL)⟩
  ·rintro i v τ acc H5 C hv ⟨⟨t0,t1,t2,t3,rfl⟩,hs,rfl,e,s5,kh,Mh⟩ hC;obtain ⟨l1,vG,rfl⟩:=wQ hv;refine (sI (s5 _ _ (rw3 l1 (zC vG))) (λp hp=>(zr rfl (zr rfl ⟨xa,[(Sum.inl (l1.2.s:Int),V.int l1.2.a)],rfl,by show 1<=15;decide,?_⟩))));have s6:=u7 (o1:=HO.dK []) (o2:=HO.dK (j6 [] [(Sum.inl (l1.2.s:Int),V.int l1.2.a)])) hp;refine hC _ _ _ ⟨⟨_,_,_,_,rfl⟩,hs++[(p,[((l1.2.s:Int),l1.2.a)])],by rw [zD];rfl,?_,s5.trans s6,λh hh=>?_,?_⟩
   ·rw [zD,e,wK vG,zD];rfl
   ·rcases zT.mp hh with hh | hh
    ·exact ⟨(kh h hh).1,s6 _ _ (kh h hh).2⟩
    ·cases zJ.mp hh;exact ⟨s5.free hp,by rw [xa];rfl⟩
   ·rw [zD];refine List.nodup_append.mpr ⟨Mh,by simp,λc hc d hd=>?_⟩;obtain ⟨h,hh,rfl⟩:=zO.mp hc;cases zJ.mp hd;exact xg (kh h hh).2 hp
  ·rintro τ acc H5 ⟨⟨t0,t1,t2,t3,rfl⟩,hs,rfl,e,s5,kh,Mh⟩ lH hH;rw [zA,yA] at e;have s6:=xi (o:=HO.lst (hs.map λh=>V.ref h.1)) hH;have Wz:=s5.trans s6;have kH:upd H5 lH (HO.lst (hs.map λh=>V.ref h.1)) lH=some (.lst (hs.map λh=>V.ref h.1)):=xa
   replace kh:∀ h∈hs,H3 h.1=none/\upd H5 lH (HO.lst (hs.map λh=>V.ref h.1)) h.1=some (.dK (iJ h.2)):=λh hh=>⟨(kh h hh).1,s6 _ _ (kh h hh).2⟩
   have n3H:H3 lH=none:=s5.free hH;have fh:∀ h∈hs,H3 h.1=none:=λh hh=>(kh h hh).1;generalize upd H5 lH (HO.lst (hs.map λh=>V.ref h.1))=H6 at s6 Wz kH kh ⊢;have i6:=Wz _ _ i3;refine (zr rfl ⟨x,_,dx,zr rfl ⟨i6,T.Ae,T.bK,by show 2 < 1000;decide,?_⟩⟩);have nH:lH≠x:=(xg i3 n3H).symm;have nLH:lH≠lL:=(xg kL n3H).symm;have nh:∀ h∈hs,h.1≠x:=λh hh=>(xg i3 (kh h hh).1).symm
   replace kL:=Wz _ _ kL
   have Yq:bN x H6 (upd H6 x (.ins a.Aa dx (bQ "holders" (.ref lH) [("book", .ref b),("letters", .ref lL)]))):=bN.set;have i7:upd H6 x (.ins a.Aa dx (bQ "holders" (.ref lH) [("book", .ref b),("letters", .ref lL)])) x=some (.ins a.Aa dx [("book", .ref b),("letters", .ref lL),("holders", .ref lH)]):=xa;generalize upd H6 x (.ins a.Aa dx (bQ "holders" (.ref lH) [("book", .ref b),("letters", .ref lL)]))=H7 at Yq i7 ⊢;have b7:bN x H H7:=(b3.trans (ay.but Wz)).trans Yq
   replace kL:=Yq _ _ nL kL
   replace kH:=Yq _ _ nH kH
   replace kh:∀ h∈hs,H7 h.1=some (.dK (iJ h.2)):=λh hh=>Yq _ _ (nh h hh) (kh h hh).2
   refine (zr rfl ⟨x,_,dx,dh rfl ⟨i7,T.Ae,T.bI,rfl,lL,rfl,⟨_,aG.of kL⟩,?_⟩⟩);refine (let W18:IC:=λi τ acc H8=>(∃ t0,τ=[t0])/\acc=List.replicate i V.bV/\H8=H7;qK (K:=K) (a:=lL) (xs:=ls.map λl=>V.ref l.1) W18 ⟨⟨_,rfl⟩,rfl,rfl⟩ (by rw [zA];omega) ?_ ?_ ?_)
   ·rintro i τ acc H8 ⟨_,rfl,rfl⟩;exact ⟨by simp,aG.of kL⟩
   ·rintro i v τ acc H8 C hv ⟨⟨t0,rfl⟩,rfl,rfl⟩ hC;exact hC _ _ _ ⟨⟨_,rfl⟩,by rw [List.replicate_succ'],rfl⟩
   ·rintro τ acc H8 ⟨⟨t0,rfl⟩,rfl,rfl⟩ lA hA;rw [zA] at *;have s9:=xi (o:=HO.lst (List.replicate ls.length V.bV)) hA;have kA:upd H8 lA (HO.lst (List.replicate ls.length V.bV)) lA=some (.lst (List.replicate ls.length V.bV)):=xa;have nA:lA≠x:=(xg i7 hA).symm;have nAL:lA≠lL:=(xg kL hA).symm;have nAH:lA≠lH:=(xg kH hA).symm;have nAh:∀ h∈hs,h.1≠lA:=λh hh=>xg (kh h hh) hA;generalize upd H8 lA (HO.lst (List.replicate ls.length V.bV))=H9 at s9 kA ⊢;refine (zr rfl ⟨x,_,dx,zr rfl ⟨s9 _ _ i7,T.Ae,T.dc,by show 3 < 1000;decide,?_⟩⟩);have VW:bN x H9 (upd H9 x (.ins a.Aa dx (bQ "arrivals" (.ref lA) [("book", .ref b),("letters", .ref lL),("holders", .ref lH)]))):=bN.set;have iA:upd H9 x (.ins a.Aa dx (bQ "arrivals" (.ref lA) [("book", .ref b),("letters", .ref lL),("holders", .ref lH)])) x=some (.ins a.Aa dx [("book", .ref b),("letters", .ref lL),("holders", .ref lH),("arrivals", .ref lA)]):=xa;generalize upd H9 x (.ins a.Aa dx (bQ "arrivals" (.ref lA) [("book", .ref b),("letters", .ref lL),("holders", .ref lH)]))=HA at VW iA ⊢;have bA:bN x H HA:=(b7.trans (ay.but s9)).trans VW
    replace kL:=VW _ _ nL (s9 _ _ kL)
    replace kH:=VW _ _ nH (s9 _ _ kH)
    replace kh:∀ h∈hs,HA h.1=some (.dK (iJ h.2)):=λh hh=>VW _ _ (nh h hh) (s9 _ _ (kh h hh))
    replace kA:=VW _ _ nA kA
    have VS:=hb.aT (tu _ bA);refine (zr rfl (fF VS.book rfl ⟨tm,rfl,⟨_,bT.of VS.meets⟩,?_⟩));refine (let W19:IC:=λi τ acc H8=>(∃ t0,τ=[t0])/\acc=List.replicate i (V.int 0)/\H8=HA;jv (K:=K) (a:=tm) (xs:=ps.map λa=>V.ref a.1) W19 ⟨⟨_,rfl⟩,rfl,rfl⟩ (by rw [zA];omega) ?_ ?_ ?_)
    ·rintro i τ acc H8 ⟨_,rfl,rfl⟩;exact ⟨by simp,bT.of VS.meets⟩
    ·rintro i v τ acc H8 C hv ⟨⟨t0,rfl⟩,rfl,rfl⟩ hC;exact hC _ _ _ ⟨⟨_,rfl⟩,by rw [List.replicate_succ'],rfl⟩
    ·rintro τ acc H8 ⟨⟨t0,rfl⟩,rfl,rfl⟩ lP hP;rw [zA] at *;have sB:=xi (o:=HO.lst (List.replicate ps.length (V.int 0))) hP;have kP:upd H8 lP (HO.lst (List.replicate ps.length (V.int 0))) lP=some (.lst (List.replicate ps.length (V.int 0))):=xa;have nP:lP≠x:=(xg iA hP).symm;have nPA:lP≠lA:=(xg kA hP).symm;have nLP:=xg kL hP;have nHP:=xg kH hP;generalize upd H8 lP (HO.lst (List.replicate ps.length (V.int 0)))=HB at sB kP ⊢;refine (zr rfl ⟨x,_,dx,zr rfl ⟨sB _ _ iA,T.Ae,T.fD,by show 4 < 1000;decide,?_⟩⟩);have bsC:bN x HB (upd HB x (.ins a.Aa dx (bQ "passed" (.ref lP) [("book", .ref b),("letters", .ref lL),("holders", .ref lH),("arrivals", .ref lA)]))):=bN.set;have iC:upd HB x (.ins a.Aa dx (bQ "passed" (.ref lP) [("book", .ref b),("letters", .ref lL),("holders", .ref lH),("arrivals", .ref lA)])) x=some (.ins a.Aa dx [("book", .ref b),("letters", .ref lL),("holders", .ref lH),("arrivals", .ref lA),("passed", .ref lP)]):=xa;generalize upd HB x (.ins a.Aa dx (bQ "passed" (.ref lP) [("book", .ref b),("letters", .ref lL),("holders", .ref lH),("arrivals", .ref lA)]))=HC at bsC iC ⊢;refine (zr rfl ⟨x,_,dx,zr rfl ⟨iC,T.Ae,T.dQ,by show 5 < 1000;decide,?_⟩⟩);have bsD:bN x HC (upd HC x (.ins a.Aa dx (bQ "reached" (.int 0) [("book", .ref b),("letters", .ref lL),("holders", .ref lH),("arrivals", .ref lA),("passed", .ref lP)]))):=bN.set;have iD:upd HC x (.ins a.Aa dx (bQ "reached" (.int 0) [("book", .ref b),("letters", .ref lL),("holders", .ref lH),("arrivals", .ref lA),("passed", .ref lP)])) x=some (.ins a.Aa dx [("book", .ref b),("letters", .ref lL),("holders", .ref lH),("arrivals", .ref lA),("passed", .ref lP),("reached", .int 0)]):=xa;generalize upd HC x (.ins a.Aa dx (bQ "reached" (.int 0) [("book", .ref b),("letters", .ref lL),("holders", .ref lH),("arrivals", .ref lA),("passed", .ref lP)]))=HD at bsD iD ⊢;have Yu:bN x H8 HD:=((ay.but sB).trans bsC).trans bsD
     replace kP:=(bsC.trans bsD) _ _ nP kP
     have kAD:=Yu _ _ nA kA;refine ⟨zX _,λlD hD=>?_⟩;have sE:=xi (o:=HO.lst []) hD;have kD:upd HD lD (HO.lst []) lD=some (.lst []):=xa;have nD:lD≠x:=(xg iD hD).symm;have nDA:lD≠lA:=(xg kAD hD).symm;have nLD:=xg (Yu _ _ nL kL) hD;have nHD:=xg (Yu _ _ nH kH) hD;have nPD:=xg kP hD;generalize upd HD lD (HO.lst [])=HE at sE kD ⊢;refine (zr rfl ⟨x,_,dx,zr rfl ⟨sE _ _ iD,T.Ae,T.dw,by show 6 < 1000;decide,?_⟩⟩);have bsF:bN x HE (upd HE x (.ins a.Aa dx (bQ "deeds" (.ref lD) [("book", .ref b),("letters", .ref lL),("holders", .ref lH),("arrivals", .ref lA),("passed", .ref lP),("reached", .int 0)]))):=bN.set;have iF:upd HE x (.ins a.Aa dx (bQ "deeds" (.ref lD) [("book", .ref b),("letters", .ref lL),("holders", .ref lH),("arrivals", .ref lA),("passed", .ref lP),("reached", .int 0)])) x=some (.ins a.Aa dx [("book", .ref b),("letters", .ref lL),("holders", .ref lH),("arrivals", .ref lA),("passed", .ref lP),("reached", .int 0),("deeds", .ref lD)]):=xa;generalize upd HE x (.ins a.Aa dx (bQ "deeds" (.ref lD) [("book", .ref b),("letters", .ref lL),("holders", .ref lH),("arrivals", .ref lA),("passed", .ref lP),("reached", .int 0)]))=HF at bsF iF ⊢;have bEF:bN x HD HF:=(ay.but sE).trans bsF;have Yt:bN x H8 HF:=Yu.trans bEF;have bF:bN x H HF:=bA.trans Yt;have lh:hs.length=ls.length:=by have:=congrArg List.length e;simpa using this
     have tF:dZ a.Aa HF x b dx lL lH lA lP lD ls hs (List.replicate ls.length none) (List.replicate ps.length 0) 0 []:=
      ⟨iF,Yt _ _ nL kL,λl hl=>tu _ bF _ _ (hrw l hl),Yt _ _ nH kH,λh hh=>Yt _ _ (nh h hh) (kh h hh),by rw [Yt _ _ nA kA,List.map_replicate];rfl,by rw [bEF _ _ nP kP,List.map_replicate],bsF _ _ nD kD⟩
     have PR:∀ H',bN lA HF H'->∀ WI,H' lA=some (.lst (WI.map oV))->dZ a.Aa H' x b dx lL lH lA lP lD ls hs WI (List.replicate ps.length 0) 0 []:=λH' z WI ea=>
      ⟨z _ _ nA.symm tF.ins,z _ _ nAL.symm tF.Ni,λl hl=>z _ _ (wU (tF.rows l hl) tF.arr (by intro z;cases z)) (tF.rows l hl),z _ _ nAH.symm tF.vE,λh hh=>z _ _ (nAh h hh) (tF.lR h hh),ea,z _ _ nPA tF.O6,z _ _ nDA tF.Mu⟩
     refine (zr rfl ⟨x,_,dx,dh rfl ⟨iF,T.Ae,T.bI,rfl,lL,rfl,⟨_,aG.of tF.Ni⟩,?_⟩⟩);refine (let W20:IV:=λi σ HG=>(∃ v3 v4 v5 v6 v7,σ=[some (.ref x),some (.ref b),some (.ref l0),v3,v4,v5,v6,v7])/\bN lA HF HG/\HG lA=some (.lst ((iU ls i).map oV));fN (K:=K) (a:=lL) (xs:=ls.map λl=>V.ref l.1) W20 ⟨⟨_,_,_,_,_,rfl⟩,bN.refl _ _,by rw [tF.arr,Uh]⟩ ?_ ?_ ?_)
     ·rintro i σ HG _ ⟨_,bG,kG⟩;exact aG.of (PR _ bG _ kG).Ni
     ·rintro i v q0 σ HG hv hq ⟨⟨v3,v4,v5,v6,v7,rfl⟩,bG,kG⟩;obtain ⟨l1,vG,rfl⟩:=wQ hv;have hi:i < ls.length:=(zB.mp vG).1;have s1:=xi (o:=HO.tup [V.int (i:Int),V.ref l1.1]) hq;have kq:upd HG q0 (HO.tup [V.int (i:Int),V.ref l1.1]) q0=some (.tup [V.int (i:Int),V.ref l1.1]):=xa;generalize upd HG q0 (HO.tup [V.int (i:Int),V.ref l1.1])=HI at s1 kq ⊢;have tI:=(PR _ bG _ kG).same s1;refine ⟨q0,zr rfl ⟨bT.of kq,rfl,dh rfl (dh rfl (sI (tI.rows l1 (zC vG)) ⟨rfl,?_⟩))⟩⟩;refine (zr rfl ⟨x,dx,zr rfl ⟨tI.ins,rfl,zr rfl (zr rfl (zr rfl ⟨x,b,dx,lL,lH,lA,lP,lD,ls,hs,_,_,_,_,i,_,_,l1,rfl,tI,vG,by rw [O7 (by omega)];exact hi,λHJ bJ kJ=>?_⟩))⟩⟩);exact ⟨⟨_,_,_,_,_,rfl⟩,(bG.trans (ay.but s1)).trans bJ,by rw [kJ,M8 vG]⟩
     ·rintro σ HG ⟨⟨v3,v4,v5,v6,v7,rfl⟩,bG,kG⟩;rw [zA,O8] at kG;have n0A:H lA=none:=by
       cases z:H lA with
       | none=>rfl
       | some u=>have:=b7 _ _ nA z;rw [hA] at this;cases this
      refine q ⟨x,b,dx,lL,lH,lA,lP,lD,ls,hs,ls.map λl=>lV l.2,List.replicate ps.length 0,0,[]⟩ HG (λc u n z=>bG c u (xg z n0A) (bF c u n z)) ⟨PR _ bG _ kG,(hb.aT (tu _ bF)).aT (λc xs z=>bG c _ (wU z tF.arr (by intro z;cases z)) z),gd,rm,lh,by rw [zA],by rw [yg],n41,λh hh=>?_,zX _,⟨nAL.symm,nLP,nLD,nAH.symm,nHP,nHD,nPA.symm,nDA.symm,nPD⟩,Mh⟩ ⟨rfl,rfl,rfl,e,rfl,rfl,rfl,rfl,λc hc=>?_⟩
      ·have:h.2∈hs.map (·.2):=zO.mpr ⟨h,hh,rfl⟩;rw [e] at this;obtain ⟨l,_,el⟩:=zO.mp this;rw [<-el];exact zE 1
      ·rcases hc with (rfl | rfl | rfl | rfl | hc) | rfl | rfl
       ·exact .inl rfl
       ·exact .inr n0A
       ·exact .inr (bA.free nP hP)
       ·exact .inr ((bA.trans Yu).free nD hD)
       ·obtain ⟨h,hh,rfl⟩:=zO.mp hc;exact .inr (b3.free (nh h hh) (fh h hh))
       ·exact .inr (b1.free nL hL)
       ·exact .inr (b3.free nH n3H)
theorem IH:cF P w K mg base mD 1 a.Ay a.AR ["self", "letter"] (OG a.Aa):=by
 refine T.Az.ok EX (λvs H Q E h=>?_) (λbP A outer s H vs Q E hr h=>?_)
 ·obtain ⟨_,_,_,_,_,_,_,_,_,_,_,_,_,_,_,_,rfl,_⟩:=h;rfl
 ·have nd:=EX.nd;have hu:=hr.units;obtain ⟨x,b,dx,lL,lH,lA,lP,lD,ls,hs,os,ns,r,ds,n,h0,rfl,t,hn,X4,q⟩:=h;refine ⟨_,(xf (xy (xv (xw (ow rfl) (by rfl) T.oB PyProof.Rows.boot_sorted (xb (xc (O5 PySem.F.plainAttrs_dict PySem.F.slot_dict_items PySem.F.type_dict_items Pw (xu (xp rfl) (wT (pv 0) rfl) (pv 1) (λ_ _=>rfl))) xo rfl)))))),?_⟩;have line:=bD;have hh:=t.lR h0 (zC hn);have rS:dI (hs.map λh=>V.ref h.1) (n:Int)=some (V.ref h0.1):=wB (by rw [zF,hn];rfl);refine (zr rfl ⟨x,_,dx,dh rfl ⟨t.ins,T.Ae,T.bK,rfl,zr rfl (cu t.vE rS ?_)⟩⟩);refine ⟨.inr (.inr (.inl ⟨rfl,.inl ⟨_,hh⟩⟩)),h0.1,zr rfl ⟨rfl,hh,λv hv=>?_⟩⟩;have sv:=xi (o:=LM v h0.1) hv;exact ⟨v,h0.1,h0.2,rfl,xa,sv _ _ hh,X4,λl qs H' sm nl nq kl kr pm pw=>q l qs H' (sv.trans sm) (sv.free nl) (λa ha=>sv.free (nq a ha)) kl kr pm pw⟩
theorem Kh:cF P w K mg base mD 2 a.AV a.BO ["self", "walker"] (Wn a.Aa):=by
 have BJ:=C2 P w base T B;refine T.AY.ok HU (λvs H Q E h=>?_) (λbP A outer s H vs Q E hr h=>?_)
 ·obtain ⟨_,_,_,_,_,_,_,_,_,_,_,_,_,_,_,rfl,_⟩:=h;rfl
 ·have nd:=HU.nd;have hu:=hr.units;obtain ⟨x,b,dx,lL,lH,lA,lP,lD,ls,hs,os,ns,r,ds,w0,rfl,t,n41,lh,q⟩:=h;refine cy ?_;intro Y
  let B0:Bk Y (nb (ak CY) 1):=⟨_,(xf (xy (wG (PW.pt (cY (xx (Pe hu) (pv 1) (pv 4) rfl) (cR (qC (qO (pv 0) T.Ae T.DA BJ (hr.mono (by decide)) T.Dm .nil eX (xb (xc (pv 3) (xc (pv 1) xo rfl) rfl))))))) (xf (xy (wO (qP zQ zU zV wN (pv 2) (xb (xc (pv 3) xo rfl)))))) wA)))⟩
  let B1:Bk Y ((ak CY).drop 1):=⟨_,(xf (xr (wZ PassesOwn.never rfl (gK rfl rfl T.cC (xb (xc (wT (pv 0) rfl) xo rfl))) (wE (n:=2) rfl rfl (xj (xk (i:=3) nd rfl rfl) (xj (xk (i:=4) nd rfl rfl) wD))) B0.ps) (xy (xv (pv 2)))))⟩
  refine ⟨_,(xf (xr (xt (i:=2) nd rfl rfl (wM wu)) B1.bl)),?_⟩;have line:=bD;refine ⟨zX _,λlk hlk=>?_⟩;have s1:=xi (o:=HO.lst []) hlk;refine (zr rfl ⟨x,_,dx,dh rfl ⟨s1 _ _ t.ins,T.Ae,T.bK,rfl,lH,rfl,⟨_,aG.of (s1 _ _ t.vE)⟩,?_⟩⟩);refine (let W21:IV:=λi σ H3=>(∃ v3 v4,σ=[some (.ref x),some (.int w0),some (.ref lk),v3,v4])/\ay H H3/\H3 lk=some (.lst ((iL w0 ls hs i).map V.int));fN (K:=K) (a:=lH) (xs:=hs.map λh=>V.ref h.1) W21 ⟨⟨_,_,rfl⟩,s1,xa⟩ ?_ ?_ ?_)
  ·rintro i σ H3 _ ⟨_,s3,_⟩;exact aG.of (s3 _ _ t.vE)
  ·rintro i v q0 σ H3 hv hq ⟨⟨v3,v4,rfl⟩,s3,kl⟩;obtain ⟨h0,hh,rfl⟩:=wQ hv;obtain ⟨l1,vG⟩:∃ l,ls[i]?=some l:=⟨_,zG (by have:=(zB.mp hh).1;omega)⟩;have s4:=xi (o:=HO.tup [V.int (i:Int),V.ref h0.1]) hq;have k4:=s4 _ _ kl;have kq:upd H3 q0 (HO.tup [V.int (i:Int),V.ref h0.1]) q0=some (.tup [V.int (i:Int),V.ref h0.1]):=xa;generalize upd H3 q0 (HO.tup [V.int (i:Int),V.ref h0.1])=H4 at s4 k4 kq ⊢;have YS:=s3.trans s4;have t4:=t.same YS;refine (uD kq ?_);refine (zr rfl (zr rfl ⟨h0.1,zr rfl ⟨jG.k (k:=Sum.inl w0) (t4.lR h0 (zC hh)),zr rfl ?_⟩⟩));rw [dM];have nn:iL w0 ls hs (i + 1)=iL w0 ls hs i++(if tW w0 ls[i]? hs[i]? then [(i:Int)] else []):=rfl;rw [vG,hh] at nn;cases c:(h0.2.any λp=>decide (p.1=w0)) with
   | false=>exact aF rfl ⟨⟨_,_,rfl⟩,YS,by rw [nn,if_neg (by simp only [tW,c,yS];exact zK),yj];exact k4⟩
   | true=>
    refine bH rfl (zr rfl ⟨x,dx,zr rfl ⟨t4.ins,rfl,zr rfl (zr rfl ⟨x,b,dx,lL,lH,lA,lP,lD,ls,hs,os,ns,r,ds,i,w0,l1,rfl,t4,vG,λH5 s5=>(zr rfl ?_)⟩)⟩⟩);have k5:=s5 _ _ k4;cases c2:(!(decide (w0=l1.2.s) || decide (w0=l1.2.w))) with
    | false=>exact aF rfl ⟨⟨_,_,rfl⟩,YS.trans s5,by rw [nn,if_neg (by simp only [tW,c,c2,xY];exact zK),yj];exact k5⟩
    | true=>
     have li:=kK w0 ls hs i;have hi:i < hs.length:=(zB.mp hh).1;refine bH rfl (zr rfl ⟨.inl ⟨rfl,_,aG.of k5⟩,zr rfl ⟨lk,aJ rfl rfl ⟨k5,by rw [zA];omega,⟨_,_,rfl⟩,OQ (YS.trans s5) hlk,?_⟩⟩⟩);rw [xa,nn,if_pos (by simp only [tW,c,c2,Bool.and_self]),zD];rfl
  ·rintro σ H3 ⟨⟨v3,v4,rfl⟩,s3,kl⟩;rw [zA] at kl;exact (zr rfl (q lk H3 s3 hlk kl))
theorem K9:cF P w K mg base mD 1 a.AJ a.Bq ["self", "letter"] (lY):=⟨λ_ _ _ _ h=>h.elim,λ_ _ _ _ _ _ _ _ _ _ _ _ _ h=>h.elim⟩
theorem JT:cF P w K mg base mD 1 a.AI a.Bp ["self"] (TZ a.Aa):=by
 refine T.AK.ok GS (λvs H Q E h=>?_) (λbP A outer s H vs Q E hr h=>?_)
 ·obtain ⟨_,_,_,_,_,_,_,_,_,_,_,_,_,_,rfl,_⟩:=h;rfl
 ·have nd:=GS.nd;have hu:=hr.units;obtain ⟨x,b,dx,lL,lH,lA,lP,lD,ls,hs,os,ns,r,ds,rfl,t,q⟩:=h;refine ⟨_,(xf (xy (xv (cL (fG rfl) (by rfl) T.vW PyProof.Rows.boot_list (xb (xc (wT (pv 0) rfl) xo rfl)))))),?_⟩;exact (zr rfl ⟨x,_,dx,dh rfl ⟨t.ins,T.Ae,T.dw,rfl,lD,zr rfl ⟨.inl (aG.of t.Mu),q⟩⟩⟩)
theorem FQ:cF P w K mg base mD 3 a.Aj a.As ["self", "letter"] (MV a.Aa):=by
 have AW:=CF P w base T B;refine T.Ak.ok Cu (λvs H Q E h=>?_) (λbP A outer s H vs Q E hr h=>?_)
 ·obtain ⟨_,_,_,_,_,_,_,rfl,_⟩:=h;rfl
 ·have nd:=Cu.nd;have hu:=hr.units;obtain ⟨t,l,ah,tr,tm,ps,n0,rfl,k,l0,l1,q⟩:=h;refine ⟨_,(xf (xy (wG (fm (qC (bw AW hr T.Bo (xb (xc (pv 1) (xc xh (xc (xz cZ (xw (xq rfl) (by rfl) T.bL PySem.boot_len (xb (xc (wT (pv 0) rfl) xo rfl))) xh) xo rfl) rfl) rfl))))) (xf (xy qN)) wA))),?_⟩;refine (zr rfl (zr rfl ⟨t.x,_,t.dx,dh rfl ⟨k.at_.ins,T.Ae,T.bI,rfl,t.lL,zr rfl ⟨.inl (aG.of k.at_.Ni),aJ rfl rfl ⟨.int l, "int", 0,zr rfl ⟨rfl,zr rfl ?_⟩⟩⟩⟩⟩));rw [zA];exact aF (by simp [oX];omega) q
theorem GY:cF P w K mg base mD 1 a.Ao a.AA ["self", "letter", "walker"] (lY):=⟨λ_ _ _ _ h=>h.elim,λ_ _ _ _ _ _ _ _ _ _ _ _ _ h=>h.elim⟩
theorem Fb:cF P w K mg base mD 4 a.Ag a.Aq ["self", "meeting", "letter", "giver"] (MU a.Aa):=by
 have Dc:=Fa P w base T B;have FV:=E9 P w base T B;have AN:=Cc P w base T B;have BJ:=C2 P w base T B;have KD:=Kh P w base T B;have GC:=FQ P w base T B;refine T.Ai.ok BY (λvs H Q E h=>?_) (λbP A outer s H vs Q E hr h=>?_)
 ·obtain ⟨_,_,_,_,_,_,_,_,_,rfl,_⟩:=h;rfl
 ·have nd:=BY.nd;have hu:=hr.units;obtain ⟨t,m,l,g,ah,tr,tm,ps,n0,rfl,k,ce,q⟩:=h;refine cy ?_;intro Y
  let B0:Bk Y ((ak wL).drop 8):=⟨_,(xf (xy (wG (PW.pt (cY (qC (qO (pv 0) T.Ae T.DA BJ (hr.mono (by decide)) T.Dm .nil eX (xb (xc (pv 2) (xc (pv 8) xo rfl) rfl)))) (cR (xx Pf (xw (xq rfl) (by rfl) T.bL PySem.boot_len (xb (xc (qO (pv 0) T.Ae T.KB KD (hr.mono (by decide)) T.Kx .nil eX (xb (xc (pv 8) xo rfl))) xo rfl))) (xu (wC rfl) (xu (wC rfl) (wT (pv 0) rfl) xh (λ_ _=>rfl)) (pv 8) (λ_ _=>rfl)) (aE _))))) (xf (xy qN)) wA)))⟩
  let B1:Bk Y ((ak wL).drop 6):=⟨_,(xf (xr (wG (xx (Pe hu) (pv 8) (xu (xp rfl) (wT (pv 0) rfl) (pv 2) (λ_ _=>rfl)) rfl) (xf (xy qN)) wA) (xr (wG (xx Pf (xu (xp rfl) (wT (pv 0) rfl) (pv 1) (λ_ _=>rfl)) (pv 7) (aE _)) (xf (xy qN)) wA) B0.bl)))⟩
  let B2:Bk Y ((ak wL).drop 4):=⟨_,(xf (xr (wG (fm (qC (bw Dc hr T.C1 (xb (xc (qP PySem.F.plainAttrs_dict PySem.F.slot_dict_get PySem.F.type_dict_get (RZ (by exact hu)) (xu (xp rfl) (wT (pv 0) rfl) (pv 2) (λ_ _=>rfl)) (xb (xc (pv 3) xo rfl))) (xc (pv 6) xo rfl) rfl))))) (xf (xy qN)) wA) (xr (xt (i:=8) nd rfl rfl (bw AN hr T.Bi (xb (xc (wT (pv 0) rfl) (xc (pv 1) (xc (pv 3) xo rfl) rfl) rfl)))) B1.bl)))⟩
  let B3:Bk Y ((ak wL).drop 2):=⟨_,(xf (xr (we (xu (wC rfl) (xu (wC rfl) (wT (pv 0) rfl) xh (λ_ _=>rfl)) (pv 1) (λ_ _=>rfl)) (wE (n:=4) rfl rfl (xj (xk (i:=4) nd rfl rfl) (xj (xk (i:=5) nd rfl rfl) (xj (xk (i:=6) nd rfl rfl) (xj (xk (i:=7) nd rfl rfl) wD)))))) (xr (wG (xx jh (pv 3) (wS (xb (xc (pv 4) (xc (pv 5) xo rfl) rfl))) rfl) (xf (xy qN)) wA) B2.bl)))⟩
  refine ⟨_,(xf (xr (wG (PW.pt (pQ (fm (qC (bw FV hr T.A5 (xb (xc (wT (pv 0) rfl) (xc (pv 1) xo rfl) rfl))))) (jY (xx pV (pv 1) (wT (pv 0) rfl) (aE _))))) (xf (xy qN)) wA) (xr (wO (qO (pv 0) T.Ae T.Gx GC (hr.mono (by decide)) T.Gi .nil eX (xb (xc (pv 2) xo rfl)))) B3.bl))),?_⟩;have line:=bD;obtain ⟨m,l,M0,L,h,rfl,rfl,hM,hL,hh,hr,c4,c5,c6,c8⟩:=Qp k.lh ce;have hm:m < ps.length:=by have:=(zB.mp hM).1;rwa [zA] at this
  have hl:l < t.ls.length:=(zB.mp hL).1;obtain ⟨M,hp⟩:∃ M,ps[m]?=some M:=⟨_,zG hm⟩;have eM:M.2=M0:=by rw [zF,hp] at hM;exact Option.some.inj hM
  subst eM;obtain ⟨h',XM,_,hd⟩:=k.UC hl;rw [hh] at XM;cases XM;obtain ⟨n,hn⟩:∃ n,t.ns[m]?=some n:=⟨_,zG (by have:=k.ln;omega)⟩;have cD:H M.1=some (.tup M.2.vs):=k.bk.rows M (zC hp);have atm:dI (ps.map λa=>V.ref a.1) (m:Int)=some (V.ref M.1):=wB (by rw [zF,hp];rfl);have rS:dI (t.hs.map λh=>V.ref h.1) (l:Int)=some (V.ref h.1):=wB (by rw [zF,hh];rfl);have at2:dI (t.ns.map V.int) (m:Int)=some (V.int n):=wB (by rw [zF,hn];rfl);rw [hn] at c8;unfold kF at c8;rw [if_pos c4,if_pos c5,if_neg (by rw [c6];exact zK)] at c8;have c7:¬ M.2.m<=n:=λz=>by rw [if_pos (show M.2.m<=(some n).getD 0 from z)] at c8;cases c8
  rw [if_neg (show ¬ M.2.m<=(some n).getD 0 from c7)] at c8;have c9:¬ (Tz L.2 (aN M.2 g) && decide ((ah[(aN M.2 g).toNat]?.getD 0)<=((iL (aN M.2 g) t.ls t.hs t.hs.length).length:Int)))=true:=λz=>by rw [if_pos z] at c8;cases c8
  refine (zr rfl ⟨t.x,_,t.dx,dh rfl ⟨k.at_.ins,T.Ae,T.cg,rfl,zr rfl ⟨t.b,.int m,Yc ("int") ah tr tm ps ⟨rfl,k.bk,rfl,zr rfl (aF (by simp [oX];omega) ?_)⟩⟩⟩⟩);refine (zr rfl (zr rfl ⟨t.x,_,t.dx,dh rfl ⟨k.at_.ins,T.Ae,T.dQ,rfl,aJ rfl rfl (zr rfl (aF (decide_eq_false (by omega)) ?_))⟩⟩));refine (zr rfl ⟨t.x,t.dx,zr rfl ⟨k.at_.ins,rfl,zr rfl (uG t l ah tr tm ps n0 ⟨rfl,k,by omega,by omega,?_⟩)⟩⟩);refine (zr rfl ⟨t.x,_,t.dx,dh rfl ⟨k.at_.ins,T.Ae,T.cg,rfl,fF k.bk.book rfl (zr rfl (fF k.bk.meets atm (sI cD ?_)))⟩⟩);refine (zr rfl (zr rfl (zr rfl ⟨by show 2<=_;omega,λt2 oQ=>⟨t2,zr rfl ⟨.inr (bT.of xa),rfl,rfl,zr rfl ?_⟩⟩⟩)));have s1:=xi (o:=HO.tup [V.int M.2.lo,V.int M.2.hi]) oQ;generalize upd H t2 (HO.tup [V.int M.2.lo,V.int M.2.hi])=H1 at s1 ⊢;have k1:=k.same s1;have QN:=s1 _ _ hd;have eV:vC (V.int g) [V.int M.2.lo,V.int M.2.hi]=true:=by
   rcases c4 with z | z <;> simp [vC,Mr,z]
  refine aF (by show (!vC (V.int g) [V.int M.2.lo,V.int M.2.hi])=false;rw [eV];rfl) ?_;refine (zr rfl ⟨t.x,_,t.dx,dh rfl ⟨k1.at_.ins,T.Ae,T.bK,rfl,zr rfl (cu k1.at_.vE rS ⟨.inr (.inr (.inl ⟨rfl,.inl ⟨_,QN⟩⟩)),zr rfl ⟨h.1,aJ rfl rfl ⟨jG.k (k:=Sum.inl g) QN,zr rfl ⟨aX h.2 g,M.2.t,by rw [fT];cases aX h.2 g <;> rfl,zr rfl ?_⟩⟩⟩⟩)⟩⟩);rw [c5];refine aF rfl (zr rfl ⟨t.x,_,t.dx,dh rfl ⟨k1.at_.ins,T.Ae,T.cg,rfl,zr rfl (zr rfl (Yb t.b m g ah tr tm ps M.2 ⟨rfl,k1.bk,hM,?_⟩))⟩⟩);refine (zr rfl (zr rfl ⟨t.x,_,t.dx,dh rfl ⟨k1.at_.ins,T.Ae,T.bK,rfl,zr rfl (cu k1.at_.vE rS ⟨h.1,zr rfl ⟨jG.k (k:=Sum.inl (aN M.2 g)) QN,zr rfl ?_⟩⟩)⟩⟩));rw [fT,yn,c6];refine aF rfl (zr rfl ⟨t.x,_,t.dx,dh rfl ⟨k1.at_.ins,T.Ae,T.fD,rfl,zr rfl (cu k1.at_.O6 at2 (zr rfl (aJ rfl rfl (zr rfl (aF (decide_eq_false c7) ?_)))))⟩⟩);refine (zr rfl ⟨t.x,t.dx,zr rfl ⟨k1.at_.ins,rfl,zr rfl (zr rfl ⟨t.x,t.b,t.dx,t.lL,t.lH,t.lA,t.lP,t.lD,t.ls,t.hs,t.os,t.ns,t.r,t.ds,l,aN M.2 g,L,rfl,k1.at_,hL,λH2 s2=>(zr rfl ?_)⟩)⟩⟩);have k2:=k1.same s2;cases e8:(!(decide (aN M.2 g=L.2.s) || decide (aN M.2 g=L.2.w))) with
  | false=>exact aF rfl (aF rfl (q _ (s1.trans s2)))
  | true=>
  have oi:=RM (g:=g) k.gd hM;obtain ⟨o,eo⟩:=zd oi.1;obtain ⟨rr,hrr⟩:∃ rr,ah[o]?=some rr:=⟨_,zG (by omega)⟩;have at3:dI (ah.map V.int) (aN M.2 g)=some (V.int rr):=by rw [eo];exact wB (by rw [zF,hrr];rfl)
  refine bH rfl (zr rfl ⟨t.x,t.dx,zr rfl ⟨k2.at_.ins,rfl,zr rfl ⟨t.x,t.b,t.dx,t.lL,t.lH,t.lA,t.lP,t.lD,t.ls,t.hs,t.os,t.ns,t.r,t.ds,aN M.2 g,rfl,k2.at_,by have:=k.lh;have:=k.lC;omega,k.lh,λlb H3 s3 fl QM=>?_⟩⟩⟩);have k3:=k2.same s3;refine ⟨lb,zr rfl ⟨.inl (aG.of QM),zr rfl ⟨t.x,_,t.dx,dh rfl ⟨k3.at_.ins,T.Ae,T.cg,rfl,fF k3.bk.book rfl (zr rfl (fF k3.bk.ah at3 (aJ rfl rfl (zr rfl (aF (decide_eq_false λz=>c9 ?_) (q _ ((s1.trans s2).trans s3)))))))⟩⟩⟩⟩;unfold Tz;rw [zA] at z;rw [e8,eo,zf,hrr,<- eo];exact decide_eq_true z
theorem Ih:cF P w K mg base mD 2 a.Au a.AG ["self", "meeting", "letter", "giver"] (OD a.Aa):=by
 have AN:=Cc P w base T B;have A9:=Cd P w base T B;refine T.Av.ok ER (λvs H Q E h=>?_) (λbP A outer s H vs Q E hr h=>?_)
 ·obtain ⟨_,_,_,_,_,_,_,_,_,_,_,rfl,_⟩:=h;rfl
 ·have nd:=ER.nd;have hu:=hr.units;obtain ⟨t,m,l,g,M,L,ah,tr,tm,ps,n0,rfl,k,hM,hL,hg,n2,q⟩:=h;refine cy ?_;intro Y
  let B0:Bk Y ((ak ww).drop 5):=⟨_,(xf (xy (wO (qO (pv 0) T.Ae T.Cw A9 (hr.mono (by decide)) T.Cv .nil eX (xb (xc (pv 2) (xc (pv 4) (xc (pv 5) xo rfl) rfl) rfl))))))⟩
  let B1:Bk Y ((ak ww).drop 2):=⟨_,(xf (xr (LW (zq (Nat.add_le_add_left (by decide) _) hu) (xu (xp rfl) (wT (pv 0) rfl) (pv 2) (λ_ _=>rfl)) (pv 4) (pv 5) rfl) (xr (LY (wT (pv 0) rfl) (pv 1) (t7 rfl) xh PX set_list) (xr (gH (pv 0) (pv 1) rfl) B0.bl))))⟩
  refine ⟨_,(xf (xr (xt (i:=4) nd rfl rfl (bw AN hr T.Bi (xb (xc (wT (pv 0) rfl) (xc (pv 1) (xc (pv 3) xo rfl) rfl) rfl)))) (xr (xt (i:=5) nd rfl rfl (xu (wC rfl) (xu (wC rfl) (xu (wC rfl) (wT (pv 0) rfl) xh (λ_ _=>rfl)) (pv 1) (λ_ _=>rfl)) xh (λ_ _=>rfl))) B1.bl))),?_⟩;have line:=bD;have hl:l < t.ls.length:=(zB.mp hL).1;obtain ⟨h,hh,ek,hd⟩:=k.UC hl;obtain ⟨p0,hp⟩:∃ p0,ps[m]?=some p0:=⟨_,zG (by have:=(zB.mp hM).1;simpa using this)⟩;have eM:p0.2=M:=by rw [zF,hp] at hM;exact Option.some.inj hM
  subst eM;obtain ⟨n,hn⟩:∃ n,t.ns[m]?=some n:=⟨_,zG (by have:=k.ln;have:=(zB.mp hp).1;omega)⟩;have cD:H p0.1=some (.tup p0.2.vs):=k.bk.rows p0 (zC hp);have atm:dI (ps.map λa=>V.ref a.1) (m:Int)=some (V.ref p0.1):=wB (by rw [zF,hp];rfl);have rS:dI (t.hs.map λh=>V.ref h.1) (l:Int)=some (V.ref h.1):=wB (by rw [zF,hh];rfl);have sh:=k.sh h (zC hh);refine (zr rfl ⟨t.x,_,t.dx,dh rfl ⟨k.at_.ins,T.Ae,T.cg,rfl,zr rfl (zr rfl (Yb t.b m g ah tr tm ps p0.2 ⟨rfl,k.bk,hM,?_⟩))⟩⟩);refine (zr rfl ⟨t.x,_,t.dx,dh rfl ⟨k.at_.ins,T.Ae,T.cg,rfl,fF k.bk.book rfl (zr rfl (fF k.bk.meets atm (fF cD rfl ?_)))⟩⟩);refine (zr rfl (zr rfl ⟨t.x,_,t.dx,dh rfl ⟨k.at_.ins,T.Ae,T.bK,rfl,zr rfl (cu k.at_.vE rS (zr rfl ⟨h.1,zr rfl ⟨NW.k (k:=Sum.inl (aN p0.2 g)) hd (by unfold iJ;rw [zA];omega),?_⟩⟩))⟩⟩));rw [LV];have k1:=(k.mono (zx n0)).Xs hh (kv:=br h.2 (aN p0.2 g) p0.2.t) (by have:=pY h.2 (aN p0.2 g) p0.2.t;omega);have kp1:=k.XH hh (o:=HO.dK (iJ (br h.2 (aN p0.2 g) p0.2.t)));generalize upd H h.1 (HO.dK (iJ (br h.2 (aN p0.2 g) p0.2.t)))=H1 at k1 kp1 ⊢;have WH:H1 t.lP=some (.lst (t.ns.map V.int)):=k1.at_.O6;have l2:m < (t.ns.map V.int).length:=by rw [zA];exact (zB.mp hn).1
  refine (zr rfl ⟨t.x,_,t.dx,dh rfl ⟨k1.at_.ins,T.Ae,T.fD,rfl,zr rfl ⟨t.lP,_,_,m,rfl,rfl,aG.of WH,(by show (t.ns.map V.int)[m]?=some (V.int n);rw [zF,hn];rfl),aJ rfl rfl ⟨t.lP,_,_,m,rfl,rfl,WH,(by show uE (t.ns.map V.int).length (m:Int)=some m;unfold uE;rw [if_pos (by omega),if_pos (by omega)];simp),?_⟩⟩⟩⟩);have k2:bW a.Aa (upd H1 t.lP (.lst ((t.ns.set m (n + 1)).map V.int))) { t.iw l (br h.2 (aN p0.2 g) p0.2.t) with ns:=t.ns.set m (n + 1) } ah tr tm ps (n0 + 1):=k1.abd (by rw [List.length_set];exact k.ln);have kp2:Keeps t H1 (upd H1 t.lP (.lst ((t.ns.set m (n + 1)).map V.int))):=Keeps.put (.inr (.inr (.inl rfl)));rw [yq] at k2 kp2;show sM _ _ _ _ (upd H1 t.lP (HO.lst ((t.ns.map V.int).set m (V.int (n + 1)))));generalize upd H1 t.lP (HO.lst ((t.ns.map V.int).set m (V.int (n + 1))))=H2 at k2 kp2 ⊢;have i2:H2 t.x=some (.ins a.Aa t.dx [("book", .ref t.b),("letters", .ref t.lL),("holders", .ref t.lH),("arrivals", .ref t.lA),("passed", .ref t.lP),("reached", .int t.r),("deeds", .ref t.lD)]):=k2.at_.ins;refine (zr rfl (zr rfl ⟨t.x,_,t.dx,zr rfl ⟨i2,T.Ae,T.dQ,by show 7 < 1000;decide,?_⟩⟩));have k3:=k2.aa4 (r:=(m:Int));have kp3:Keeps t H2 (upd H2 t.x (.ins a.Aa t.dx [("book", .ref t.b),("letters", .ref t.lL),("holders", .ref t.lH),("arrivals", .ref t.lA),("passed", .ref t.lP),("reached", .int (m:Int)),("deeds", .ref t.lD)])):=Keeps.put (.inl rfl);have k3':bW a.Aa (upd H2 t.x (.ins a.Aa t.dx (bQ "reached" (.int (m:Int)) [("book", .ref t.b),("letters", .ref t.lL),("holders", .ref t.lH),("arrivals", .ref t.lA),("passed", .ref t.lP),("reached", .int t.r),("deeds", .ref t.lD)]))) _ ah tr tm ps (n0 + 1):=k3;have abw:Keeps t H2 (upd H2 t.x (.ins a.Aa t.dx (bQ "reached" (.int (m:Int)) [("book", .ref t.b),("letters", .ref t.lL),("holders", .ref t.lH),("arrivals", .ref t.lA),("passed", .ref t.lP),("reached", .int t.r),("deeds", .ref t.lD)]))):=kp3;have i3:upd H2 t.x (.ins a.Aa t.dx (bQ "reached" (.int (m:Int)) [("book", .ref t.b),("letters", .ref t.lL),("holders", .ref t.lH),("arrivals", .ref t.lA),("passed", .ref t.lP),("reached", .int t.r),("deeds", .ref t.lD)])) t.x=some (.ins a.Aa t.dx [("book", .ref t.b),("letters", .ref t.lL),("holders", .ref t.lH),("arrivals", .ref t.lA),("passed", .ref t.lP),("reached", .int (m:Int)),("deeds", .ref t.lD)]):=xa;refine (zr rfl ⟨t.x,t.dx,zr rfl ⟨i3,rfl,zr rfl (zr rfl (zr rfl ⟨_,_,_,_,_,_,_,_,_,_,_,_,_,_,l,aN p0.2 g,p0.2.t,L,rfl,k3'.at_,hL,by show l < t.os.length;rw [k.lo];exact hl,λH4 b4 h4=>?_⟩))⟩⟩);have k4:=k3'.acO (os:=iG t.os l L.2 (aN p0.2 g) p0.2.t) (by rw [Nc];exact k.lo) b4 h4;refine q H4 (((kp1.trans kp2).trans abw).trans (Keeps.but (.inr (.inl rfl)) b4)) ?_;have e:t.bZ m l p0.2 L.2 (aN p0.2 g)={ t.iw l (br h.2 (aN p0.2 g) p0.2.t) with ns:=t.ns.set m (n + 1),r:=(m:Int),os:=iG t.os l L.2 (aN p0.2 g) p0.2.t }:=by
   unfold Tr.bZ;rw [ek,hn];rfl
  rw [e];exact k4
theorem Kv:cF P w K mg base mD 5 a.Bs a.CT ["self", "deed"] (T3 a.Aa):=by
 have J5:=Jj P w base T B;have KW:=Ku P w base T B;have Ht:=GY P w base T B;have FW:=Fb P w base T B;have Jc:=Ih P w base T B;refine T.Bt.ok Iw (λvs H Q E h=>?_) (λbP A outer s H vs Q E hr h=>?_)
 ·obtain ⟨_,_,_,_,_,_,_,_,_,_,_,rfl,_⟩:=h;rfl
 ·have nd:=Iw.nd;have hu:=hr.units;obtain ⟨t,p,gv,m,l,g,ah,tr,tm,ps,n0,rfl,k,n2,hd,c,q⟩:=h;refine cy ?_;intro Y
  let B0:Bk Y ((nb (ak qM) 0).drop 2):=⟨_,(xf (xr (wO (qO (pv 0) T.Ae T.IU Jc (hr.mono (by decide)) T.II .nil eX (xb (xc (pv 3) (xc (pv 4) (xc (pv 5) xo rfl) rfl) rfl)))) (xy (wG (xx qB (pv 2) gM (aE _)) (xf (xy (LX (xu (xp rfl) (wT (pv 0) rfl) (pv 4) (λ_ _=>rfl)) (pv 5)))) wA))))⟩
  let B1:Bk Y ((nb (ak qM) 0).drop 1):=⟨_,(xf (xr (wO (qO (pv 0) T.Ae T.FU FW (hr.mono (by decide)) T.FR .nil eX (xb (xc (pv 3) (xc (pv 4) (xc (pv 5) xo rfl) rfl) rfl)))) B0.bl))⟩
  let B2:Bk Y (nb (ak qM) 0):=⟨_,(xf (xr (we (pv 1) (wE (n:=4) rfl rfl (xj (xk (i:=2) nd rfl rfl) (xj (xk (i:=3) nd rfl rfl) (xj (xk (i:=4) nd rfl rfl) (xj (xk (i:=5) nd rfl rfl) wD)))))) B1.bl))⟩
  let B3:Bk Y ((nb (ne (ak qM) 0) 0).drop 1):=⟨_,(xf (xr (wO (qO (pv 0) T.Ae T.Hq Ht (hr.mono (by decide)) T.Hi .nil eX (xb (xc (pv 4) (xc (pv 6) xo rfl) rfl)))) (xy (LX (xu (xp rfl) (wT (pv 0) rfl) (pv 4) (λ_ _=>rfl)) (pv 6)))))⟩
  let B4:Bk Y (ne (ak qM) 0):=⟨_,(xf (xy (wG (qC (bw KW hr T.KL (xb (xc (pv 1) xo rfl)))) (xf (xr (we (pv 1) (wE (n:=3) rfl rfl (xj (xk (i:=2) nd rfl rfl) (xj (xk (i:=4) nd rfl rfl) (xj (xk (i:=6) nd rfl rfl) wD))))) B3.bl)) (xf (xy qN)))))⟩
  refine ⟨_,(xf (xr (wG (qC (bw J5 hr T.D9 (xb (xc (pv 1) xo rfl)))) B2.ps B4.ps) (xy (wO (qP zQ zU zV wN (wT (pv 0) rfl) (xb (xc (pv 1) xo rfl))))))),?_⟩;have line:=bD;refine (zr rfl ⟨p,gv,m,l,g,rfl,hd,λH1 s1=>(zr rfl (bH rfl ?_))⟩);have QN:=s1 _ _ hd;have k1:=k.same s1;refine (zr rfl (sI QN ?_));refine (zr rfl ⟨t.x,t.dx,zr rfl ⟨k1.at_.ins,rfl,zr rfl (zr rfl (zr rfl (Zr t m l g ah tr tm ps n0 ⟨rfl,k1,c,λH2 s2=>?_⟩)))⟩⟩);obtain ⟨m,l,M,L,h,rfl,rfl,hM,hL,hh,uF,hg,hb,ho,_⟩:=Qp k.lh c;have k2:=k1.same s2;refine (zr rfl ⟨t.x,t.dx,zr rfl ⟨k2.at_.ins,rfl,zr rfl (zr rfl (zr rfl (Sw t m l g M L ah tr tm ps n0 ⟨rfl,k2,hM,hL,hg,n2,λH3 kp3 k3=>?_⟩)))⟩⟩);have kp:=(Keeps.same (s1.trans s2)).trans kp3;have eT:∀ gv,t.nW (ps.map (·.2)) (V.ref p) (.pass gv (m:Int) (l:Int) g)={ t.lE gv m l g M L.2 with ds:=t.ds++[V.ref p] }:=λgv=>by
   unfold Tr.nW;dsimp only;rw [zf,zf,hM,hL]
  refine (zr rfl ⟨rfl,zr rfl ?_⟩);cases gv with
  | false=>
   refine aF rfl ?_;refine (zr rfl ⟨t.x,_,t.dx,dh rfl ⟨k3.at_.ins,T.Ae,T.dw,rfl,.inl ⟨rfl,_,aG.of k3.at_.Mu⟩,zr rfl ⟨t.lD,t.ds,zr rfl ⟨rfl,k3.at_.Mu,by have:=k.dn;omega,?_⟩⟩⟩⟩);refine q _ (kp.trans (Keeps.put (.inr (.inr (.inr (.inl rfl)))))) ?_;rw [eT];exact k3.Yj (by have:=k.dn;show t.ds.length < n0 + 1;omega)
  | true=>
   have pk:=M7 (m:=m) (M:=M) (L:=L.2) (o:=aN M g) (C:=a.Aa) (H:=H) (ah:=ah) (tr:=tr) (tm:=tm) (ps:=ps) (n0:=n0) hh;have lp:l < (t.bZ m l M L.2 (aN M g)).ls.length:=(zB.mp hL).1;obtain ⟨h',XM,ek,hd3⟩:=k3.UC lp;rw [pk.1] at XM;cases XM;have rS:dI ((t.bZ m l M L.2 (aN M g)).hs.map λh=>V.ref h.1) (l:Int)=some (V.ref h.1):=wB (by rw [zF,pk.1];rfl);refine bH rfl (zr rfl ⟨t.x,_,t.dx,dh rfl ⟨k3.at_.ins,T.Ae,T.bK,rfl,zr rfl (cu k3.at_.vE rS (zr rfl ⟨h.1,_,Sum.inl g,rfl,hd3,rfl,(by rw [fT,yn,pZ];split;rfl;exact vU hb),?_⟩))⟩⟩);rw [Qj];have k4:=k3.Xs pk.1 (kv:=dS (br h.2 (aN M g) M.t) g) (by have:=Np (br h.2 (aN M g) M.t) g;have:=pY h.2 (aN M g) M.t;have:=k.sh h (zC hh);omega);have kp4:Keeps t H (upd H3 h.1 (HO.dK (iJ (dS (br h.2 (aN M g) M.t) g)))):=kp.trans (Keeps.put (.inr (.inr (.inr (.inr (zO.mpr ⟨h,zC hh,rfl⟩))))));have Xc:bW a.Aa (upd H3 h.1 (HO.dK (iJ (dS (br h.2 (aN M g) M.t) g)))) ((t.bZ m l M L.2 (aN M g)).iw l (dS (br h.2 (aN M g) M.t) g)) ah tr tm ps (n0 + 1):=k4;generalize upd H3 h.1 (HO.dK (iJ (dS (br h.2 (aN M g) M.t) g)))=H4 at Xc kp4 ⊢;refine (zr rfl ⟨t.x,_,t.dx,dh rfl ⟨Xc.at_.ins,T.Ae,T.dw,rfl,.inl ⟨rfl,_,aG.of Xc.at_.Mu⟩,zr rfl ⟨t.lD,t.ds,zr rfl ⟨rfl,Xc.at_.Mu,by have:=k.dn;omega,?_⟩⟩⟩⟩);refine q _ (kp4.trans (Keeps.put (.inr (.inr (.inr (.inl rfl)))))) ?_;rw [eT];have eP:t.lE true m l g M L.2=(t.bZ m l M L.2 (aN M g)).iw l (dS (br h.2 (aN M g) M.t) g):=by
    unfold Tr.lE;rw [if_pos rfl,pk.2]
   rw [eP];exact Xc.Yj (by have:=k.dn;show t.ds.length < n0 + 1;omega)
theorem Jn:d9 T.Ed P w base 1 (LO):=by
 refine T.Ed.F.ok F6 (λvs H Q E h=>?_) (λbP A outer s H vs Q E hr h=>?_)
 ·obtain ⟨b,k,x,_,_,_,_,rfl,_⟩:=h;rfl
 ·have nd:=F6.nd;have hu:=hr.units;obtain ⟨b,k,x,ah,tr,tm,ps,rfl,hk,hb,hn,gd,q⟩:=h;refine cy ?_;intro Y
  let B0:Bk Y (nb (nb (ak qA) 2) 0):=⟨_,(xf (xy (wG (PW.pt (cY (fU (mj (xu (xp rfl) (pv 3) (pv 8) (λ_ _=>rfl)))) (cY (xx pV (xu (xp rfl) (pv 3) (pv 8) (λ_ _=>rfl)) (pv 6) (aE _)) (cR (fU (iT (xu (xp rfl) (pv 3) (pv 9) (λ_ _=>rfl)))))))) (xf (xy (we (pv 6) (j3 (pv 3) (pv 9) set_list)))) wA)))⟩
  let B1:Bk Y (nb (ak qA) 2):=⟨_,(xf (xy (wZ PassesOwn.never rfl (wX rfl (wM (xb (xc (wS (xb (xc (pv 4) (xc (pv 5) xo rfl) rfl))) (xc (wS (xb (xc (pv 5) (xc (pv 4) xo rfl) rfl))) xo rfl) rfl)))) (wE (n:=2) rfl rfl (xj (xk (i:=8) nd rfl rfl) (xj (xk (i:=9) nd rfl rfl) wD))) B0.ps)))⟩
  let B2:Bk Y ((ak qA).drop 2):=⟨_,(xf (xr (wZ PassesOwn.never rfl (gJ rfl (xu (wC rfl) (pv 0) xh (λ_ _=>rfl))) (wE (n:=4) rfl rfl (xj (xk (i:=4) nd rfl rfl) (xj (xk (i:=5) nd rfl rfl) (xj (xk (i:=6) nd rfl rfl) (xj (xk (i:=7) nd rfl rfl) wD))))) B1.ps) (xy (xv (pv 3)))))⟩
  refine ⟨_,(xf (xr (xt (i:=3) nd rfl rfl (xz Pb (wM (xb (xc fu xo rfl))) (xw (xq rfl) (by rfl) T.bL PySem.boot_len (xb (xc (xu (wC rfl) (pv 0) xh (λ_ _=>rfl)) xo rfl))))) (xr (we (pv 2) (j3 (pv 3) (pv 1) set_list)) B2.bl))),?_⟩;have line:=bD;refine ⟨by show 1<=sizeLine;omega,λl0 r6=>?_⟩;have QS:=hb.same (xi (o:=HO.lst [V.bV]) r6);refine (zr rfl (fF QS.book rfl ⟨tr,zr rfl ⟨.inr (bT.of QS.ah),l0,aJ rfl rfl ⟨xa,by omega,by rw [zA];omega,by rw [zA];show 1 * ah.length<=sizeLine;omega,λl hl=>?_⟩⟩⟩));have kR:=(xi (o:=HO.lst [V.bV]) r6).trans (xi (o:=HO.lst (List.replicate (((ah.map V.int).length:Int)).toNat [V.bV]).flatten) hl);have er:(List.replicate (((ah.map V.int).length:Int)).toNat [V.bV]).flatten=(rep ah.length (λ_=>none)).map oV:=by
   rw [zf,zA];unfold rep;rw [zg];generalize ah.length=n;induction n with
   | zero=>rfl
   | succ n ih=>rw [yD,yp,ih,List.range_succ_eq_map,zZ,zg];rfl
  have UY:H l=none:=(xi (o:=HO.lst [V.bV]) r6).free hl;refine (zr rfl (zr rfl (zr rfl ⟨l,_,_,k,rfl,rfl,xa,ia (by rw [er,zA,wz];exact hk),?_⟩)));have e1:((List.replicate (((ah.map V.int).length:Int)).toNat [V.bV]).flatten).set k (.int x)=(rep ah.length (av k x)).map oV:=by
   rw [er];show _=(rep ah.length (put (λ_=>none) k (some x))).map oV;rw [<-jc hk,yq];rfl
  rw [e1];have jJ:ay H (upd (upd (upd H l0 (HO.lst [V.bV])) l (HO.lst (List.replicate (((ah.map V.int).length:Int)).toNat [V.bV]).flatten)) l (HO.lst ((rep ah.length (av k x)).map oV))):=ay.put UY kR;have mw:=hb.same jJ;refine (zr rfl (fF mw.book rfl ⟨tm,rfl,⟨_,bT.of mw.meets⟩,?_⟩));refine (let W22:IV:=λi σ H4=>(∃ v4 v5 v6 v7 v8 v9,σ=[some (.ref b),some (.int k),some (.int x),some (.ref l),v4,v5,v6,v7,v8,v9])/\ay H H4/\H4 l=some (.lst ((rep ah.length (fwd ((ps.map (·.2)).take i) (av k x))).map oV));Su (K:=K) (a:=tm) (xs:=ps.map λa=>V.ref a.1) W22)
   ?_ (λi σ H4 _ h4=>bT.of ((hb.same h4.2.1).meets)) ?_ ?_
  ·exact ⟨⟨_,_,_,_,_,_,rfl⟩,jJ,xa⟩
  ·rintro i y σ H4 hy ⟨⟨v4,v5,v6,v7,v8,v9,rfl⟩,pM,h4⟩;obtain ⟨r,rZ,rfl⟩:=wQ hy;have hm:(ps.map (·.2))[i]?=some r.2:=by rw [zF,rZ];rfl
   have rm:=zC rZ;obtain ⟨a1,a2,a3,a4,a5,_⟩:=gd.at rm;have cD:=(hb.same pM).rows r rm;have z1:(r.2.lo.toNat:Int)=r.2.lo:=yt a1;have z2:(r.2.hi.toNat:Int)=r.2.hi:=yt (by omega);have gl:r.2.lo.toNat < ah.length:=by omega
   have ol:r.2.hi.toNat < ah.length:=by omega
   refine (sI cD ?_);refine (zr rfl (zr rfl ⟨by show 2<=sizeLine;omega,λt1 Nx=>(zr rfl (zr rfl ⟨by show 2<=sizeLine;omega,λt2 oQ=>⟨by show 2<=sizeLine;omega,λll Ny=>⟨ll,rfl,⟨_,aG.of xa⟩,?_⟩⟩⟩))⟩));have QI:=((xi (o:=HO.tup [.int r.2.lo,.int r.2.hi]) Nx).trans (xi (o:=HO.tup [.int r.2.hi,.int r.2.lo]) oQ)).trans (xi (o:=HO.lst [.ref t1,.ref t2]) Ny);have h5:=QI _ _ h4;have q1:=(xi (o:=HO.lst [.ref t1,.ref t2]) Ny) t1 _ ((xi (o:=HO.tup [.int r.2.hi,.int r.2.lo]) oQ) t1 _ (xa (H:=H4) (a:=t1) (o:=HO.tup [.int r.2.lo,.int r.2.hi])));have q2:=(xi (o:=HO.lst [.ref t1,.ref t2]) Ny) t2 _ (xa (a:=t2) (o:=HO.tup [.int r.2.hi,.int r.2.lo]));have Uq:ll≠l:=(xg ((xi (o:=HO.tup [.int r.2.hi,.int r.2.lo]) oQ) _ _ ((xi (o:=HO.tup [.int r.2.lo,.int r.2.hi]) Nx) _ _ h4)) Ny).symm;have n1l:t1≠l:=(xg h4 Nx).symm;have n2l:t2≠l:=(xg ((xi (o:=HO.tup [.int r.2.lo,.int r.2.hi]) Nx) _ _ h4) oQ).symm;refine dW (K:=K) (a:=ll) (xs:=[V.ref t1,V.ref t2]) (λj σ H6=>(∃ v8 v9,σ=[some (.ref b),some (.int k),some (.int x),some (.ref l),some (.int r.2.lo),some (.int r.2.hi),some (.int r.2.t),some (.int r.2.m),v8,v9])/\ay H H6 /\
     H6 l=some (.lst ((rep ah.length (((two r.2).take j).foldl aH (fwd ((ps.map (·.2)).take i) (av k x)))).map oV))/\H6 ll=some (.lst [.ref t1,.ref t2])/\H6 t1=some (.tup [.int r.2.lo,.int r.2.hi])/\H6 t2=some (.tup [.int r.2.hi,.int r.2.lo]))
    ⟨⟨_,_,rfl⟩,pM.trans QI,h5,xa,q1,q2⟩ (λj σ H6 _ h6=>aG.of h6.2.2.2.1) ?_ ?_
   ·rintro j y σ H6 hy ⟨⟨v8,v9,rfl⟩,rX,h6,Sl,QU,QT⟩;obtain rfl | rfl:j=0\/j=1:=by
     have:j < 2:=(zB.mp hy).1;omega
    ·cases hy;generalize ef:((two r.2).take 0).foldl aH (fwd ((ps.map (·.2)).take i) (av k x))=f at h6;have fo:((two r.2).take (0 + 1)).foldl aH (fwd ((ps.map (·.2)).take i) (av k x))=aH f ⟨r.2.lo.toNat,r.2.hi.toNat,r.2.t⟩:=by
      rw [wK (r:=⟨r.2.lo.toNat,r.2.hi.toNat,r.2.t⟩) rfl,ya,ef];rfl
     have hg:dI ((rep ah.length f).map oV) r.2.lo=some (oV (f r.2.lo.toNat)):=by rw [<-z1];exact wB (cK gl)
     have ho:dI ((rep ah.length f).map oV) r.2.hi=some (oV (f r.2.hi.toNat)):=by rw [<-z2];exact wB (cK ol)
     refine (uD QU ?_);have no:∀ (c:¬ (f r.2.hi.toNat=none/\below (f r.2.lo.toNat) r.2.t=true)),H6 l=some (.lst ((rep ah.length (((two r.2).take (0 + 1)).foldl aH (fwd ((ps.map (·.2)).take i) (av k x)))).map oV)):=λc=>by
      rw [fo];unfold aH;rw [if_neg c];exact h6
     refine (zr rfl (zr rfl (cu h6 hg (zr rfl ?_))));cases Sj:f r.2.lo.toNat with
     | none=>
      exact aF rfl (aF rfl ⟨⟨_,_,rfl⟩,rX,no (λz=>by rw [Sj] at z;cases z.2),Sl,QU,QT⟩)
     | some a=>
      rw [Sj] at hg;refine bH rfl (zr rfl (zr rfl (cu h6 hg (zr rfl (aJ rfl rfl (zr rfl (gg (λc=>?_) (λc=>?_))))))))
      ·refine (zr rfl (zr rfl (cu h6 ho (zr rfl (gg (λc2=>?_) (λc2=>?_))))))
       ·refine (zr rfl (zr rfl (zr rfl ⟨l,_,_,r.2.hi.toNat,rfl,rfl,h6,by rw [<-z2];exact ia (by rw [zA,wz];exact ol),⟨_,_,rfl⟩,ay.put UY rX,?_,by rw [xl Uq];exact Sl,by rw [xl n1l];exact QU,by rw [xl n2l];exact QT⟩)));rw [xa,fo];unfold aH;rw [if_pos ⟨iW.mp c2,aL.mpr ⟨a,Sj,c⟩⟩,<- jc ol,yq];rfl
       ·exact ⟨⟨_,_,rfl⟩,rX,no (λz=>c2 (iW.mpr z.1)),Sl,QU,QT⟩
      ·exact aF rfl ⟨⟨_,_,rfl⟩,rX,no (λz=>by obtain ⟨w1,w2,w3⟩:=aL.mp z.2;rw [Sj] at w2;cases w2;exact c w3),Sl,QU,QT⟩
    ·cases hy;generalize ef:((two r.2).take 1).foldl aH (fwd ((ps.map (·.2)).take i) (av k x))=f at h6;have fo:((two r.2).take (1 + 1)).foldl aH (fwd ((ps.map (·.2)).take i) (av k x))=aH f ⟨r.2.hi.toNat,r.2.lo.toNat,r.2.t⟩:=by
      rw [wK (r:=⟨r.2.hi.toNat,r.2.lo.toNat,r.2.t⟩) rfl,ya,ef];rfl
     have hg:dI ((rep ah.length f).map oV) r.2.hi=some (oV (f r.2.hi.toNat)):=by rw [<-z2];exact wB (cK ol)
     have ho:dI ((rep ah.length f).map oV) r.2.lo=some (oV (f r.2.lo.toNat)):=by rw [<-z1];exact wB (cK gl)
     refine (uD QT ?_);have no:∀ (c:¬ (f r.2.lo.toNat=none/\below (f r.2.hi.toNat) r.2.t=true)),H6 l=some (.lst ((rep ah.length (((two r.2).take (1 + 1)).foldl aH (fwd ((ps.map (·.2)).take i) (av k x)))).map oV)):=λc=>by
      rw [fo];unfold aH;rw [if_neg c];exact h6
     refine (zr rfl (zr rfl (cu h6 hg (zr rfl ?_))));cases Sj:f r.2.hi.toNat with
     | none=>
      exact aF rfl (aF rfl ⟨⟨_,_,rfl⟩,rX,no (λz=>by rw [Sj] at z;cases z.2),Sl,QU,QT⟩)
     | some a=>
      rw [Sj] at hg;refine bH rfl (zr rfl (zr rfl (cu h6 hg (zr rfl (aJ rfl rfl (zr rfl (gg (λc=>?_) (λc=>?_))))))))
      ·refine (zr rfl (zr rfl (cu h6 ho (zr rfl (gg (λc2=>?_) (λc2=>?_))))))
       ·refine (zr rfl (zr rfl (zr rfl ⟨l,_,_,r.2.lo.toNat,rfl,rfl,h6,by rw [<-z1];exact ia (by rw [zA,wz];exact gl),⟨_,_,rfl⟩,ay.put UY rX,?_,by rw [xl Uq];exact Sl,by rw [xl n1l];exact QU,by rw [xl n2l];exact QT⟩)));rw [xa,fo];unfold aH;rw [if_pos ⟨iW.mp c2,aL.mpr ⟨a,Sj,c⟩⟩,<- jc gl,yq];rfl
       ·exact ⟨⟨_,_,rfl⟩,rX,no (λz=>c2 (iW.mpr z.1)),Sl,QU,QT⟩
      ·exact aF rfl ⟨⟨_,_,rfl⟩,rX,no (λz=>by obtain ⟨w1,w2,w3⟩:=aL.mp z.2;rw [Sj] at w2;cases w2;exact c w3),Sl,QU,QT⟩
   ·rintro σ H6 ⟨⟨v8,v9,rfl⟩,rX,h6,Sl,QU,QT⟩;refine ⟨⟨_,_,_,_,_,_,rfl⟩,rX,?_⟩;rw [h6,wK hm];unfold fwd aB;rw [List.flatMap_append,ya];rfl
  ·rintro σ H4 ⟨⟨v4,v5,v6,v7,v8,v9,rfl⟩,pM,h4⟩;refine (zr rfl (q l _ UY pM ?_));have e:(ps.map λa=>V.ref a.1).length=(ps.map (·.2)).length:=by simp
   rw [e,yA] at h4;exact h4
theorem IG:d9 T.DD P w base 3 (uS):=by
 have Ab:=wd P w base T B;have GB:=HY P w base T B;refine T.DD.F.ok EW (λvs H Q E h=>?_) (λbP A outer s H vs Q E hr h=>?_)
 ·obtain ⟨_,_,_,_,_,rfl,_⟩:=h;rfl
 ·have nd:=EW.nd;have hu:=hr.units;obtain ⟨p,b,lt,n,f,rfl,pu,VH,hT,n12,⟨k0,x0,hk0,Xl⟩,f9,q⟩:=h;refine cy ?_;intro Y
  let B0:Bk Y ((nb (ak wW) 2).drop 2):=⟨_,(xf (xy (wO (qP zQ zU zV wN (pv 4) (xb (xc (wS (xb (xc (pv 6) (xc (xw (ir rfl) (by rfl) T.qj yY (xb (xc (xz iV xh xh) (xc (xz wJ (xu (xp rfl) (pv 2) (pv 6) (λ_ _=>rfl)) (pv 7)) xo rfl) rfl))) xo rfl) rfl))) xo rfl))))))⟩
  let B1:Bk Y ((nb (ak wW) 2).drop 1):=⟨_,(xf (xr (xt (i:=7) nd rfl rfl (xu (xp rfl) (wM (xb (xc xh (xc xh (xc (bw Ab hr T.Ac (xb (xc (pv 0) (xc xh xo rfl) rfl))) (xc (bw GB hr T.Eh (xb (xc (pv 0) xo rfl))) xo rfl) rfl) rfl) rfl))) (bw Ab hr T.Ac (xb (xc (pv 0) (xc xh xo rfl) rfl))) (λ_ _=>rfl))) B0.bl))⟩
  let B2:Bk Y (nb (ak wW) 2):=⟨_,(xf (xr (xt (i:=6) nd rfl rfl (qP zQ PySem.F.slot_list_pop PySem.F.type_list_pop Pu (pv 3) (xb (xc (bw Ab hr T.Ac (xb (xc (pv 0) (xc (xw (xq rfl) (by rfl) T.bL PySem.boot_len (xb (xc (pv 3) xo rfl))) xo rfl) rfl))) xo rfl)))) B1.bl))⟩
  let B3:Bk Y ((ak wW).drop 2):=⟨_,(xf (xr (wZ PassesOwn.never rfl (qJ rfl T.cz (xb (xc (xz wJ xh (bw Ab hr T.Ac (xb (xc (pv 0) (xc (xw (ir rfl) (by rfl) T.qj yY (xb (xc xh (xc (xw (xq rfl) (by rfl) T.bL PySem.boot_len (xb (xc (pv 3) xo rfl))) xo rfl) rfl))) xo rfl) rfl)))) xo rfl))) (xk (i:=5) nd rfl rfl) B2.ps) (xy (xv (pv 4)))))⟩
  refine ⟨_,(xf (xr (iS (ix:=3) nd rfl rfl (own:=["_law_walker"]) (caps:=[2]) rfl (show aI ["_law_walker"] [2] ["_law_purse_here", "_law_book_here", "_law_times_here", "_law_left", "_law_found", "_law_k", "_law_walker", "_law_more"] (aq wW) _ from L2.iz) (qJ rfl T.cz (xb (xc (xw (xq rfl) (by rfl) T.bL PySem.boot_len (xb (xc (pv 2) xo rfl))) xo rfl))) (λ_ _ _ _=>(xk (i:=0) (show List.Nodup (["_law_walker", "_law_times_here"]:List Str) from by decide +kernel) rfl rfl)) (λ_ _ _ _=>lZ (fU (mj (xu (xp rfl) (pv 1) (pv 0) (λ_ _=>rfl))))) (λ_ _ _ _=>(pv 0))) (xr (xt (i:=4) nd rfl rfl (wM wu)) B3.bl))),?_⟩;have line:=bD;have Sx:(2:Int) ^ 200 > 10000:=by decide
  have c9:LK 10 9:=⟨by decide,by decide,by decide⟩;have ten:(10:Int) ^ (9:Int).toNat=1000000000:=by decide
  refine (zr rfl ⟨lt,zr rfl ⟨.inl (aG.of hT),zr rfl ⟨by rw [zA];omega,by rw [zA,wz];omega,?_⟩⟩⟩);refine (let W23:IC:=λi τ acc H5=>∃ ks:List Nat,(∃ t0,τ=[t0,some (.ref lt)])/\acc=(ks.map λk:Nat=>V.int (k:Int))/\ks.length<=i/\(∀ x∈ks,x < n/\∃ y,f x=some y)/\(k0 < i->0 < ks.length)/\H5=H;fX (lo:=0) W23 ⟨[],⟨_,rfl⟩,rfl,zX _,(λ_ z=>nomatch z),(λz=>by omega),rfl⟩ (by rw [zA,wz];omega) ?_ ?_ ?_)
  ·rintro i τ acc H5 ⟨ks,_,rfl,e,_⟩;rw [zA];exact e
  ·rintro i τ acc H5 C hi ⟨ks,⟨t0,rfl⟩,rfl,li,kn,k1,rfl⟩ hC;rw [zA,wz] at hi;refine (zr rfl (zr rfl (cu hT (by rw [Int.zero_add];exact wB (cK hi)) ?_)));cases ei:f i with
   | none=>
    refine (zr rfl (aF rfl (hC _ _ _ ⟨ks,⟨_,rfl⟩,rfl,by omega,kn,λz=>?_,rfl⟩)));by_cases c:k0=i
    ·subst c;rw [Xl] at ei;cases ei
    ·exact k1 (by omega)
   | some y=>
    refine (zr rfl (bH rfl (zr rfl (hC _ _ _ ⟨ks++[i],⟨_,rfl⟩,by rw [Int.zero_add,zD];rfl,by rw [zL];exact Nat.add_le_add_right li 1,λx hx=>?_,λ_=>by rw [zL];exact Nat.succ_pos _,rfl⟩))));rcases zT.mp hx with h | h
    ·exact kn x h
    ·rw [zJ.mp h];exact ⟨hi,y,ei⟩
  rintro τ acc H5 ⟨R6,_,rfl,S0,kn0,k1,rfl⟩ ll Ny;rw [zA,wz] at S0 k1;have N1:=k1 hk0;refine ⟨zX _,λlf Mi=>?_⟩;have s1:=(xi (o:=HO.lst (R6.map λk:Nat=>V.int (k:Int))) Ny).trans (xi (o:=HO.lst []) Mi);have fl:H5 lf=none:=(xi Ny).free Mi;have Uq:ll≠p:=pu.ne Ny;have RW:lf≠p:=pu.ne fl;have nl2:lf≠ll:=λz=>by rw [z,xa] at Mi;cases Mi
  have h1:upd (upd H5 ll (HO.lst (R6.map λk:Nat=>V.int (k:Int)))) lf (HO.lst []) ll=some (.lst (R6.map λk:Nat=>V.int (k:Int))):=by rw [xl nl2.symm,xa]
  have h1f:upd (upd H5 ll (HO.lst (R6.map λk:Nat=>V.int (k:Int)))) lf (HO.lst []) lf=some (.lst []):=xa;have g1:Go p H5 (upd (upd H5 ll (HO.lst (R6.map λk:Nat=>V.int (k:Int)))) lf (HO.lst [])):=(Go.refl pu).same s1;have afQ:lt≠ll:=λz=>by rw [z,Ny] at hT;cases hT
  have afP:lt≠lf:=λz=>by rw [z,fl] at hT;cases hT
  generalize upd (upd H5 ll (HO.lst (R6.map λk:Nat=>V.int (k:Int)))) lf (HO.lst [])=H1 at *;refine (zr rfl (zr rfl ⟨ll,zr rfl ⟨.inl (aG.of h1),dh rfl ⟨p,zr rfl ⟨?_,?_,g1.2,λd H2 d0 d1 g2=>?_⟩⟩⟩⟩))
  ·rw [zA];split <;> omega
  ·rw [zA];split <;> omega
  rw [zA] at d1;obtain ⟨d,rfl⟩:=zd d0;have dn:d < R6.length/\d < 4:=by split at d1 <;> omega
  refine (aJ rfl rfl (zr rfl ⟨by omega,by omega,?_⟩));refine (let W24:IV:=λi σ H7=>∃ (ks:List Nat) (ws:List (Addr×Nat×Int)),(∃ v5 v6 v7,σ=[some (.ref p),some (.ref b),some (.ref lt),some (.ref ll),some (.ref lf),v5,v6,v7])/\Go p H5 H7/\H7 ll=some (.lst (ks.map λk:Nat=>V.int (k:Int)))/\ks.length + i=R6.length/\(∀ x∈ks,x < n/\∃ y,f x=some y)/\eO H7 lf n ws/\rV ws/\ws.length=i/\∀ x∈wq ws,bq (f x.1) x.2=true;cN (lo:=0) W24 ?_ ?_ ?_)
  ·exact ⟨R6,[],⟨_,_,_,rfl⟩,g1.trans g2,g2.1 _ _ Uq h1,rfl,kn0,⟨g2.1 _ _ RW h1f,λ_ z=>nomatch z⟩,(λ_ z=>nomatch z),rfl,λ_ z=>nomatch z⟩
  ·rintro i σ H7 hi ⟨ks,ws,⟨v5,v6,v7,rfl⟩,g7,h7,lk,kn,hw,lo,lw,up⟩;have lS:i < d + 1:=by omega
   have k0':0 < ks.length:=by omega
   refine (zr rfl ⟨.inl ⟨rfl,_,aG.of h7⟩,zr rfl (zr rfl ⟨ll,zr rfl ⟨.inl (aG.of h7),p,zr rfl ⟨by rw [zA];omega,by rw [zA];omega,g7.2,λe H8 e0 e1 g8=>?_⟩⟩⟩)⟩);rw [zA] at e1;obtain ⟨e,rfl⟩:=zd e0;have he:e < ks.length:=by omega
   have h8:=g8.1 _ _ Uq h7;have g58:=g7.trans g8;have hw8:=hw.X7 g7.2 RW g8;refine ⟨ll,_,(e:Int),e,V.int (ks[e]:Int),rfl,rfl,h8,by omega,by omega,(rE (ia (by rw [zA];exact he))).1,by simp [he],?_⟩;obtain ⟨wk,y,hy⟩:=kn _ (zh he);have g9:Go p H5 (upd H8 ll (HO.lst ((ks.map λk:Nat=>V.int (k:Int)).eraseIdx e))):=⟨λx u n' c=>by rw [xl (xg c Ny)];exact g58.1 x u n' c,by obtain ⟨x1,x2,x3,c⟩:=g58.2;exact ⟨x1,x2,x3,by rw [xl Uq.symm];exact c⟩⟩;have h9:upd H8 ll (HO.lst ((ks.map λk:Nat=>V.int (k:Int)).eraseIdx e)) ll=some (.lst ((ks.eraseIdx e).map λk:Nat=>V.int (k:Int))):=by rw [xa,List.eraseIdx_eq_take_drop_succ,List.eraseIdx_eq_take_drop_succ,zD,List.map_take,List.map_drop]
   have t9:=bM.set (o:=HO.lst ((ks.map λk:Nat=>V.int (k:Int)).eraseIdx e)) h8;have hw9:eO (upd H8 ll (HO.lst ((ks.map λk:Nat=>V.int (k:Int)).eraseIdx e))) lf n ws:=⟨by rw [xl nl2];exact hw8.1,λx hx=>⟨t9 _ _ (hw8.2 x hx).1,(hw8.2 x hx).2⟩⟩;generalize upd H8 ll (HO.lst ((ks.map λk:Nat=>V.int (k:Int)).eraseIdx e))=H9 at *;refine (zr rfl ⟨p,9,rfl,by decide,by decide,g9.2,λm1 HA a0 a1 gA=>(zr rfl ⟨p,rfl,gA.2,λm2 HB b0 b1 gB=>⟨by show 4<=sizeLine;omega,λlm hlm=>?_⟩⟩)⟩);have gB9:=gA.trans gB;have sC:=xi (o:=HO.lst [V.int 0,V.int 0,V.int m1,V.int m2]) hlm;have kC:upd HB lm (HO.lst [V.int 0,V.int 0,V.int m1,V.int m2]) lm=some (.lst [V.int 0,V.int 0,V.int m1,V.int m2]):=xa;have nlm:lm≠p:=gB.2.ne hlm;have gC9:=gB9.same sC;generalize upd HB lm (HO.lst [V.int 0,V.int 0,V.int m1,V.int m2])=HC at *;refine (zr rfl ⟨p,4,rfl,by decide,by decide,gC9.2,λm3 HD c0 c1 gD=>?_⟩);have gD9:=gC9.trans gD;obtain ⟨mo,hmo,mo0,mo9⟩:∃ mo:Int,dI [V.int 0,V.int 0,V.int m1,V.int m2] m3=some (V.int mo)/\0<=mo/\mo<=1000000000:=by
    have:m3=0\/m3=1\/m3=2\/m3=3:=by omega
    rcases this with h | h | h | h <;> rw [h]
    ·exact ⟨0,rfl,by decide,by decide⟩
    ·exact ⟨0,rfl,by decide,by decide⟩
    ·exact ⟨m1,rfl,by omega,by omega⟩
    ·exact ⟨m2,rfl,by omega,by omega⟩
   refine (cu (gD.1 _ _ nlm kC) hmo ?_);have Zc:=hw9.X7 g9.2 RW gD9;have hlD:=gD9.1 _ _ Uq h9;have g5D:=g9.trans gD9;have hTD:=g5D.1 _ _ VH hT;obtain ⟨y0,y9⟩:=f9 _ _ hy;refine (zr rfl ⟨.inl ⟨rfl,_,aG.of Zc.1⟩,zr rfl (aJ rfl rfl ⟨c9,zr rfl (zr rfl (cu hTD (wB (cK wk)) ?_))⟩)⟩);rw [hy];refine (zr rfl (aJ rfl rfl (dh rfl ⟨by show 2<=sizeLine;omega,λt ht=>?_⟩)));rw [ten];obtain ⟨z,ez,z0,z9,zy⟩:∃ z:Int,(if y + mo < 1000000000 then y + mo else 1000000000)=z/\0<=z/\z<=1000000000/\y<=z:=⟨_,rfl,by split <;> omega,by split <;> omega,by split <;> omega⟩;rw [ez];have MZ:=xi (o:=HO.tup [V.int (ks[e]:Int),V.int z]) ht;have XO:=MZ _ _ Zc.1;refine ⟨lf,_,_,rfl,rfl,XO,by rw [zA];omega,ks.eraseIdx e,ws++[(t,ks[e],z)],⟨_,_,_,rfl⟩,?_,?_,?_,λx hx=>kn x ((List.eraseIdx_sublist ks e).subset hx),⟨by rw [xa,zD];rfl,λx hx=>?_⟩,(λx hx=>by
    rcases zT.mp hx with h | h
    ·exact lo x h
    ·cases zJ.mp h;exact ⟨z0,z9⟩),by rw [zL,lw];rfl,λx hx=>?_⟩
   ·have se:=g5D.same MZ;exact ⟨λx u n' c=>by rw [xl (xg c fl)];exact se.1 x u n' c,by obtain ⟨x1,x2,x3,c⟩:=se.2;exact ⟨x1,x2,x3,by rw [xl RW.symm];exact c⟩⟩
   ·rw [xl nl2.symm];exact MZ _ _ hlD
   ·rw [List.length_eraseIdx_of_lt he];omega
   ·have tt:=bM.set (o:=HO.lst ((ws.map λx=>V.ref x.1)++[V.ref t])) XO;rcases zT.mp hx with h | h
    ·exact ⟨tt _ _ (MZ _ _ (Zc.2 x h).1),(Zc.2 x h).2⟩
    ·cases zJ.mp h;exact ⟨tt _ _ xa,wk⟩
   ·rw [Tg] at hx;rcases zT.mp hx with h | h
    ·exact up x h
    ·cases zJ.mp h;exact aA.mpr ⟨y,hy,zy⟩
  ·rintro σ H7 ⟨ks,ws,⟨v5,v6,v7,rfl⟩,g7,h7,lk,kn,hw,lo,lw,up⟩;exact (zr rfl (q lf ws H7 g7 fl RW hw lo (by omega) (by omega) up))
theorem Jo:d9 T.Ee P w base 1 (MQ):=by
 refine T.Ee.F.ok F7 (λvs H Q E h=>?_) (λbP A outer s H vs Q E hr h=>?_)
 ·obtain ⟨_,_,_,_,_,rfl,_⟩:=h;rfl
 ·have nd:=F7.nd;have hu:=hr.units;obtain ⟨b,ah,tr,tm,ps,rfl,hb,oO,p60,q⟩:=h;refine ⟨_,(xf (xy (xv (wS (xb (xc (cL (cT) (by rfl) T.iu yV (xb (xc (xz Pb (wM (xb (xc xh xo rfl))) (xw (xq rfl) (by rfl) T.bL PySem.boot_len (xb (xc (xu (wC rfl) (pv 0) xh (λ_ _=>rfl)) xo rfl)))) xo rfl))) (xc (cL (cT) (by rfl) T.iu yV (xb (xc (wy (own:=["_law_one", "_law_other", "_law_when", "_law_passed"]) (caps:=[]) rfl (show aI ["_law_one", "_law_other", "_law_when", "_law_passed"] [] ["_law_book_here"] (aq CB) _ from L2.iz) (gJ rfl (xu (wC rfl) (pv 0) xh (λ_ _=>rfl))) (λ_ _ _ _=>(wE (n:=4) rfl rfl (xj (xk (i:=0) (show List.Nodup (["_law_one", "_law_other", "_law_when", "_law_passed"]:List Str) from by decide +kernel) rfl rfl) (xj (xk (i:=1) (show List.Nodup (["_law_one", "_law_other", "_law_when", "_law_passed"]:List Str) from by decide +kernel) rfl rfl) (xj (xk (i:=2) (show List.Nodup (["_law_one", "_law_other", "_law_when", "_law_passed"]:List Str) from by decide +kernel) rfl rfl) (xj (xk (i:=3) (show List.Nodup (["_law_one", "_law_other", "_law_when", "_law_passed"]:List Str) from by decide +kernel) rfl rfl) wD)))))) (λ_ _ _ _=>qG) (λ_ _ _ _=>(wS (xb (xc (pv 0) (xc (pv 1) (xc (pv 2) (xc xh xo rfl) rfl) rfl) rfl))))) xo rfl))) xo rfl) rfl)))))),?_⟩;have line:=bD;refine ⟨by show 1<=sizeLine;omega,λl0 r6=>?_⟩;have s0:=xi (o:=HO.lst [V.int 99]) r6;have k0:upd H l0 (HO.lst [V.int 99]) l0=some (.lst [V.int 99]):=xa;generalize upd H l0 (HO.lst [V.int 99])=H0 at s0 k0 ⊢;have QS:=hb.same s0;refine (zr rfl (fF QS.book rfl ⟨tr,zr rfl ⟨.inr (bT.of QS.ah),l0,aJ rfl rfl ⟨k0,by omega,by rw [zA];omega,by rw [zA];show 1 * ah.length<=sizeLine;omega,λl hl=>?_⟩⟩⟩));rw [zA,zf,ve];have s1:=s0.trans (xi (o:=HO.lst ((List.replicate ah.length (99:Int)).map V.int)) hl);have k1:upd H0 l (HO.lst ((List.replicate ah.length (99:Int)).map V.int)) l=some (.lst ((List.replicate ah.length (99:Int)).map V.int)):=xa;generalize upd H0 l (HO.lst ((List.replicate ah.length (99:Int)).map V.int))=H1 at s1 k1 ⊢;refine ⟨l,zr rfl (.inl ⟨aG.of k1,λt1 Nx=>?_⟩)⟩;have s2:=s1.trans (xi (o:=HO.tup ((List.replicate ah.length (99:Int)).map V.int)) Nx);have k2:upd H1 t1 (HO.tup ((List.replicate ah.length (99:Int)).map V.int)) t1=some (.tup ((List.replicate ah.length (99:Int)).map V.int)):=xa;generalize upd H1 t1 (HO.tup ((List.replicate ah.length (99:Int)).map V.int))=H2 at s2 k2 ⊢;clear s0 k0 QS s1 k1;have mw:=hb.same s2;refine (zr rfl (fF mw.book rfl ⟨tm,rfl,⟨_,bT.of mw.meets⟩,?_⟩));refine (let W25:IC:=λi τ acc H5=>∃ jK:List (Addr×M4),(∃ t0 t1 t2 t3,τ=[t0,t1,t2,t3])/\acc=(jK.map λa=>V.ref a.1)/\jK.map (·.2)=((ps.map (·.2)).map bg).take i/\gc H5 jK/\ay H2 H5;jv (K:=K) (a:=tm) (xs:=ps.map λa=>V.ref a.1) W25 ⟨[],⟨_,_,_,_,rfl⟩,rfl,rfl,(λ_ z=>nomatch z),ay.refl _⟩ (by rw [zA];omega) ?_ ?_ ?_)
  ·rintro i τ acc H5 ⟨jK,_,rfl,e,_,s5⟩;have:=congrArg List.length e;rw [zA,z8] at this;exact ⟨by rw [zA];omega,bT.of (s5 _ _ mw.meets)⟩
  ·rintro i v τ acc H5 C hv ⟨jK,⟨t0,t1,t2,t3,rfl⟩,rfl,e,YV,s5⟩ hC;obtain ⟨x,hx,rfl⟩:=wQ hv;have cD:=(mw.same s5).rows x (zC hx);have hi:((ps.map (·.2)).map bg)[i]?=some (bg x.2):=by rw [zF,zF,hx];rfl
   refine (sI cD (zr rfl (zr rfl (zr rfl ⟨by show 4<=sizeLine;omega,λt ht=>hC _ _ _ ⟨jK++[(t,bg x.2)],⟨_,_,_,_,rfl⟩,by rw [zD];rfl,by rw [zD,e,wK hi];rfl,λa ha=>?_,s5.trans (xi ht)⟩⟩))));rcases zT.mp ha with h | h
   ·exact xi ht _ _ (YV a h)
   ·rw [zJ.mp h];exact xa
  rintro τ acc H5 ⟨jK,_,rfl,e,YV,s5⟩ ml hml;rw [zA,yL (by rw [zA,zA];exact zE _)] at e;have s6:=xi (o:=HO.lst (jK.map λa=>V.ref a.1)) hml;have k6:upd H5 ml (HO.lst (jK.map λa=>V.ref a.1)) ml=some (.lst (jK.map λa=>V.ref a.1)):=xa;have s26:=s5.trans s6;have rw6:gc (upd H5 ml (HO.lst (jK.map λa=>V.ref a.1))) jK:=λa ha=>s6 _ _ (YV a ha);generalize upd H5 ml (HO.lst (jK.map λa=>V.ref a.1))=H6 at s26 k6 rw6 ⊢;clear s6 s5 YV hml;refine ⟨ml,zr rfl (.inl ⟨aG.of k6,λt2 oQ=>?_⟩)⟩;have s7:=xi (o:=HO.tup (jK.map λa=>V.ref a.1)) oQ;have k7:upd H6 t2 (HO.tup (jK.map λa=>V.ref a.1)) t2=some (.tup (jK.map λa=>V.ref a.1)):=xa;have s27:=s26.trans s7;have rw7:gc (upd H6 t2 (HO.tup (jK.map λa=>V.ref a.1))) jK:=λa ha=>s7 _ _ (rw6 a ha);generalize upd H6 t2 (HO.tup (jK.map λa=>V.ref a.1))=H7 at s27 k7 rw7 ⊢;clear s7 s26 k6 rw6 oQ;refine ⟨by show 2<=sizeLine;omega,λbk hbk=>?_⟩;have s8:=xi (o:=HO.tup [V.ref t1,V.ref t2]) hbk;exact q bk t1 t2 jK _ ((s2.trans s27).trans s8) ⟨xa,s8 _ _ (s27 _ _ k2),s8 _ _ k7,λa ha=>s8 _ _ (rw7 a ha)⟩ e
theorem JR:d9 T.Dl P w base 6 (OI):=by
 have Il:=Hg P w base T B;have Jx:=IH P w base T B;have Kp:=JT P w base T B;have KY:=Kv P w base T B;have Ka:=Jo P w base T B;refine T.Dl.F.ok GQ (λvs H Q E h=>?_) (λbP A outer s H vs Q E hr h=>?_)
 ·obtain ⟨_,_,_,_,_,_,_,_,_,_,rfl,_⟩:=h;rfl
 ·have nd:=GQ.nd;have hu:=hr.units;obtain ⟨b,lt,tl,ah,tr,tm,ps,L,gv,Tl,rfl,hb,gd,oO,dU,htl,hg,t60,ok,l64,q⟩:=h;refine cy ?_;intro Y
  let B0:Bk Y ((ak wx).drop 3):=⟨_,(xf (xr (wG (xx (Pd hu) (O1 (pv 4) T.Ae T.Kl Kp (hr.mono (by decide)) T.Ki .nil eX) (pv 5) (aE _)) (xf (xy (xv fu))) wA) (xy (xv (qO (pv 4) T.Ae T.Ju Jx (hr.mono (by decide)) T.Js .nil eX (xb (xc xh xo rfl)))))))⟩
  let B1:Bk Y ((ak wx).drop 2):=⟨_,(xf (xr (wZ PassesOwn.never rfl (wX rfl (pv 5)) (xk (i:=6) nd rfl rfl) (xf (xy (wO (qO (pv 4) T.Ae T.KS KY (hr.mono (by decide)) T.KQ .nil eX (xb (xc (pv 6) xo rfl))))))) B0.bl))⟩
  let B2:Bk Y ((ak wx).drop 1):=⟨_,(xf (xr (iS (ix:=5) nd rfl rfl (own:=["_law_at", "_law_giver"]) (caps:=[2]) rfl (show aI ["_law_at", "_law_giver"] [2] ["_law_book_here", "_law_letter", "_law_word", "_law_tree", "_law_trip", "_law_deeds", "_law_deed"] (aq wx) _ from L2.iz) (wX rfl (pv 3)) (λ_ _ _ _=>(wE (n:=2) rfl rfl (xj (xk (i:=0) (show List.Nodup (["_law_at", "_law_giver", "_law_word"]:List Str) from by decide +kernel) rfl rfl) (xj (xk (i:=1) (show List.Nodup (["_law_at", "_law_giver", "_law_word"]:List Str) from by decide +kernel) rfl rfl) wD)))) (λ_ _ _ _=>qG) (λ_ _ _ _=>(wS (xb (xc (pv 2) (xc (pv 0) (xc xh (xc (pv 1) xo rfl) rfl) rfl) rfl))))) B1.bl))⟩
  refine ⟨_,(xf (xr (xt (i:=4) nd rfl rfl (RG T.Lu Il (hr.mono (by decide)) rfl T.Lo T.Ii .nil eX (xb (xc (bw Ka hr T.Ee (xb (xc (pv 0) xo rfl))) (xc (wM (xb (xc (pv 1) xo rfl))) xo rfl) rfl)))) B2.bl)),?_⟩;have line:=bD;refine (zr rfl (Yc b ah tr tm ps ⟨rfl,hb,oO,gd.len,λb' oN V6 jK H1 s1 lU QW=>?_⟩));refine (zr rfl ⟨by show 1<=sizeLine;omega,λl0 r6=>?_⟩);have s2:=s1.trans (xi (o:=HO.lst [V.ref lt]) r6);have k2:upd H1 l0 (HO.lst [V.ref lt]) l0=some (.lst [V.ref lt]):=xa;have mw:=lU.same (xi (o:=HO.lst [V.ref lt]) r6);generalize upd H1 l0 (HO.lst [V.ref lt])=H2 at s2 k2 mw ⊢;clear s1 lU r6;refine λx dx nx Y3 SX=>?_;have s3:ay H2 (upd (upd H2 dx (.own x)) x (.ins a.Aa dx [])):=OP nx Y3 SX;have gd':Good (List.replicate ah.length (99:Int)).length (jK.map (·.2)):=by rw [QW,yg];exact MH gd
  refine ⟨x,dx,b',l0,[(lt,L)],List.replicate ah.length 99,oN,V6,jK,rfl,xa,mw.same s3,gd',by rw [yg];exact oO,s3 _ _ k2,λl hl=>by rw [zJ.mp hl];exact s3 _ _ (s2 _ _ dU),by show 1<=41;decide,λt0 H3 b3 kt nt=>⟨rfl,?_⟩⟩;have s23:ay H2 H3:=bN.same nx (xi Y3) (bN.trans bN.set b3);have Ww:=s2.trans s23;have tv0:SE t0 L [((L.s:Int),L.a)] 0 0 []:=⟨by rw [nt.el];rfl,nt.eh,λk=>by rw [nt.en,zS,List.getElem?_replicate];split <;> exact ze 0,nt.er,nt.ed⟩;have fr0:∀ c,t0.own c->H c=none:=λc hc=>by
   rcases nt.fr c (.inl hc) with z | z
   ·rw [z];exact s2.free nx
   ·exact s2.free (s3.free z)
  obtain rfl:=nt.ex;clear b3 s3 k2 mw s23 s2;refine (zr rfl ⟨tl,rfl,⟨_,aG.of (Ww _ _ htl)⟩,?_⟩);refine (let W26:IC:=λi τ acc H5=>∃ qs:List (Addr×Nat×Nat),(∃ v0 v1,τ=[v0,v1,some (.str (sr gv))])/\acc=(qs.map λx=>V.ref x.1)/\qs.map (·.2)=(Tl.map (·.2)).take i/\(∀ x∈qs,H5 x.1=some (.tup (vQ gv x.2).vs)/\H3 x.1=none)/\ay H3 H5;qK (K:=K) (a:=tl) (xs:=Tl.map λx=>V.ref x.1) W26 ⟨[],⟨_,_,rfl⟩,rfl,rfl,(λ_ z=>nomatch z),ay.refl _⟩ (by rw [zA];omega) ?_ ?_ ?_)
  ·rintro i τ acc H5 ⟨qs,_,rfl,e,_,s5⟩;have:=congrArg List.length e;rw [zA,z8] at this;exact ⟨by rw [zA];omega,aG.of (s5 _ _ (Ww _ _ htl))⟩
  ·rintro i v τ acc H5 C hv ⟨qs,⟨v0,v1,rfl⟩,rfl,e,VM,s5⟩ hC;obtain ⟨u,hu,rfl⟩:=wQ hv;have cD:=s5 _ _ (Ww _ _ (hg u (zC hu)));have hi:(Tl.map (·.2))[i]?=some u.2:=by rw [zF,hu];rfl
   refine (uD cD (zr rfl (zr rfl (zr rfl ⟨by show 4<=sizeLine;omega,λtd htd=>hC _ _ _ ⟨qs++[(td,u.2)],⟨_,_,rfl⟩,by rw [zD];rfl,by rw [zD,e,wK hi];rfl,λz hz=>?_,s5.trans (xi htd)⟩⟩))));rcases zT.mp hz with h | h
   ·exact ⟨xi htd _ _ (VM z h).1,(VM z h).2⟩
   ·rw [zJ.mp h];exact ⟨xa,s5.free htd⟩
  rintro τ acc H5 ⟨qs,_,rfl,eq,VM,s5⟩ ld Zf;rw [zA,yL (by rw [zA];exact zE _)] at eq;have lq:qs.length=Tl.length:=by have:=congrArg List.length eq;rwa [zA,zA] at this
  have s6:=s5.trans (xi (o:=HO.lst (qs.map λx=>V.ref x.1)) Zf);have k6:upd H5 ld (HO.lst (qs.map λx=>V.ref x.1)) ld=some (.lst (qs.map λx=>V.ref x.1)):=xa;have q6:∀ x∈qs,upd H5 ld (HO.lst (qs.map λx=>V.ref x.1)) x.1=some (.tup (vQ gv x.2).vs):=λx hx=>xi Zf _ _ (VM x hx).1;have old:∀ c,H3 c=none->¬ t0.own c:=λc hc z=>by obtain ⟨o,ho,_⟩:=kt.there (.inl z);rw [hc] at ho;cases ho
  have nld:=old ld (s5.free Zf);have nqs:∀ x∈qs,¬ t0.own x.1:=λx hx=>old _ (VM x hx).2;generalize upd H5 ld (HO.lst (qs.map λx=>V.ref x.1))=H6 at s6 k6 q6 ⊢;clear Zf s5 VM;have kt6:=kt.same s6;have sH6:=Ww.trans s6;clear kt old s6 Ww;refine (zr rfl ⟨ld,rfl,⟨_,aG.of k6⟩,?_⟩);refine (let W27:IV:=λi σ H7=>∃ t r,(∃ v6,σ=[some (.ref b),some (.ref lt),some (.str (sr gv)),some (.ref tl),some (.ref t.x),some (.ref ld),v6])/\bW a.Aa H7 t (List.replicate ah.length 99) oN V6 jK (1 + i)/\SE t L (fL (ps.map (·.2)) gv [((L.s:Int),L.a)] ((Tl.map (·.2)).take i)) r i ((qs.take i).map λx=>V.ref x.1)/\LH (ps.map (·.2)) gv r (fL (ps.map (·.2)) gv [((L.s:Int),L.a)] ((Tl.map (·.2)).take i)) ((Tl.map (·.2)).drop i)/\oH t0 t/\Keeps t0 H6 H7;dW (K:=K) (a:=ld) (xs:=qs.map λx=>V.ref x.1) W27 ⟨t0,0,⟨_,rfl⟩,kt6,tv0,ok,⟨rfl,rfl,rfl,rfl,rfl,rfl,rfl,rfl,rfl⟩,λ_ _ _ e=>e⟩ ?_ ?_ ?_)
  ·rintro i σ H7 _ ⟨t,r,_,_,_,_,_,kp⟩;exact aG.of (kp _ _ nld k6)
  ·rintro i v σ H7 hv ⟨t,r,⟨v6,rfl⟩,k7,tv,ok7,ad,kp⟩;obtain ⟨u,hu,rfl⟩:=wQ hv;have hi:(Tl.map (·.2))[i]?=some u.2:=by rw [<-eq,zF,hu];rfl
   have i60:i < qs.length:=(zB.mp hu).1;rw [NL hi] at ok7;obtain ⟨ua,m,g⟩:=u;cases ok7 with
   | cons hr hM hgg hbb no hn=>
    obtain ⟨c8,tv'⟩:=TM (y:=.ref ua) (W:=ah.length) tv (by omega) hr hM hgg hbb no (λM hM=>by have:=gd.each M hM;omega);have dk:=kp _ _ (nqs _ (zC hu)) (q6 _ (zC hu));refine (zr rfl ⟨t.x,t.dx,zr rfl ⟨k7.at_.ins,rfl,zr rfl ⟨t,ua,gv,(m:Int),0,(g:Int),_,oN,V6,jK,1 + i,rfl,k7,by omega,dk,(by rw [QW];exact c8),λH8 kp8 k8=>?_⟩⟩⟩);rw [QW] at k8;have Q3:=Qk t ((ps.map (·.2)).map bg) (.ref ua) (vQ gv (m,g));refine ⟨_,m,⟨_,by rw [<-Q3.x];rfl⟩,k8,by rw [sW hi,wK hu,zD];exact tv',by rw [sW hi];exact hn,?_,λc w nc e=>kp8 c w (λz=>nc ((ad.own c).mp z)) (kp c w nc e)⟩;exact ⟨Q3.x.trans ad.x,Q3.b.trans ad.b,Q3.lL.trans ad.lL,Q3.lH.trans ad.lH,Q3.lA.trans ad.lA,Q3.lP.trans ad.lP,Q3.lD.trans ad.lD,Q3.ls.trans ad.ls,Q3.hs.trans ad.hs⟩
  rintro σ H7 ⟨t,r,⟨v6,rfl⟩,k7,tv,_,ad,kp⟩;rw [zA,yL (by rw [zA];omega),yL (zE _)] at tv;have sH7:ay H H7:=λc u e=>kp c u (λz=>by rw [fr0 c z] at e;cases e) (sH6 c u e);have kd:=kp _ _ nld k6;obtain ⟨ha,Vi⟩:=qX tv.hs;refine (zr rfl ⟨t.x,t.dx,zr rfl ⟨k7.at_.ins,rfl,t.x,t.b,t.dx,t.lL,t.lH,t.lA,t.lP,t.lD,t.ls,t.hs,t.os,t.ns,t.r,t.ds,rfl,k7.at_,λl1 vG=>?_⟩⟩);rw [tv.ds];have s8:=xi (o:=HO.lst (qs.map λx=>V.ref x.1)) vG;have k8:upd H7 l1 (HO.lst (qs.map λx=>V.ref x.1)) l1=some (.lst (qs.map λx=>V.ref x.1)):=xa;generalize upd H7 l1 (HO.lst (qs.map λx=>V.ref x.1))=H8 at s8 k8 ⊢;have kt8:=k7.same s8;refine (zr rfl ⟨0,l1,ld,_,_,λ_=>true,true,by decide,rfl,rfl,.inl ⟨aG.of k8,aG.of (s8 _ _ kd)⟩,by simp,λi x y hx hy=>?_,zr rfl (aF rfl ?_)⟩)
  ·rw [hx] at hy;cases hy;obtain ⟨z,_,rfl⟩:=wQ hx;exact .inl ⟨rfl,⟨_,rfl⟩,rfl⟩
  have sH8:=sH7.trans s8;exact (zr rfl ⟨t.x,t.dx,zr rfl ⟨kt8.at_.ins,rfl,t.x,t.b,t.dx,t.lL,t.lH,t.lA,t.lP,t.lD,t.ls,t.hs,t.os,t.ns,t.r,t.ds,0,(ha,_),rfl,kt8.at_,by rw [Vi];rfl,l64,λl2 q2 H9 s9 f2 _ kk2 Y8 pm2 _=>q l2 q2 H9 (sH8.trans s9) (sH8.free f2) kk2 Y8 pm2⟩⟩)
theorem FP:d9 T.Bj P w base 1 (MP):=by
 refine T.Bj.F.ok Ct (λvs H Q E h=>?_) (λbP A outer s H vs Q E hr h=>?_)
 ·obtain ⟨_,_,_,_,rfl,_⟩:=h;rfl
 ·have nd:=Ct.nd;have hu:=hr.units;obtain ⟨l1,l2,ns,as,rfl,k1,k2,el,n1,af7,z0,st,q⟩:=h;refine cy ?_;intro Y
  let B0:Bk Y (nb (ak wY) 1):=⟨_,(xf (xy (wG (fm (OV ji ji (xu (xp rfl) (pv 0) (xz cZ (pv 2) xh) (λ_ _=>rfl)) (xu (xp rfl) (pv 0) (pv 2) (λ_ _=>rfl)) (xz wJ (xu (xp rfl) (pv 0) (xz cZ (pv 2) xh) (λ_ _=>rfl)) (xu (xp rfl) (pv 1) (pv 2) (λ_ _=>rfl))))) (xf (xy (xv iE))) wA)))⟩
  let B1:Bk Y ((ak wY).drop 1):=⟨_,(xf (xr (wZ PassesOwn.never rfl (jZ rfl T.cz (xb (xc xh (xc (xw (xq rfl) (by rfl) T.bL PySem.boot_len (xb (xc (pv 0) xo rfl))) xo rfl) rfl))) (xk (i:=2) nd rfl rfl) B0.ps) (xy (xv iE))))⟩
  refine ⟨_,(xf (xr (wG (xx tD (xu (xp rfl) (pv 0) xh (λ_ _=>rfl)) (xu (xp rfl) (pv 1) xh (λ_ _=>rfl)) (aE _)) (xf (xy (xv iE))) wA) B1.bl)),?_⟩;have line:=bD;have g1:∀ {k:Nat}{i:Int},i=(k:Int)->k < ns.length->dI (ns.map V.int) i=some (.int (ns.getD k 0)):=λe h=>by rw [e];exact fH h
  have g2:∀ {k:Nat}{i:Int},i=(k:Int)->k < ns.length->dI (as.map V.int) i=some (.int (as.getD k 0)):=λe h=>by rw [e];exact fH (by omega)
  refine (zr rfl (cu k1 (g1 (k:=0) rfl (by omega)) (zr rfl (cu k2 (g2 (k:=0) rfl (by omega)) ⟨rfl,zr rfl (aF (by rw [z0];simp) ?_)⟩))));refine (zr rfl ⟨l1,zr rfl ⟨.inl (aG.of k1),dh rfl ⟨⟨by decide,by decide,by rw [zA];omega,by rw [zA];omega⟩,?_⟩⟩⟩);refine (let W28:IV:=λi σ H5=>(∃ v2,σ=[some (.ref l1),some (.ref l2),v2])/\H5=H;cN (lo:=1) W28 ⟨⟨_,rfl⟩,rfl⟩ ?_ ?_)
  ·rintro i σ H5 hi ⟨⟨v2,rfl⟩,rfl⟩;rw [zA] at hi;obtain ⟨s1,s2⟩:=st i (by omega);refine (zr rfl (zr rfl (aJ rfl rfl (cu k1 (g1 (k:=i) (by omega) (by omega)) (zr rfl (zr rfl (cu k1 (g1 (k:=i + 1) (by omega) (by omega)) (aJ rfl rfl (zr rfl (bH (decide_eq_true s1) ?_))))))))));refine (zr rfl (zr rfl (aJ rfl rfl (cu k1 (g1 (k:=i) (by omega) (by omega)) (zr rfl (zr rfl (cu k2 (g2 (k:=i + 1) (by omega) (by omega)) (aJ rfl rfl (aJ rfl rfl (zr rfl (aF (by rw [decide_eq_true s2];rfl) ⟨⟨_,rfl⟩,rfl⟩)))))))))))
  ·rintro σ H5 ⟨⟨v2,rfl⟩,rfl⟩;exact q
theorem Jq:d9 T.Eg P w base 7 (MR a.tP cM):=by
 have K5:=KM P w base T B;have K7:=KO P w base T B;have Id:=JR P w base T B;have GA:=FP P w base T B;refine T.Eg.F.ok F9 (λvs H Q E h=>?_) (λbP A outer s H vs Q E hr h=>?_)
 ·obtain ⟨_,_,_,_,_,_,_,_,_,rfl,_⟩:=h;rfl
 ·have nd:=F9.nd;have hu:=hr.units;obtain ⟨b,k,a0,lw,ah,tr,tm,ps,ws,rfl,cw,r8,p24,sv,q⟩:=h;refine cy ?_;intro Y
  let B0:Bk Y ((nb (nb (ak wH) 2) 7).drop 1):=⟨_,(xf (xy (wG (PW.pt (pQ (fU (iT (pv 14))) (jY (xx (Pd hu) (wy (own:=["_law_holder", "_law_time_here"]) (caps:=[]) rfl (show aI ["_law_holder", "_law_time_here"] [] ["_law_book_here", "_law_sender", "_law_since", "_law_wishes", "_law_alone", "_law_numbers", "_law_many", "_law_word", "_law_tree", "_law_prices", "_law_letter", "_law_having", "_law_walker", "_law_last", "_law_given"] (aq wH) _ from L2.iz) (wX rfl (pv 14)) (λ_ _ _ _=>(wE (n:=2) rfl rfl (xj (xk (i:=0) (show List.Nodup (["_law_holder", "_law_time_here"]:List Str) from by decide +kernel) rfl rfl) (xj (xk (i:=1) (show List.Nodup (["_law_holder", "_law_time_here"]:List Str) from by decide +kernel) rfl rfl) wD)))) (λ_ _ _ _=>qG) (λ_ _ _ _=>(pv 0))) (wM (xb (xc (xu (wC rfl) (xu (xp rfl) (pv 3) xh (λ_ _=>rfl)) xh (λ_ _=>rfl)) xo rfl))) (aE _))))) (xf (xy (xv iE))) wA)))⟩
  let B1:Bk Y ((nb (ak wH) 2).drop 7):=⟨_,(xf (xy (wG (xx qB (pv 6) xh (aE _)) (xf (xr (xt (i:=14) nd rfl rfl (bw Id hr T.Dl (xb (xc (pv 0) (xc (pv 10) (xc gM (xc (pv 8) xo rfl) rfl) rfl) rfl)))) B0.bl)) wA)))⟩
  let B2:Bk Y (nb (nb (ak wH) 2) 6):=⟨_,(xf (xy (wG (xx (Uk hu) (wy (own:=["_law_holder", "_law_time_here"]) (caps:=[12,13]) rfl (show aI ["_law_holder", "_law_time_here"] [12,13] ["_law_book_here", "_law_sender", "_law_since", "_law_wishes", "_law_alone", "_law_numbers", "_law_many", "_law_word", "_law_tree", "_law_prices", "_law_letter", "_law_having", "_law_walker", "_law_last", "_law_given"] (aq wH) _ from L2.iz) (wX rfl (pv 11)) (λ_ _ _ _=>(wE (n:=2) rfl rfl (xj (xk (i:=0) (show List.Nodup (["_law_holder", "_law_time_here", "_law_walker", "_law_last"]:List Str) from by decide +kernel) rfl rfl) (xj (xk (i:=1) (show List.Nodup (["_law_holder", "_law_time_here", "_law_walker", "_law_last"]:List Str) from by decide +kernel) rfl rfl) wD)))) (λ_ _ _ _=>lZ (PW.pt (cY (xx qB (pv 0) (pv 2) (aE _)) (cR (xx ji (pv 1) (pv 3) (aE _)))))) (λ_ _ _ _=>(pv 1))) (wM wu) (aE _)) (xf (xy (xv iE))) wA)))⟩
  let B3:Bk Y ((nb (ak wH) 2).drop 6):=⟨_,(xf (xr (wZ PassesOwn.never rfl (wX rfl (gO (mT rfl) (pv 3) l5 (fV (pv 6)))) (wE (n:=2) rfl rfl (xj (xk (i:=12) nd rfl rfl) (xj (xk (i:=13) nd rfl rfl) wD))) B2.ps) B1.bl))⟩
  let B4:Bk Y ((nb (ak wH) 2).drop 5):=⟨_,(xf (xr (wG (PW.pt (pQ (fU (iT (pv 11))) (jY (xx tD (xw (xq rfl) (by rfl) T.bL PySem.boot_len (xb (xc (pv 11) xo rfl))) (xz wJ (xw (xq rfl) (by rfl) T.bL PySem.boot_len (xb (xc (pv 8) xo rfl))) xh) (aE _))))) (xf (xy (xv iE))) wA) B3.bl))⟩
  let B5:Bk Y ((nb (ak wH) 2).drop 3):=⟨_,(xf (xr (xt (i:=10) nd rfl rfl (wS (xb (xc (pv 1) (xc (pv 2) (xc (xu (wC rfl) (xu (xp rfl) (pv 3) xh (λ_ _=>rfl)) xh (λ_ _=>rfl)) (xc (xu (wC rfl) (xu (xp rfl) (pv 3) xh (λ_ _=>rfl)) xh (λ_ _=>rfl)) xo rfl) rfl) rfl) rfl)))) (xr (xt (i:=11) nd rfl rfl (bw Id hr T.Dl (xb (xc (pv 0) (xc (pv 10) (xc gM (xc (pv 8) xo rfl) rfl) rfl) rfl)))) B4.bl)))⟩
  let B6:Bk Y ((nb (ak wH) 2).drop 2):=⟨_,(xf (xr (wO (qP zQ zU zV wN (pv 5) (xb (xc (xw (xq rfl) (by rfl) T.bL PySem.boot_len (xb (xc (pv 8) xo rfl))) xo rfl)))) B5.bl))⟩
  let B7:Bk Y (nb (ak wH) 2):=⟨_,(xf (xr (we (bw K5 hr T.IA (xb (xc (pv 0) (xc (pv 1) (xc (pv 2) (xc (gO (mT rfl) (pv 3) l5 (fV (pv 6))) xo rfl) rfl) rfl) rfl))) (wE (n:=3) rfl rfl (xj (xk (i:=7) nd rfl rfl) (xj (xk (i:=8) nd rfl rfl) (xj (xk (i:=9) nd rfl rfl) wD))))) (xr (wG (xx tD (pv 7) gM (aE _)) (xf (xy (xv iE))) wA) B6.bl)))⟩
  let B8:Bk Y ((ak wH).drop 2):=⟨_,(xf (xr (wZ PassesOwn.never rfl (jZ rfl T.cz (xb (xc xh (xc (xz wJ (xw (xq rfl) (by rfl) T.bL PySem.boot_len (xb (xc (pv 3) xo rfl))) xh) xo rfl) rfl))) (xk (i:=6) nd rfl rfl) B7.ps) (xy (xv (bw GA hr T.Bj (xb (xc (pv 5) (xc (pv 4) xo rfl) rfl)))))))⟩
  refine ⟨_,(xf (xr (iS (ix:=4) nd rfl rfl (own:=["_law_walker", "_law_last"]) (caps:=[0,1,2]) rfl (show aI ["_law_walker", "_law_last"] [0,1,2] ["_law_book_here", "_law_sender", "_law_since", "_law_wishes", "_law_alone", "_law_numbers", "_law_many", "_law_word", "_law_tree", "_law_prices", "_law_letter", "_law_having", "_law_walker", "_law_last", "_law_given"] (aq wH) _ from L2.iz) (wX rfl (pv 3)) (λ_ _ _ _=>(wE (n:=2) rfl rfl (xj (xk (i:=0) (show List.Nodup (["_law_walker", "_law_last", "_law_book_here", "_law_sender", "_law_since"]:List Str) from by decide +kernel) rfl rfl) (xj (xk (i:=1) (show List.Nodup (["_law_walker", "_law_last", "_law_book_here", "_law_sender", "_law_since"]:List Str) from by decide +kernel) rfl rfl) wD)))) (λ_ _ _ _=>qG) (λ_ _ _ _=>(xw (xq rfl) (by rfl) T.bL PySem.boot_len (xb (xc (bw K7 hr T.ID (xb (xc (pv 2) (xc (wS (xb (xc (pv 3) (xc (pv 4) (xc (pv 0) (xc (pv 1) xo rfl) rfl) rfl) rfl))) xo rfl) rfl))) xo rfl))))) (xr (xt (i:=5) nd rfl rfl (wM wu)) B8.bl))),?_⟩;have line:=bD;have gd:=cw.gd;have hin:=Sn gd;have w4:=cw.w4;have w1:=cw.w1;have oO:=cw.oO;have eW:(wq ws).length=ws.length:=zA _;refine (zr rfl ⟨lw,rfl,⟨_,aG.of cw.wa.1⟩,?_⟩);refine (let W29:IC:=λi τ acc H5=>∃ as:List Int,(∃ t0 t1,τ=[t0,t1,some (.ref b),some (.int (k:Int)),some (.int a0)])/\acc=as.map V.int/\jI (ps.map (·.2)) k a0 (wq ws) i as/\ay H H5;qK (K:=K) (a:=lw) (xs:=ws.map λa=>V.ref a.1) W29 ⟨[],⟨_,_,rfl⟩,rfl,⟨rfl,λ_ _ z=>by omega⟩,ay.refl _⟩ (by rw [zA];omega) ?_ ?_ ?_)
  ·rintro i τ acc H5 ⟨as,_,rfl,al,s5⟩;exact ⟨by rw [zA,al.len];exact zE _,aG.of (s5 _ _ cw.wa.1)⟩
  ·rintro i v τ acc H5 C hv ⟨as,⟨t0,t1,rfl⟩,rfl,al,s5⟩ hC;obtain ⟨x,hx,rfl⟩:=wQ hv;have mx:=zC hx;have cw5:=cw.same s5;obtain ⟨kx,lx⟩:=cw5.wa.2 x mx;obtain ⟨z0,z9⟩:=cw.lo x mx;have hq:(wq ws)[i]?=some x.2:=by rw [zF,hx];rfl
   refine (uD kx ?_);refine (zr rfl (zr rfl (zr rfl (zr rfl (zr rfl ⟨by show 4<=sizeLine;omega,λlt dU=>?_⟩)))));have s6:=xi (o:=HO.tup [V.int (k:Int),V.int a0,V.int (x.2.1:Int),V.int x.2.2]) dU;have k6:upd H5 lt (HO.tup [V.int (k:Int),V.int a0,V.int (x.2.1:Int),V.int x.2.2]) lt=some (.tup [V.int (k:Int),V.int a0,V.int (x.2.1:Int),V.int x.2.2]):=xa;generalize upd H5 lt (HO.tup [V.int (k:Int),V.int a0,V.int (x.2.1:Int),V.int x.2.2])=H6 at s6 k6 ⊢;refine (NI b lt k x.2.1 a0 x.2.2 ah tr tm ps ⟨rfl,(cw5.same s6).bk,by omega,gd,⟨k6,cw.hk,lx,cw.a0,cw.a9,z0,z9⟩,λno=>?_,λm lr cs e H7 ls _ s7 kr lc le wk=>?_⟩)
   ·exact absurd (NU gd (aK.mp sv x.2 (zC hq))) (vY gd no)
   ·exact ⟨lr,zr rfl ⟨.inl (aG.of kr),hC _ _ _ ⟨as++[(m:Int)],⟨_,_,rfl⟩,by rw [zD,zA,lc];rfl,al.add hq (WK gd ls wk le lc),(s5.trans s6).trans s7⟩⟩⟩
  rintro τ acc H5 ⟨as,_,rfl,al,s5⟩ la Nz;rw [zA] at al;refine ⟨zX _,λln S5=>?_⟩;have fla:=s5.free Nz;have s6:=s5.trans (xi (o:=HO.lst (as.map V.int)) Nz);have fln:=s6.free S5;have nal:la≠ln:=λz=>by rw [<-z,xa] at S5;cases S5
  have s7:=s6.trans (xi (o:=HO.lst []) S5);have ka:upd (upd H5 la (HO.lst (as.map V.int))) ln (HO.lst []) la=some (.lst (as.map V.int)):=by rw [xl nal,xa]
  have kn:upd (upd H5 la (HO.lst (as.map V.int))) ln (HO.lst []) ln=some (.lst (([]:List Int).map V.int)):=xa;generalize upd (upd H5 la (HO.lst (as.map V.int))) ln (HO.lst [])=H7 at s7 ka kn ⊢;clear s5 s6 Nz S5;obtain ⟨x0,Xl⟩:∃ x0,ws[0]?=some x0:=⟨_,zG (by omega)⟩;have mx0:=zC Xl;refine (zr rfl ⟨lw,zr rfl ⟨.inl (aG.of (s7 _ _ cw.wa.1)),aJ rfl rfl (dh rfl ⟨⟨by decide,by decide,by rw [zA];omega,by rw [zA];omega⟩,?_⟩)⟩⟩);refine (let W30:IV:=λi σ H8=>∃ ns:List Int,(∃ v6 v7 v8 v9 v10 v11 QH QG YK,σ=[some (.ref b),some (.int (k:Int)),some (.int a0),some (.ref lw),some (.ref la),some (.ref ln),v6,v7,v8,v9,v10,v11,QH,QG,YK])/\oK (ps.map (·.2)) k a0 (wq ws) i ns/\H8 ln=some (.lst (ns.map V.int))/\H8 la=some (.lst (as.map V.int))/\bN a.tP H H8/\rW a.tP cM H8 b ah tr tm ps k a0 lw ws;cN (lo:=1) W30 ⟨[],⟨_,_,_,_,_,_,_,_,_,rfl⟩,⟨rfl,λ_ z=>by omega⟩,kn,ka,ay.uw s7,cw.same s7⟩ ?_ ?_)
  ·rintro i σ H8 hi ⟨ns,⟨v6,v7,v8,v9,v10,v11,QH,QG,YK,rfl⟩,nu,Y9,Za,b8,Yk⟩;rw [zA] at hi;have i4:i < ws.length:=by omega
   have ei:(1:Int) + (i:Int)=((i + 1:Nat):Int):=by omega
   rw [ei];refine (zr rfl (zr rfl (zr rfl (zr rfl (zr rfl (zr rfl ⟨lw,zr rfl ⟨aG.of Yk.wa.1,λl1 vG=>?_⟩⟩))))));rw [um,<- List.map_take];have s9:=xi (o:=HO.lst ((ws.take (i + 1)).map λa=>V.ref a.1)) vG;have k9:upd H8 l1 (HO.lst ((ws.take (i + 1)).map λa=>V.ref a.1)) l1=some (.lst ((ws.take (i + 1)).map λa=>V.ref a.1)):=xa;generalize upd H8 l1 (HO.lst ((ws.take (i + 1)).map λa=>V.ref a.1))=H9 at s9 k9 ⊢;have Vm:=Yk.same s9;have kn9:=s9 _ _ Y9;have ka9:=s9 _ _ Za;have b9:=b8.jW s9;have wt9:eO H9 l1 ah.length (ws.take (i + 1)):=Vm.wa.Wk (λx hx=>List.mem_of_mem_take hx) k9;have lt1:(ws.take (i + 1)).length=i + 1:=by rw [z8];omega
   have et:wq (ws.take (i + 1))=(wq ws).take (i + 1):=List.map_take;have svt:aD (fwd (ps.map (·.2)) (av k a0)) (wq (ws.take (i + 1))):=by rw [et];exact mU sv _
   refine (Zr b k a0 l1 ah tr tm ps (ws.take (i + 1)) ⟨rfl,⟨Vm.bk,gd,cw.r1,cw.oO,wt9,by omega⟩,r8,p24,by omega,cw.hk,cw.a0,cw.a9,(λx hx=>cw.lo x (List.mem_of_mem_take hx)),Vm.mt,λt HA bA mtA told=>?_⟩);have VU:=Vm.but bA mtA;have Xa:=cX Vm.mt bA kn9;have kaA:=cX Vm.mt bA ka9;have bA0:=b9.trans bA;clear s9 k9 ka9 b9 Yk Y9 Za b8;rcases told with ⟨j,l2,kt,nv,_⟩ | ⟨lt,lp,Tl,h,P,kt,sv2,tt,pr,dp,len,⟨N6,_⟩,_⟩
   ·exact absurd svt (Nd nv)
   obtain ⟨mm,mn,tu⟩:=Tu gd cw.hk wt9.bound dp sv2 tt.tr tt.sv (by rw [zA,len,zA]);have tl:=tu.len;rw [zA,zA] at tl;rw [zA] at mm;refine (un3 kt ?_);refine (zr rfl ⟨rfl,zr rfl (aF rfl ?_)⟩);refine (zr rfl ⟨.inl ⟨rfl,_,aG.of Xa⟩,zr rfl ⟨lt,zr rfl ⟨.inl (aG.of tt.top),ln,aJ rfl rfl ⟨Xa,by rw [zA,nu.len];omega,?_⟩⟩⟩⟩);have VH:lt≠ln:=λz=>by rw [z,kn9] at N6;cases N6
   have nlw:lw≠ln:=λz=>by
    have:=cw.wa.1;rw [z,fln] at this;cases this
   obtain ⟨HB,eB⟩:∃ HB,HB=upd HA ln (HO.lst (ns.map V.int++[V.int ((Tl.map λx=>V.ref x.1).length:Nat)])):=⟨_,rfl⟩;have tB:bM HA HB:=by rw [eB];exact bM.set Xa
   have kB:HB ln=some (.lst ((ns++[(Tl.length:Int)]).map V.int)):=by rw [eB,xa,zD,zA];rfl
   have kaB:HB la=some (.lst (as.map V.int)):=by rw [eB,xl nal];exact kaA
   have bB:bN a.tP H HB:=λc u n e=>by rw [eB,xl (xg e fln)];exact bA0 c u n e
   have QZ:rW a.tP cM HB b ah tr tm ps k a0 lw ws:=⟨VU.bk.aT tB,gd,cw.r1,cw.oO,cw.hk,cw.a0,cw.a9,⟨by rw [eB,xl nlw];exact VU.wa.1,λx hx=>⟨tB _ _ (VU.wa.2 x hx).1,(VU.wa.2 x hx).2⟩⟩,cw.lo,w1,w4,by rw [eB];exact VU.mt.put Xa⟩;have ttB:HB lt=some (.lst (Tl.map λx=>V.ref x.1)):=by rw [eB,xl VH];exact tt.top
   have gvB:jE HB Tl:=λx hx=>tB _ _ (tt.row x hx);have nuB:=nu.add (by rw [<-et];exact mm);rw [<-eB];clear eB tB Xa kaA bA0 VU kn9 bA mtA pr dp len N6 VH nlw kt Vm;have h0:dI (ws.map λa=>V.ref a.1) 0=some (V.ref x0.1):=wB (j:=0) (by rw [zF,Xl];rfl);refine (zr rfl (zr rfl (zr rfl (cu QZ.wa.1 h0 (fF ((QZ.wa.2 x0 mx0).1) rfl (zr rfl (cu QZ.wa.1 h0 (fF ((QZ.wa.2 x0 mx0).1) rfl ⟨by show 4<=sizeLine;omega,λll Ny=>?_⟩))))))));have sC:=xi (o:=HO.tup [V.int (k:Int),V.int a0,V.int (x0.2.1:Int),V.int x0.2.2]) Ny;have kL:upd HB ll (HO.tup [V.int (k:Int),V.int a0,V.int (x0.2.1:Int),V.int x0.2.2]) ll=some (.tup (nk ⟨k,x0.2.1,a0,x0.2.2⟩)):=xa;generalize upd HB ll (HO.tup [V.int (k:Int),V.int a0,V.int (x0.2.1:Int),V.int x0.2.2])=HC at sC kL ⊢;clear Ny;obtain ⟨o1,o2,o3⟩:=RU hin tu (r:=0) (kv:=[((k:Int),a0)]) (zE 0) (λw=>vv w);have lk1:[((k:Int),a0)].length=1:=rfl;rw [lk1,zA] at o3;refine (zr rfl (zr rfl (zr rfl (NI b ll lt ah tr tm ps ⟨k,x0.2.1,a0,x0.2.2⟩ false Tl ⟨rfl,QZ.bk.same sC,gd,oO,kL,sC _ _ ttB,λx hx=>sC _ _ (gvB x hx),by omega,o1,by rw [o3];omega,λhv qs HD sD _ kD kqD pm=>?_⟩))));obtain ⟨rs,rfl,VG⟩:=Ma pm;rw [zg] at kD;have kr:HD hv=some (.lst (rs.map λr=>V.ref r.1)):=kD;have kq:∀ r∈rs,HD r.1=some (.tup [.int r.2.1,.int r.2.2]):=λr hr=>kqD _ (yE hr);have lr:rs.length=Tl.length + 1:=by
    have:=VG.length_eq;rw [zA,o3] at this;omega
   clear kD kqD pm;have sBD:=sC.trans sD;refine (zr rfl (zr rfl (aF rfl (zr rfl ⟨hv,zr rfl ⟨.inl (aG.of kr),zr rfl ⟨lt,zr rfl ⟨.inl (aG.of (sBD _ _ ttB)),aJ rfl rfl ⟨rfl,zr rfl (aF (by rw [decide_eq_true (by rw [zA,zA,lr];rfl)];rfl) ?_)⟩⟩⟩⟩⟩))));refine (zr rfl (zr rfl (zr rfl ⟨lw,zr rfl ⟨aG.of (sBD _ _ QZ.wa.1),λl3 XE=>?_⟩⟩)));rw [um,<- List.map_take];have sE:=xi (o:=HO.lst ((ws.take (i + 1)).map λa=>V.ref a.1)) XE;have kE:upd HD l3 (HO.lst ((ws.take (i + 1)).map λa=>V.ref a.1)) l3=some (.lst ((ws.take (i + 1)).map λa=>V.ref a.1)):=xa;generalize upd HD l3 (HO.lst ((ws.take (i + 1)).map λa=>V.ref a.1))=HE at sE kE ⊢;have sBE:=sBD.trans sE;refine ⟨l3,rfl,⟨_,aG.of kE⟩,?_⟩;refine dW (K:=K) (a:=l3) (xs:=(ws.take (i + 1)).map λa=>V.ref a.1) (λj σ HF=>(∃ QH QG,σ=[some (.ref b),some (.int (k:Int)),some (.int a0),some (.ref lw),some (.ref la),some (.ref ln),some (.int ((i + 1:Nat):Int)),some (.str (Str.ofString "tree")),some (.ref lt),some (.ref lp),some (.ref ll),some (.ref hv),QH,QG,YK])/\ay HE HF) ⟨⟨_,_,rfl⟩,ay.refl _⟩ ?_ ?_ ?_
   ·rintro j σ HF _ ⟨_,sF⟩;exact aG.of (sF _ _ kE)
   ·rintro j v σ HF Sf ⟨⟨QH,QG,rfl⟩,sF⟩;obtain ⟨x,hx,rfl⟩:=wQ Sf;have mx:=zC hx;have Ry:=sBE.trans sF;have kx:=((QZ.same Ry).wa.2 x (List.mem_of_mem_take mx)).1;have krF:=sF _ _ (sE _ _ kr);have kqF:∀ r∈rs,HF r.1=some (.tup [.int r.2.1,.int r.2.2]):=λr hr=>sF _ _ (sE _ _ (kq r hr));obtain ⟨y,hy,ly⟩:=aA.mp (aK.mp tt.sv x.2 (yE mx));obtain ⟨r0,hr0,er0⟩:∃ r∈rs,r.2=((x.2.1:Int),y):=by
     have:=VG.mem_iff.mpr (PN ((o2 x.2.1).trans hy));exact zO.mp this
    obtain ⟨j0,hj0⟩:=List.getElem?_of_mem hr0;refine (uD kx ?_);refine (zr rfl ⟨hv,rfl,⟨_,aG.of krF⟩,?_⟩);refine (let W31:IC:=λm τ acc HG=>∃ xs:List Int,(∃ t0 t1,τ=[t0,t1,some (.int (x.2.1:Int)),some (.int x.2.2)])/\acc=xs.map V.int/\xs.length<=m/\(j0 < m->0 < xs.length)/\HG=HF;qK (K:=K) (a:=hv) (xs:=rs.map λr=>V.ref r.1) W31 ⟨[],⟨_,_,rfl⟩,rfl,zE _,(λz=>by omega),rfl⟩ (by rw [zA,lr];omega) ?_ ?_ ?_)
    ·rintro m τ acc HG ⟨xs,_,rfl,lx,_,rfl⟩;exact ⟨by rw [zA];exact lx,aG.of krF⟩
    ·rintro m v τ acc HG C Xn ⟨xs,⟨t0,t1,rfl⟩,rfl,lx,px,rfl⟩ hC;obtain ⟨r,hr,rfl⟩:=wQ Xn;have kr1:=kqF r (zC hr);have no:¬ (r.2.1=(x.2.1:Int)/\r.2.2<=x.2.2)->j0 < m + 1->0 < xs.length:=λn z=>by
      by_cases c:j0=m
      ·subst c;rw [hj0] at hr;cases hr;rw [er0] at n;exact absurd ⟨rfl,ly⟩ n
      ·exact px (by omega)
     refine (uD kr1 ?_);refine (zr rfl (zr rfl ⟨rfl,zr rfl ?_⟩));by_cases c1:r.2.1=(x.2.1:Int)
     ·refine bH (decide_eq_true (by rw [c1])) (zr rfl (zr rfl (aJ rfl rfl (zr rfl ?_))));by_cases c2:r.2.2<=x.2.2
      ·exact bH (decide_eq_true c2) (zr rfl (hC _ _ _ ⟨xs++[r.2.2],⟨_,_,rfl⟩,by rw [zD];rfl,by rw [zL];exact Nat.add_le_add_right lx 1,(λ_=>by rw [zL];exact Nat.succ_pos _),rfl⟩))
      ·exact aF (decide_eq_false c2) (hC _ _ _ ⟨xs,⟨_,_,rfl⟩,rfl,by omega,no (λz=>c2 z.2),rfl⟩)
     ·exact aF (decide_eq_false (λe=>c1 (V.int.inj e))) (aF rfl (hC _ _ _ ⟨xs,⟨_,_,rfl⟩,rfl,by omega,no (λz=>c1 z.1),rfl⟩))
    rintro τ acc HG ⟨xs,_,rfl,lx,px,rfl⟩ le hle;have lj:j0 < rs.length:=(zB.mp hj0).1;rw [zA] at px;have p1:=px lj;have s1:=xi (o:=HO.lst (xs.map V.int)) hle;have k1:upd HG le (HO.lst (xs.map V.int)) le=some (.lst (xs.map V.int)):=xa;generalize upd HG le (HO.lst (xs.map V.int))=HJ at s1 k1 ⊢;refine ⟨zX _,λl0 r6=>?_⟩;have s2:=xi (o:=HO.lst []) r6;exact ⟨0,le,l0,_,_,λ_=>true,false,by decide,rfl,rfl,.inl ⟨aG.of (s2 _ _ k1),aG.of xa⟩,by rw [decide_eq_false (by rw [zA];exact λz=>by rw [z] at p1;cases p1)];rfl,(λ_ _ _ _ h=>by cases h),zr rfl (aF rfl ⟨⟨_,_,rfl⟩,(sF.trans s1).trans s2⟩)⟩
   rintro σ HF ⟨⟨QH,QG,rfl⟩,sF⟩;have Ry:=sBE.trans sF;have cwF:=QZ.same Ry;refine (zr rfl ⟨rfl,zr rfl ?_⟩);by_cases i0:i=0
   ·subst i0;have e1:wq (ws.take (0 + 1))=[(x0.2.1,x0.2.2)]:=by
     rw [show ws.take (0 + 1)=[x0] from wK Xl];rfl
    rw [e1] at mn tt;obtain ⟨y,ly,hy,ch⟩:=tS gd tt.tr.V5 tt.sv mn;obtain ⟨g1,g2⟩:=RT hin ch (r:=0) (zE 0);refine bH rfl (zr rfl (zr rfl (zr rfl (NI b ll lt ah tr tm ps ⟨k,x0.2.1,a0,x0.2.2⟩ true Tl ⟨rfl,cwF.bk,gd,oO,sF _ _ (sE _ _ (sD _ _ kL)),Ry _ _ ttB,λx hx=>Ry _ _ (gvB x hx),by omega,g1,by rw [g2];show 1 < 64;decide,λhg qs HG sG _ kG kqG pm=>?_⟩))));rw [g2] at pm;obtain ⟨rs2,rfl,abe⟩:=Ma pm;obtain ⟨ad,rfl⟩:=qX (List.perm_singleton.mp abe);have Y8:HG hg=some (.lst [V.ref ad]):=kG;have kq2:HG ad=some (.tup [.int (x0.2.1:Int),.int y]):=kqG _ (.head _);have sBG:=Ry.trans sG;refine (zr rfl (zr rfl (aF rfl (zr rfl ⟨hg,rfl,⟨_,aG.of Y8⟩,?_⟩))));refine (let W32:IC:=λm τ acc HJ=>(∃ t0 t1,τ=[t0,t1])/\acc=[V.int (x0.2.1:Int)].take m/\HJ=HG;qK (K:=K) (a:=hg) (xs:=[V.ref ad]) W32 ⟨⟨_,_,rfl⟩,rfl,rfl⟩ (by show 1<=1000;decide) ?_ ?_ ?_)
    ·rintro m τ acc HJ ⟨_,rfl,rfl⟩;exact ⟨by rw [z8];omega,aG.of Y8⟩
    ·rintro m v τ acc HJ C Xn ⟨⟨t0,t1,rfl⟩,rfl,rfl⟩ hC
     match m,Xn with
     | 0,Xn=>
      cases Xn;exact (uD kq2 (zr rfl (hC _ _ _ ⟨⟨_,_,rfl⟩,rfl,rfl⟩)))
    rintro τ acc HJ ⟨_,rfl,rfl⟩ le hle;have s1:=xi (o:=HO.lst ([V.int (x0.2.1:Int)].take [V.ref ad].length)) hle;have k1:upd HJ le (HO.lst ([V.int (x0.2.1:Int)].take [V.ref ad].length)) le=some (.lst [V.int (x0.2.1:Int)]):=xa;generalize upd HJ le (HO.lst ([V.int (x0.2.1:Int)].take [V.ref ad].length))=HM at s1 k1 ⊢;have sBM:=sBG.trans s1;have cwM:=QZ.same sBM;refine (zr rfl (cu cwM.wa.1 h0 (fF ((cwM.wa.2 x0 mx0).1) rfl ⟨by show 1<=sizeLine;omega,λl0 r6=>?_⟩)));have s2:=xi (o:=HO.lst [V.int (x0.2.1:Int)]) r6;have YT:=sBM.trans s2;refine ⟨0,le,l0,_,_,λ_=>true,true,by decide,rfl,rfl,.inl ⟨aG.of (s2 _ _ k1),aG.of xa⟩,rfl,(λm x y hx hy=>?_),zr rfl (aF rfl ⟨ns++[(Tl.length:Int)],⟨_,_,_,_,_,_,_,_,_,rfl⟩,nuB,YT _ _ kB,YT _ _ kaB,bB.jW YT,QZ.same YT⟩)⟩;rw [hx] at hy;cases hy
    match m,hx with
    | 0,hx=>cases hx;exact .inr ⟨rfl,rfl,(Qg rfl).symm⟩
   ·refine aF (decide_eq_false (λe=>i0 (by have:=V.int.inj e;omega))) ⟨ns++[(Tl.length:Int)],⟨_,_,_,_,_,_,_,_,_,rfl⟩,nuB,Ry _ _ kB,Ry _ _ kaB,bB.jW Ry,cwF⟩
  ·rintro σ H8 ⟨ns,⟨v6,v7,v8,v9,v10,v11,QH,QG,YK,rfl⟩,nu,Y9,Za,b8,Yk⟩;rw [zA,show ((ws.length:Int) + 1 - 1).toNat=ws.length by omega] at nu;have st:=Rk gd sv (by rw [eW];exact nu) (by rw [eW];exact al) (by rw [eW];exact w1);exact (zr rfl (zr rfl ⟨ln,la,ns,as,rfl,Y9,Za,by rw [nu.len,al.len],by rw [nu.len];exact w1,by rw [nu.len];omega,st.1,st.2,q _ b8 Yk.mt⟩))
theorem Ln:d9 T.Lc P w base 8 (qv K a.tP cM):=by
 have G7:=Jr P w base T B;have Ab:=wd P w base T B;have Ko:=JS P w base T B;have Km:=JP P w base T B;have J9:=Jn P w base T B;have Jw:=IG P w base T B;have Kc:=Jq P w base T B;refine T.Lc.F.ok K1 (λvs H Q E h=>?_) (λbP A outer s H vs Q E hr h=>?_)
 ·obtain ⟨_,_,rfl,_⟩:=h;rfl
 ·have nd:=K1.nd;have hu:=hr.units;obtain ⟨sa,ns,rfl,hS,hlen,mt,q⟩:=h;refine ⟨_,(xf (xr (xt (i:=1) nd rfl rfl (bw Ko hr T.E8 (xb (xc (bw G7 hr T.CD (xb (xc (pv 0) (xc xh xo rfl) rfl))) (xc xh (xc xh xo rfl) rfl) rfl)))) (xr (wZ PassesOwn.never rfl (jZ rfl T.cz (xb (xc xh (xc (xw (kI rfl) (by rfl) T.Qw PyProof.Rows.boot_max (xb (xc xh (xc (xw (ir rfl) (by rfl) T.qj yY (xb (xc xh (xc (xw (xq rfl) (by rfl) T.bL PySem.boot_len (xb (xc (pv 0) xo rfl))) xo rfl) rfl))) xo rfl) rfl))) xo rfl) rfl))) (xk (i:=2) nd rfl rfl) (xf (xr (xt (i:=3) nd rfl rfl (bw G7 hr T.CD (xb (xc (pv 0) (xc (pv 2) xo rfl) rfl)))) (xr (xt (i:=4) nd rfl rfl (bw Ab hr T.Ac (xb (xc (pv 3) (xc (xw (xq rfl) (by rfl) T.bL PySem.boot_len (xb (xc (xu (wC rfl) (pv 1) xh (λ_ _=>rfl)) xo rfl))) xo rfl) rfl)))) (xr (xt (i:=5) nd rfl rfl (bw Km hr T.E6 (xb (xc (pv 3) (xc (pv 1) (xc xh xo rfl) rfl) rfl)))) (xr (xt (i:=6) nd rfl rfl (bw Jw hr T.DD (xb (xc (pv 3) (xc (pv 1) (xc (bw J9 hr T.Ed (xb (xc (pv 1) (xc (pv 4) (xc (pv 5) xo rfl) rfl) rfl))) xo rfl) rfl) rfl)))) (xy (wG (fm (qC (bw Kc hr T.Eg (xb (xc (pv 1) (xc (pv 4) (xc (pv 5) (xc (pv 6) xo rfl) rfl) rfl) rfl))))) (xf (xy (xv iE))) wA)))))))) (xy (xv iE))))),?_⟩;have line:=bD;have Sx:(2:Int) ^ 200 > 10000:=by decide
  refine (zr rfl ⟨sa,ns,0,rfl,hS,by omega,λp1 H1 UQ pu1 s1=>?_⟩);refine ⟨p1,6,14,rfl,by decide,by decide,by decide,pu1,λb ah tr tm ps H2 g2 hb rm1 rm2 rm9 gd lC=>?_⟩;have sm:ay H H2:=λx u e=>g2.1 x u (xg e UQ) (s1 _ _ e);have WU:=mt.dO sm;have U5:=sm.seq hS;clear sm g2 UQ s1 pu1 hS mt;refine (zr rfl ⟨sa,zr rfl ⟨.inl U5,dh rfl (dh rfl (dh rfl ⟨⟨by decide,by decide,?_,?_⟩,?_⟩))⟩⟩)
  ·split <;> (try split) <;> omega
  ·rw [zA];split <;> (try split) <;> omega
  refine cN (lo:=3) (λi σ H8=>(∃ v2 v3 v4 v5 v6,σ=[some (.ref sa),some (.ref b),v2,v3,v4,v5,v6])/\bN a.tP H2 H8/\MT a.tP cM j9 H8) ⟨⟨_,_,_,_,_,rfl⟩,bN.refl _ _,WU⟩ ?_ ?_
  ·rintro i σ H8 hi ⟨⟨v2,v3,v4,v5,v6,rfl⟩,b8,Y5⟩;have i60:i < 90:=by
    rw [zA] at hi
    revert hi
    split <;> (try split) <;> intro h <;> omega
   refine (zr rfl (zr rfl ⟨sa,ns,3 + i,by simp,MT.seq WU b8 U5,by omega,λp2 H9 Xw pu9 s9=>?_⟩));have hb9:=(hb.oz WU b8).same s9;refine (zr rfl (zr rfl (fF hb9.book rfl ⟨tr,zr rfl ⟨.inr (bT.of hb9.ah),p2,zr rfl ⟨by rw [zA];omega,by rw [zA];omega,pu9,λd HA d0 d1 gA=>?_⟩⟩⟩)));rw [zA] at d1;obtain ⟨k,rfl⟩:=zd d0;have hk:k < ah.length:=by omega
   have VS:=hb9.aT (gA.aT pu9);refine (zr rfl (zr rfl (uG p2 b 0 ah tr tm ps ⟨rfl,.inl rfl,VS,gd,gA.2,λa0 HB Zu Zt gB=>?_⟩)));have hbB:=VS.aT (gB.aT gA.2);refine (zr rfl (zr rfl (zr rfl (zr rfl (zr rfl (uG b k a0 ah tr tm ps ⟨rfl,hk,hbB,by omega,gd,λlt HC dU sC kC=>?_⟩))))));have puC:=gB.2.same sC;refine ⟨p2,b,lt,ah.length,zr rfl ⟨puC,gB.2.ne dU,kC,by omega,⟨k,a0,hk,gU _ _ _⟩,λw x h=>⟨xD Zu (OO h),So gd Zt h⟩,λlw ws HD gD _ _ wa lo w1 w4 up=>?_⟩⟩;have hbD:=(hbB.same sC).aT (gD.aT puC);have mt9:=Y5.dO s9;have mtD:=(((mt9.go pu9 gA).go gA.2 gB).dO sC).go puC gD;refine (zr rfl (zr rfl (zr rfl (zr rfl (Zr b k a0 lw ah tr tm ps ws ⟨rfl,⟨hbD,gd,rm1,by omega,hk,Zu,Zt,wa,lo,w1,w4,mtD⟩,by omega,by omega,aK.mpr up,λHE bE mtE=>(zr rfl (aF rfl ⟨⟨_,_,_,_,_,rfl⟩,λc u n e=>?_,mtE⟩))⟩)))));have e8:=b8 c u n e;have np:=xg e8 Xw;exact bE c u n (gD.1 c u np (sC _ _ (gB.1 c u np (gA.1 c u np (s9 _ _ e8)))))
  ·rintro σ H8 ⟨⟨v2,v3,v4,v5,v6,rfl⟩,b8,Y5⟩;exact q H8
end
theorem all_mk {l:PySem.W.OpenLaw}{w:World}{K:PySem.W.Frag}{h:Heap}{mg:Str->Option Value}{fa JY Et Fj Gq Er Fk Cp Fm Fi Gm Ff Hl Gn Hk A8 Fg Hn Ky Gj Gk IN C4 IK Fh Co BN Gp Ei JX IL C5 Em Hj IJ Fe DF Ej El IM En Ek Hm AS AD Bf BT Eu Dp Do AL AZ AE Bv FI Eo DG Ep Fl Bm Es Li tC tP FN DT BR Br DS DR BQ BP Aa:Addr}(X:K.In h)(G:h.Ns mainGlobals mg)(hfa:mg "law" = some (.ref fa))
  {G4 CS Dw EB CP Dx Bh Dz Dv Ey Dr FL Ez FK AF Dt FM J0 Ev Ew G3 Bw G0 Du Bg A3 EA CG Im G1 Bx A4 FJ GZ Dq BU CI CK G2 CL CJ DQ Aw Ap AC AR BO Bq Bp As AA Aq AG CT CM BV CO Dy AM CQ KJ:FuncData}{aj:Tok}{af:Tok}{aa:Tok}
  (FO:zH K mainGlobals "_wall" = some (some (.ref JY))) (Ke:bR K "_wall" "_wall" KH JY G4)
  (BI:zH K mainGlobals "_law_purse" = some (some (.ref Et))) (EN:bR K "_law_purse" "_law_purse" w8 Et CS)
  (Cj:zH K mainGlobals "_law_take" = some (some (.ref Fj))) (FB:bR K "_law_take" "_law_take" qL Fj Dw)
  (Db:zH K mainGlobals "_law_far" = some (some (.ref Gq))) (GI:bR K "_law_far" "_law_far" D5 Gq EB)
  (BG:zH K mainGlobals "_law_rooms" = some (some (.ref Er))) (EL:bR K "_law_rooms" "_law_rooms" qQ Er CP)
  (Ck:zH K mainGlobals "_law_step" = some (some (.ref Fk))) (FC:bR K "_law_step" "_law_step" Ca Fk Dx)
  (AQ:zH K mainGlobals "_law_meetings" = some (some (.ref Cp))) (Cs:bR K "_law_meetings" "_law_meetings" wF Cp Bh)
  (Cm:zH K mainGlobals "_law_book" = some (some (.ref Fm))) (FE:bR K "_law_book" "_law_book" Cb Fm Dz)
  (Ci:zH K mainGlobals "_law_time" = some (some (.ref Fi))) (FA:bR K "_law_time" "_law_time" wl Fi Dv)
  (C8:zH K mainGlobals "is_whole" = some (some (.ref Gm))) (GF:bR K "is_whole" "is_whole" Gd Gm Ey)
  (Cf:zH K mainGlobals "is_within" = some (some (.ref Ff))) (Fx:bR K "is_within" "is_within" EZ Ff Dr)
  (DW:zH K mainGlobals "is_time" = some (some (.ref Hl))) (Hw:bR K "is_time" "is_time" Hd Hl FL)
  (C9:zH K mainGlobals "is_below" = some (some (.ref Gn))) (GG:bR K "is_below" "is_below" Ge Gn Ez)
  (DV:zH K mainGlobals "is_upto" = some (some (.ref Hk))) (Hv:bR K "is_upto" "is_upto" Hc Hk FK)
  (Ax:zH K mainGlobals "is_meeting_number" = some (some (.ref A8))) (Ba:bR K "is_meeting_number" "is_meeting_number" qD A8 AF)
  (Cg:zH K mainGlobals "is_walker" = some (some (.ref Fg))) (Fy:bR K "is_walker" "is_walker" E4 Fg Dt)
  (DX:zH K mainGlobals "by_time" = some (some (.ref Hn))) (HH:bR K "by_time" "by_time" FF Hn FM)
  (IT:zH K mainGlobals "ways" = some (some (.ref Ky))) (KF:bR K "ways" "ways" Hb Ky J0)
  (C6:zH K mainGlobals "other_at" = some (some (.ref Gj))) (GD:bR K "other_at" "other_at" Gc Gj Ev)
  (C7:zH K mainGlobals "lone_row" = some (some (.ref Gk))) (GE:bR K "lone_row" "lone_row" D2 Gk Ew)
  (Fu:zH K mainGlobals "all_of" = some (some (.ref IN))) (Jh:bR K "all_of" "all_of" Iy IN G3)
  (AT:zH K mainGlobals "without_wish" = some (some (.ref C4))) (De:bR K "without_wish" "without_wish" CW C4 Bw)
  (Fq:zH K mainGlobals "splits" = some (some (.ref IK))) (Je:bR K "splits" "splits" GT IK G0)
  (Ch:zH K mainGlobals "is_letter" = some (some (.ref Fh))) (Fz:bR K "is_letter" "is_letter" B9 Fh Du)
  (AO:zH K mainGlobals "first_givings" = some (some (.ref Co))) (Cr:bR K "first_givings" "first_givings" wb Co Bg)
  (AH:zH K mainGlobals "earliest_times" = some (some (.ref BN))) (BS:bR K "earliest_times" "earliest_times" BK BN A3)
  (Da:zH K mainGlobals "earliest" = some (some (.ref Gp))) (GH:bR K "earliest" "earliest" wv Gp EA)
  (By:zH K mainGlobals "still_open" = some (some (.ref Ei))) (ED:bR K "still_open" "still_open" qR Ei CG)
  (G6:zH K mainGlobals "least" = some (some (.ref JX))) (Kd:bR K "least" "least" D3 JX Im)
  (Fs:zH K mainGlobals "row_of" = some (some (.ref IL))) (Jf:bR K "row_of" "row_of" EY IL G1)
  (AU:zH K mainGlobals "least_prices" = some (some (.ref C5))) (Dg:bR K "least_prices" "least_prices" wj C5 Bx)
  (BC:zH K mainGlobals "best_split" = some (some (.ref Em))) (EH:bR K "best_split" "best_split" Cy Em A4)
  (DU:zH K mainGlobals "tree_by" = some (some (.ref Hj))) (Hu:bR K "tree_by" "tree_by" wc Hj FJ)
  (Fp:zH K mainGlobals "spread" = some (some (.ref IJ))) (Jd:bR K "spread" "spread" Ix IJ GZ)
  (Ce:zH K mainGlobals "row_after" = some (some (.ref Fe))) (Fw:bR K "row_after" "row_after" BZ Fe Dq)
  (Bb:zH K mainGlobals "giving_rows" = some (some (.ref DF))) (DH:bR K "giving_rows" "giving_rows" qF DF BU)
  (Bz:zH K mainGlobals "meeting_at" = some (some (.ref Ej))) (EE:bR K "meeting_at" "meeting_at" D1 Ej CI)
  (BB:zH K mainGlobals "chain_back" = some (some (.ref El))) (EG:bR K "chain_back" "chain_back" qS El CK)
  (Ft:zH K mainGlobals "fewest" = some (some (.ref IM))) (Jg:bR K "fewest" "fewest" DM IM G2)
  (BD:zH K mainGlobals "are_wholes" = some (some (.ref En))) (EI:bR K "are_wholes" "are_wholes" Cz En CL)
  (BA:zH K mainGlobals "is_passing" = some (some (.ref Ek))) (EF:bR K "is_passing" "is_passing" D4 Ek CJ)
  (CU:zH K mainGlobals "is_drop" = some (some (.ref Hm))) (Hy:bR K "is_drop" "is_drop" JD Hm DQ)
  (Am:zP K (.ref Aa) "takes_room" = some (some (.ref AS))) (Bu:yF K (.ref AS)=true) (An:bR K "takes_room" "Trip.takes_room" qT AS Aw)
  (Af:zP K (.ref Aa) "note_arrival" = some (some (.ref AD))) (A6:yF K (.ref AD)=true) (Ah:bR K "note_arrival" "Trip.note_arrival" wf AD Ap)
  (Al:zP K (.ref Aa) "__init__" = some (some (.ref Bf))) (Be:yF K (.ref Bf)=true) (Ar:bR K "__init__" "Trip.__init__" wI Bf AC)
  (Ay:zP K (.ref Aa) "having" = some (some (.ref BT))) (DE:yF K (.ref BT)=true) (Az:bR K "having" "Trip.having" DB BT AR)
  (AV:zP K (.ref Aa) "bag" = some (some (.ref Eu))) (Gh:yF K (.ref Eu)=true) (AY:bR K "bag" "Trip.bag" CY Eu BO)
  (AJ:zP K (.ref Aa) "come" = some (some (.ref Dp))) (Fd:yF K (.ref Dp)=true) (AX:bR K "come" "Trip.come" HV Dp Bq)
  (AI:zP K (.ref Aa) "done" = some (some (.ref Do))) (Fc:yF K (.ref Do)=true) (AK:bR K "done" "Trip.done" E5 Do Bp)
  (Aj:zP K (.ref Aa) "need_letter" = some (some (.ref AL))) (Bl:yF K (.ref AL)=true) (Ak:bR K "need_letter" "Trip.need_letter" qI AL As)
  (Ao:zP K (.ref Aa) "need_drop" = some (some (.ref AZ))) (BM:yF K (.ref AZ)=true) (At:bR K "need_drop" "Trip.need_drop" DN AZ AA)
  (Ag:zP K (.ref Aa) "need_passing" = some (some (.ref AE))) (A7:yF K (.ref AE)=true) (Ai:bR K "need_passing" "Trip.need_passing" wL AE Aq)
  (Au:zP K (.ref Aa) "pass_on" = some (some (.ref Bv))) (C3:yF K (.ref Bv)=true) (Av:bR K "pass_on" "Trip.pass_on" ww Bv AG)
  (Bs:zP K (.ref Aa) "do" = some (some (.ref FI))) (Hh:yF K (.ref FI)=true) (Bt:bR K "do" "Trip.do" qM FI CT)
  (BE:zH K mainGlobals "_law_times" = some (some (.ref Eo))) (EJ:bR K "_law_times" "_law_times" qA Eo CM)
  (Bc:zH K mainGlobals "_law_wished" = some (some (.ref DG))) (DI:bR K "_law_wished" "_law_wished" wW DG BV)
  (BF:zH K mainGlobals "_law_roomy" = some (some (.ref Ep))) (EK:bR K "_law_roomy" "_law_roomy" CB Ep CO)
  (Cl:zH K mainGlobals "_law_done" = some (some (.ref Fl))) (FD:bR K "_law_done" "_law_done" wx Fl Dy)
  (AB:zH K mainGlobals "_law_steps_right" = some (some (.ref Bm))) (Bn:bR K "_law_steps_right" "_law_steps_right" wY Bm AM)
  (BH:zH K mainGlobals "_law_right" = some (some (.ref Es))) (EM:bR K "_law_right" "_law_right" wH Es CQ)
  (JG:zH K mainGlobals "law" = some (some (.ref Li))) (KK:bR K "law" "law" K2 Li KJ)
  (z_all:zH K mainGlobals "all" = some none)
  (z_bool:zH K mainGlobals "bool" = some none)
  (z_enumerate:zH K mainGlobals "enumerate" = some none)
  (z_int:zH K mainGlobals "int" = some none)
  (z_isinstance:zH K mainGlobals "isinstance" = some none)
  (z_len:zH K mainGlobals "len" = some none)
  (z_list:zH K mainGlobals "list" = some none)
  (z_max:zH K mainGlobals "max" = some none)
  (z_min:zH K mainGlobals "min" = some none)
  (z_range:zH K mainGlobals "range" = some none)
  (z_reversed:zH K mainGlobals "reversed" = some none)
  (z_sorted:zH K mainGlobals "sorted" = some none)
  (z_tuple:zH K mainGlobals "tuple" = some none)
  (g_LAST_TIME:zH K mainGlobals "LAST_TIME" = some (some (.int 1000000000 aj)))
  (g_MOST_SPREAD_WALKERS:zH K mainGlobals "MOST_SPREAD_WALKERS" = some (some (.int 8 af)))
  (g_MOST_SPREAD_MEETINGS:zH K mainGlobals "MOST_SPREAD_MEETINGS" = some (some (.int 24 aa)))
  (JZ:zH K mainGlobals "HasIt" = some (some (.ref FN)))
  (IR:zH K mainGlobals "NoDeed" = some (some (.ref DT)))
  (Gv:zH K mainGlobals "NoLetter" = some (some (.ref BR)))
  (Fo:zH K mainGlobals "NoMeeting" = some (some (.ref Br)))
  (IQ:zH K mainGlobals "NoPass" = some (some (.ref DS)))
  (IO:zH K mainGlobals "NoRoom" = some (some (.ref DR)))
  (Gu:zH K mainGlobals "NoWalker" = some (some (.ref BQ)))
  (Gr:zH K mainGlobals "NotThere" = some (some (.ref BP)))
  (Kz:zH K mainGlobals "Trip" = some (some (.ref Aa)))
  (JL:xM K Aa Str.empty=true) (JW:PySem.W.hasDictIn K Aa=true) (JK:PySem.W.plainOver K Aa=true) (JI:zP K (.ref Aa) "__setattr__" = some (some (.builtin "object.__setattr__")))
  (JU:PySem.W.makesIn K Aa=true) (JV:zj K (.ref Aa)=true)
  (nf_Trip_book:zP K (.ref Aa) "book" = some none)
  (nf_Trip_letters:zP K (.ref Aa) "letters" = some none)
  (nf_Trip_holders:zP K (.ref Aa) "holders" = some none)
  (nf_Trip_arrivals:zP K (.ref Aa) "arrivals" = some none)
  (nf_Trip_passed:zP K (.ref Aa) "passed" = some none)
  (nf_Trip_reached:zP K (.ref Aa) "reached" = some none)
  (nf_Trip_deeds:zP K (.ref Aa) "deeds" = some none)
  (Ha:iB K DT=true)
  (DZ:iB K Br=true)
  (EU:iB K BR=true)
  (ET:iB K BQ=true)
  (ES:iB K BP=true)
  (Io:iB K FN=true)
  (G9:iB K DS=true)
  (G8:iB K DR=true)
  (h_cd:A4.code=.ref tC) (h_hd:PySem.W.codeHdIn K tC tP=true) :
  ∃ fd:FuncData,(∃ c,PySem.W.codeHdIn K c tP=true)/\(∀ (s:Shared) (v:Value),BindsTo s fd ⟨[v],[]⟩ [("_law_script", v)])/\∀ base:Heap,K.In base->base.Ns mainGlobals mg->aO mg base->cF l.prog w K mg base mD 8 fa fd ["_law_script"] (qv K tP cM):=by
 have e:=hfa.symm.trans (yC X G JG);cases e;have G5:=An.binds (ps:=["self", "letter", "walker"]) λ_ _ _ _ _ _ us hl=>YM hl λ_ _ _=>rfl;have FS:=Ah.binds (ps:=["self", "letter", "walker", "time"]) λ_ _ _ _ _ _ us hl=>YL hl λ_ _ _ _=>rfl;have Ij:=Ar.binds (ps:=["self", "book", "letters"]) λ_ _ _ _ _ _ us hl=>YM hl λ_ _ _=>rfl;have Jt:=Az.binds (ps:=["self", "letter"]) λ_ _ _ _ _ _ us hl=>VB hl λ_ _=>rfl;have KA:=AY.binds (ps:=["self", "walker"]) λ_ _ _ _ _ _ us hl=>VB hl λ_ _=>rfl;have Kk:=AX.binds (ps:=["self", "letter"]) λ_ _ _ _ _ _ us hl=>VB hl λ_ _=>rfl;have Kj:=AK.binds (ps:=["self"]) λ_ _ _ _ _ _ us hl=>us1 hl λ_=>rfl;have Gw:=Ak.binds (ps:=["self", "letter"]) λ_ _ _ _ _ _ us hl=>VB hl λ_ _=>rfl;have Ho:=At.binds (ps:=["self", "letter", "walker"]) λ_ _ _ _ _ _ us hl=>YM hl λ_ _ _=>rfl;have FT:=Ai.binds (ps:=["self", "meeting", "letter", "giver"]) λ_ _ _ _ _ _ us hl=>YL hl λ_ _ _ _=>rfl;have IS:=Av.binds (ps:=["self", "meeting", "letter", "giver"]) λ_ _ _ _ _ _ us hl=>YL hl λ_ _ _ _=>rfl;have KR:=Bt.binds (ps:=["self", "deed"]) λ_ _ _ _ _ _ us hl=>VB hl λ_ _=>rfl;have T:Tx K mg ⟨JY,G4,Et,CS,Fj,Dw,Gq,EB,Er,CP,Fk,Dx,Cp,Bh,Fm,Dz,Fi,Dv,Gm,Ey,Ff,Dr,Hl,FL,Gn,Ez,Hk,FK,A8,AF,Fg,Dt,Hn,FM,Ky,J0,Gj,Ev,Gk,Ew,IN,G3,C4,Bw,IK,G0,Fh,Du,Co,Bg,BN,A3,Gp,EA,Ei,CG,JX,Im,IL,G1,C5,Bx,Em,A4,Hj,FJ,IJ,GZ,Fe,Dq,DF,BU,Ej,CI,El,CK,IM,G2,En,CL,Ek,CJ,Hm,DQ,AS,Aw,AD,Ap,Bf,AC,BT,AR,Eu,BO,Dp,Bq,Do,Bp,AL,As,AZ,AA,AE,Aq,Bv,AG,FI,CT,Eo,CM,DG,BV,Ep,CO,Fl,Dy,Bm,AM,Es,CQ,fa,KJ,tC,tP,FN,DT,BR,Br,DS,DR,BQ,BP,Aa⟩ aj af aa:=⟨.of X G FO Ke,.of X G BI EN,.of X G Cj FB,.of X G Db GI,.of X G BG EL,.of X G Ck FC,.of X G AQ Cs,.of X G Cm FE,.of X G Ci FA,.of X G C8 GF,.of X G Cf Fx,.of X G DW Hw,.of X G C9 GG,.of X G DV Hv,.of X G Ax Ba,.of X G Cg Fy,.of X G DX HH,.of X G IT KF,.of X G C6 GD,.of X G C7 GE,.of X G Fu Jh,.of X G AT De,.of X G Fq Je,.of X G Ch Fz,.of X G AO Cr,.of X G AH BS,.of X G Da GH,.of X G By ED,.of X G G6 Kd,.of X G Fs Jf,.of X G AU Dg,.of X G BC EH,.of X G DU Hu,.of X G Fp Jd,.of X G Ce Fw,.of X G Bb DH,.of X G Bz EE,.of X G BB EG,.of X G Ft Jg,.of X G BD EI,.of X G BA EF,.of X G CU Hy,An,G5,⟨Am,Bu,An.kp⟩,An.kp,Ah,FS,⟨Af,A6,Ah.kp⟩,Ah.kp,Ar,Ij,⟨Al,Be,Ar.kp⟩,Ar.kp,Az,Jt,⟨Ay,DE,Az.kp⟩,Az.kp,AY,KA,⟨AV,Gh,AY.kp⟩,AY.kp,AX,Kk,⟨AJ,Fd,AX.kp⟩,AX.kp,AK,Kj,⟨AI,Fc,AK.kp⟩,AK.kp,Ak,Gw,⟨Aj,Bl,Ak.kp⟩,Ak.kp,At,Ho,⟨Ao,BM,At.kp⟩,At.kp,Ai,FT,⟨Ag,A7,Ai.kp⟩,Ai.kp,Av,IS,⟨Au,C3,Av.kp⟩,Av.kp,Bt,KR,⟨Bs,Hh,Bt.kp⟩,Bt.kp,.of X G BE EJ,.of X G Bc DI,.of X G BF EK,.of X G Cl FD,.of X G AB Bn,.of X G BH EM,.of X G JG KK,zk X G z_all,zk X G z_bool,zk X G z_enumerate,zk X G z_int,zk X G z_isinstance,zk X G z_len,zk X G z_list,zk X G z_max,zk X G z_min,zk X G z_range,zk X G z_reversed,zk X G z_sorted,zk X G z_tuple,h_hd,h_cd,yC X G JZ,yC X G IR,yC X G Gv,yC X G Fo,yC X G IQ,yC X G IO,yC X G Gu,yC X G Gr,yC X G Kz,gk.of Ha,gk.of DZ,gk.of EU,gk.of ET,gk.of ES,gk.of Io,gk.of G9,gk.of G8,⟨JL,JW,JK,JI⟩,⟨JU,Al,Be,JV⟩,nf_Trip_book,nf_Trip_letters,nf_Trip_holders,nf_Trip_arrivals,nf_Trip_passed,nf_Trip_reached,nf_Trip_deeds,yC X G g_LAST_TIME,yC X G g_MOST_SPREAD_WALKERS,yC X G g_MOST_SPREAD_MEETINGS⟩;obtain ⟨_,_,_,_,_,_,_,_,_,rfl,_,_⟩:=KK.ex;exact ⟨_,⟨tC,h_hd⟩,λs v=>.of_eq rfl,λbase _ _ B=>Ln _ _ base T B⟩
theorem walk {l:PySem.W.OpenLaw}{q:Program}{loose:List Str}{XP:(Str->Option Value)->Heap->Prop}{YP:World->Heap->Prop}{d:DefRec}{K:Params->PySem.W.Frag}{T:Addr}(hn:l.most=some 63)(XR:d.params.defaults=[])
  (hY:∀ (w:World) (h:Heap),YP w h->(K w.params).In h/\h.get? T=some (PySem.W.tabObj #[])) (nt:∀ w:World,PySem.W.noTabs (K w.params)=true)
  (F:∀ (w:World) (mg:Str->Option Value) (fa:Addr) (h:Heap),(K w.params).In h->h.Ns mainGlobals mg->mg d.name=some (.ref fa) ->
   ∃ fd:FuncData,(∃ c,PySem.W.codeHdIn (K w.params) c T=true)/\(∀ (s:Shared) (u:Value),BindsTo s fd ⟨[u],[]⟩ [("_law_script", u)])/\∀ base:Heap,(K w.params).In base->base.Ns mainGlobals mg->aO mg base->cF l.prog w (K w.params) mg base mD 8 fa fd ["_law_script"] (qv (K w.params) T cM)) :
  PySem.W.WalkO q loose XP YP l.row.toRowW d [] (λf vs=>PySem.call f vs):=
 L2.Oe (n:=63) (k:=8) (x := "_law_script") (CX:=λ_=>mD) (sp:=λw=>qv (K w.params) T cM) hn (by decide) XR ⟨rfl,by decide,by decide,rfl⟩ hY nt F (λ_ _ a ns hl hT hS=>⟨a,ns,rfl,hS,hl,.inl hT,λ_=>rfl⟩) λ_ _ _ _ _ z=>z
end Sm
namespace PySem.W.Fast
def tw13749315376459982475:Nat:=0
def tw4339331468846114902:Nat:=0
def tw6331800348207867357:Nat:=0
def tw14253500604206496222:Nat:=0
def tw17695703534554140856:Nat:=0
def tw3087241428696059325:Nat:=0
def tw17102362251816249912:Nat:=0
def tw8438699376958924539:Nat:=0
def tw101205861126176706:Nat:=0
def tw13374897430398640677:Nat:=0
def tw9703975189153981538:Nat:=0
def tw3056714516754056043:Nat:=0
def tw16207731664689179121:Nat:=0
def tw442038873126724031:Nat:=0
def tw5271768615490567434:Nat:=0
def tw9133713510764597595:Nat:=0
def tw5851241409977616166:Nat:=0
def tw12207609262964228816:Nat:=0
def tw11454147436745074001:Nat:=0
def tw4186731742092165570:Nat:=0
def tw1810343558541150791:Nat:=0
def tw13038048538916995185:Nat:=0
def tw10466664563742252715:Nat:=0
def tw7082235527077209297:Nat:=0
def tw16673865732292446296:Nat:=0
def tw13147607512906705310:Nat:=0
def tw6562714197656253570:Nat:=0
def tw4808083933419380422:Nat:=0
def tw11387174328897167206:Nat:=0
def tw7943352672200961691:Nat:=0
def tw14142434530152424078:Nat:=0
def tw7954874952149181663:Nat:=0
def tw10194723109301314207:Nat:=0
def tw15899917902877518789:Nat:=0
def tw11711405999437343722:Nat:=0
def tw14054590208473097891:Nat:=0
def tw1390253149214234587:Nat:=0
def tw6036204551778057344:Nat:=0
def tw1927612508230750482:Nat:=0
def tw12555200364783449620:Nat:=0
def tw8527362874067179193:Nat:=0
def tw7949677895398608028:Nat:=0
def tw16136205568196778712:Nat:=0
def tw12386026379942847021:Nat:=0
def tw11090152658204288414:Nat:=0
def tw4565533916480617364:Nat:=0
def tw17096684103627218567:Nat:=0
def tw10893401942966946778:Nat:=0
def tw6275525686657988566:Nat:=0
def tw10954773377328003506:Nat:=0
def tw15058365075000600523:Nat:=0
def tw8990896834494212248:Nat:=0
def tw17174298848454331933:Nat:=0
def tw13384226328033308503:Nat:=0
def tw16698598849443041342:Nat:=0
def tw18070463160388041442:Nat:=0
def tw9466392857622233400:Nat:=0
def tw10047177370426230278:Nat:=0
def tw2152372198574986633:Nat:=0
def tw18006776924372068970:Nat:=0
def tw3368048350722565591:Nat:=0
def tw10664980600979611350:Nat:=0
def tw12166565838739154802:Nat:=0
def tw12985212511966731763:Nat:=0
def tw3339384694665688672:Nat:=0
def tw246298850106812826:Nat:=0
def tw1346529196982741059:Nat:=0
def tw1137786767668132244:Nat:=0
def tw10905633296793941103:Nat:=0
def tw3903623713537394452:Nat:=0
def tw10176356697461536081:Nat:=0
def tw8280841748679912804:Nat:=0
def tw3600148694500584301:Nat:=0
def tw13112863985644591452:Nat:=0
def tw3696727617060103798:Nat:=0
def tw1215505841017092615:Nat:=0
def tw8875460348263162219:Nat:=0
def tw12357515343835331806:Nat:=0
def tw13810918948428628199:Nat:=0
def tw7607713249500962320:Nat:=0
def tw12931874013159808122:Nat:=0
def tw3597956616406836836:Nat:=0
def tw202432097701662761:Nat:=0
def tw15839883951457480796:Nat:=0
def tw4414596309037986726:Nat:=0
def tw7873421857315469719:Nat:=0
def tw8299285905068068110:Nat:=0
def tw13430528648275142259:Nat:=0
def tw11864193664680707043:Nat:=0
def tw8034971095089103904:Nat:=0
def tw10879733406530043430:Nat:=0
def tw13898219855195235944:Nat:=0
def tw14149050593934262256:Nat:=0
def tw15046431353228852779:Nat:=0
def tw4688928410198538041:Nat:=0
def tw3819431187750154295:Nat:=0
def tw7306036255947423755:Nat:=0
def tw13770753613978076265:Nat:=0
def tw8691790949520880171:Nat:=0
def tw14830094540957126242:Nat:=0
def tw7358279531443525680:Nat:=0
def tw16835803551472098689:Nat:=0
def tw4584257818844669677:Nat:=0
def tw11707584496864172759:Nat:=0
def tw16237075350251910896:Nat:=0
def tw11026321754948241095:Nat:=0
def tw3894051598286086664:Nat:=0
def tw7339694932865302746:Nat:=0
def tw9137338021798021114:Nat:=0
def tw5976154885410684042:Nat:=0
def tw2873757181331232066:Nat:=0
def tw14253913086834823949:Nat:=0
def tw2241587325024039393:Nat:=0
def tw15919502452781429327:Nat:=0
def tw5747700601181956226:Nat:=0
def tw9214922164434331883:Nat:=0
def tw11351160470924892886:Nat:=0
def tw6628874288295969850:Nat:=0
def tw4654143398561306283:Nat:=0
def tw17334799077853317900:Nat:=0
def tw13678695525371342976:Nat:=0
def tw18403228499847470314:Nat:=0
def tw16946143739615977378:Nat:=0
def tw18283975106148489778:Nat:=0
def tw17927392140146335064:Nat:=0
def tw14748655347699161388:Nat:=0
def tw6716576705183861312:Nat:=0
def tw13026165162096611576:Nat:=0
def tw5934946409510937035:Nat:=0
def tw3353613849739730677:Nat:=0
def tw2280883997025240671:Nat:=0
def tw13176592622569039251:Nat:=0
def tw16441797590317949749:Nat:=0
def tw6019102455630381838:Nat:=0
def tw4463833252113863711:Nat:=0
def tw3739758308097972034:Nat:=0
def tw18292320936863466020:Nat:=0
def tw16641221423758903048:Nat:=0
def tw8731172372853142311:Nat:=0
def tw14400985282931009841:Nat:=0
def tw8665344844469881490:Nat:=0
def tw537908295685107390:Nat:=0
def tw9963862516164091601:Nat:=0
def tw1550118470516382874:Nat:=0
def tw3433506343462666981:Nat:=0
def tw5630635202001093588:Nat:=0
def tw17125392537345781741:Nat:=0
def tw811082916864767240:Nat:=0
def tw3162234915129231055:Nat:=0
def tw18273679696321994685:Nat:=0
def tw16619109782600242178:Nat:=0
def tw5435758991781723589:Nat:=0
def tw6393299229926522492:Nat:=0
def tw895545316259995327:Nat:=0
def tw17189247064477323619:Nat:=0
def tw15820661445602335325:Nat:=0
def tw1558905603002111265:Nat:=0
def tw1081066664660686460:Nat:=0
def tw2251405442451853217:Nat:=0
def tw7363052079915747400:Nat:=0
def tw16488326811434759413:Nat:=0
def tw14570784985256446420:Nat:=0
def tw10708506318146135484:Nat:=0
def tw5707388866110456349:Nat:=0
def tw6954893149384766745:Nat:=0
def tw3065336032247937684:Nat:=0
def tw6652277060112997510:Nat:=0
def tw17160043660883525463:Nat:=0
def tw17820152056423968040:Nat:=0
def tw5203125939571446880:Nat:=0
def tw7369451253418101916:Nat:=0
def tw623713525601485988:Nat:=0
def tw16977468960555977846:Nat:=0
def tw2700013948481280085:Nat:=0
def tw2743410374270676466:Nat:=0
def tw14741041411490027233:Nat:=0
def tw4042978870780817570:Nat:=0
def tw9138245020829338075:Nat:=0
def tw9526600183345176190:Nat:=0
def tw2314581455318644790:Nat:=0
def tw2100773136698359062:Nat:=0
def tw15118797839496204180:Nat:=0
def tw12984826610147020986:Nat:=0
def tw8083989028698269153:Nat:=0
def tw3717439638112741284:Nat:=0
def tw15689503292653648674:Nat:=0
def tw4231610014625697809:Nat:=0
def tw9666542804110454786:Nat:=0
def tw10651801975898224245:Nat:=0
def tw12939403122403567627:Nat:=0
def tw18005264655961736866:Nat:=0
def tw14989160012263557553:Nat:=0
def tw10649022197455725207:Nat:=0
def tw14295144989620419017:Nat:=0
def tw6405923781414304758:Nat:=0
def tw1536838928972886177:Nat:=0
def tw15336336385817573683:Nat:=0
def tw3649926074176506619:Nat:=0
def tw4411082814053730635:Nat:=0
def tw6179492225719027867:Nat:=0
def tw746940034606318407:Nat:=0
def tw7598905721749006502:Nat:=0
def tw3059721302585807350:Nat:=0
def tw1688323233471041520:Nat:=0
def tw6293760024873580299:Nat:=0
def tw4102297538488062086:Nat:=0
def tw11396116898752082747:Nat:=0
def tw17767457855282185165:Nat:=0
def tw7856946073813639672:Nat:=0
def tw6066716663455413293:Nat:=0
def tw1301025399181250667:Nat:=0
def tw1631549518132026007:Nat:=0
def tw14790382468579667189:Nat:=0
def tw93828899014955435:Nat:=0
def tw16073473473878253885:Nat:=0
def tw15734501355693042805:Nat:=0
def tw15502228150195130274:Nat:=0
def tw16992494722433804232:Nat:=0
def tw17113574654026484528:Nat:=0
def tw14753456955641674606:Nat:=0
def tw9052897852982879754:Nat:=0
def tw2841888297933801028:Nat:=0
def tw55496264632594606:Nat:=0
def tw10373251114939686021:Nat:=0
def tw10152880608572422257:Nat:=0
def tw3980383205211899937:Nat:=0
def tw15778639692600999429:Nat:=0
def tw12766276543664104503:Nat:=0
def tw12658669556598501680:Nat:=0
def tw17119701951924007407:Nat:=0
def tw8908868880174727885:Nat:=0
def tw7227725601838117719:Nat:=0
def tw2849623623641653427:Nat:=0
def tw173003709483450115:Nat:=0
def tw9014471436142016580:Nat:=0
def tw15102818662407809526:Nat:=0
def tw15757059866053710571:Nat:=0
def tw17776794798842257001:Nat:=0
def tw8815568410681023974:Nat:=0
def tw7282205553018642941:Nat:=0
def tw15805206217887711293:Nat:=0
def tw10823840786591230117:Nat:=0
def tw3163654046097229621:Nat:=0
def tw7652825140369970248:Nat:=0
def tw4305248380284592424:Nat:=0
def tw7171368397839489574:Nat:=0
def tw16782293327725576737:Nat:=0
def tw3894297129683364189:Nat:=0
def tw15937154386969316126:Nat:=0
def tw18161703725741476603:Nat:=0
def tw982484615761116815:Nat:=0
def tw2826071257392187962:Nat:=0
def tw4075313087534644154:Nat:=0
def tw16995389955558275598:Nat:=0
def tw4507478553228856855:Nat:=0
def tw17644965893958921157:Nat:=0
def tw18103605703883664712:Nat:=0
def tw2043717674160556414:Nat:=0
def tw14331503121487607414:Nat:=0
def tw9299334484218486918:Nat:=0
def tw15587912653222941598:Nat:=0
end PySem.W.Fast
open PySem PySem.W PyProof.Rows
set_option maxRecDepth 100000 in
set_option maxHeartbeats 0 in
theorem PySem.Challenge.cw_satchelmeet_k97_whole_wish_by_wish_holds : PySem.Challenge.rw_satchelmeet_k97_whole_wish_by_wish.Holds := by
 w_on;o_law;k_head;(case hw=>w_witness2)
 k_fill
 refine Sm.walk (l:=PySem.Challenge.rw_satchelmeet_k97_whole_wish_by_wish) rfl rfl (λw h Y=>⟨PySem.W.km_in_of Y,PySem.W.km_tabs_of Y _ (List.Mem.head _)⟩) (λw=>by kernel_rfl) ?F
 case F=>
  intro w mg fa h KX G hmg
  refine' Sm.all_mk KX G hmg ?FO ?Ke ?BI ?EN ?Cj ?FB ?Db ?GI ?BG ?EL ?Ck ?FC ?AQ ?Cs ?Cm ?FE ?Ci ?FA ?C8 ?GF ?Cf ?Fx ?DW ?Hw ?C9 ?GG ?DV ?Hv ?Ax ?Ba ?Cg ?Fy ?DX ?HH ?IT ?KF ?C6 ?GD ?C7 ?GE ?Fu ?Jh ?AT ?De ?Fq ?Je ?Ch ?Fz ?AO ?Cr ?AH ?BS ?Da ?GH ?By ?ED ?G6 ?Kd ?Fs ?Jf ?AU ?Dg ?BC ?EH ?DU ?Hu ?Fp ?Jd ?Ce ?Fw ?Bb ?DH ?Bz ?EE ?BB ?EG ?Ft ?Jg ?BD ?EI ?BA ?EF ?CU ?Hy ?Am ?Bu ?An ?Af ?A6 ?Ah ?Al ?Be ?Ar ?Ay ?DE ?Az ?AV ?Gh ?AY ?AJ ?Fd ?AX ?AI ?Fc ?AK ?Aj ?Bl ?Ak ?Ao ?BM ?At ?Ag ?A7 ?Ai ?Au ?C3 ?Av ?Bs ?Hh ?Bt ?BE ?EJ ?Bc ?DI ?BF ?EK ?Cl ?FD ?AB ?Bn ?BH ?EM ?JG ?KK ?z_all ?z_bool ?z_enumerate ?z_int ?z_isinstance ?z_len ?z_list ?z_max ?z_min ?z_range ?z_reversed ?z_sorted ?z_tuple ?g_LAST_TIME ?g_MOST_SPREAD_WALKERS ?g_MOST_SPREAD_MEETINGS ?JZ ?IR ?Gv ?Fo ?IQ ?IO ?Gu ?Gr ?Kz ?JL ?JW ?JK ?JI ?JU ?JV ?nf_Trip_book ?nf_Trip_letters ?nf_Trip_holders ?nf_Trip_arrivals ?nf_Trip_passed ?nf_Trip_reached ?nf_Trip_deeds ?Ha ?DZ ?EU ?ET ?ES ?Io ?G9 ?G8 ?h_cd ?h_hd
  (case JZ|IR|Gv|Fo|IQ|IO|Gu|Gr|Kz|FO|BI|Cj|Db|BG|Ck|AQ|Cm|Ci|C8|Cf|DW|C9|DV|Ax|Cg|DX|IT|C6|C7|Fu|AT|Fq|Ch|AO|AH|Da|By|G6|Fs|AU|BC|DU|Fp|Ce|Bb|Bz|BB|Ft|BD|BA|CU|Am|Bu|Af|A6|Al|Be|Ay|DE|AV|Gh|AJ|Fd|AI|Fc|Aj|Bl|Ao|BM|Ag|A7|Au|C3|Bs|Hh|BE|Bc|BF|Cl|AB|BH|JG|z_all|z_bool|z_enumerate|z_int|z_isinstance|z_len|z_list|z_max|z_min|z_range|z_reversed|z_sorted|z_tuple|g_LAST_TIME|g_MOST_SPREAD_WALKERS|g_MOST_SPREAD_MEETINGS|JL|JW|JK|JI|JU|JV|nf_Trip_book|nf_Trip_letters|nf_Trip_holders|nf_Trip_arrivals|nf_Trip_passed|nf_Trip_reached|nf_Trip_deeds=>k_is)
  (case Ke=>refine' L2.fun_mk ?x1 ?y1 ?z1;(case x1|y1|z1=>k_is))
  (case EN=>refine' L2.fun_mk ?x3 ?y3 ?z3;(case x3|y3|z3=>k_is))
  (case FB=>refine' L2.fun_mk ?x5 ?y5 ?z5;(case x5|y5|z5=>k_is))
  (case GI=>refine' L2.fun_mk ?x7 ?y7 ?z7;(case x7|y7|z7=>k_is))
  (case EL=>refine' L2.fun_mk ?x9 ?y9 ?z9;(case x9|y9|z9=>k_is))
  (case FC=>refine' L2.fun_mk ?x11 ?y11 ?z11;(case x11|y11|z11=>k_is))
  (case Cs=>refine' L2.fun_mk ?x13 ?y13 ?z13;(case x13|y13|z13=>k_is))
  (case FE=>refine' L2.fun_mk ?x15 ?y15 ?z15;(case x15|y15|z15=>k_is))
  (case FA=>refine' L2.fun_mk ?x17 ?y17 ?z17;(case x17|y17|z17=>k_is))
  (case GF=>refine' L2.fun_mk ?x19 ?y19 ?z19;(case x19|y19|z19=>k_is))
  (case Fx=>refine' L2.fun_mk ?x21 ?y21 ?z21;(case x21|y21|z21=>k_is))
  (case Hw=>refine' L2.fun_mk ?x23 ?y23 ?z23;(case x23|y23|z23=>k_is))
  (case GG=>refine' L2.fun_mk ?x25 ?y25 ?z25;(case x25|y25|z25=>k_is))
  (case Hv=>refine' L2.fun_mk ?x27 ?y27 ?z27;(case x27|y27|z27=>k_is))
  (case Ba=>refine' L2.fun_mk ?x29 ?y29 ?z29;(case x29|y29|z29=>k_is))
  (case Fy=>refine' L2.fun_mk ?x31 ?y31 ?z31;(case x31|y31|z31=>k_is))
  (case HH=>refine' L2.fun_mk ?x33 ?y33 ?z33;(case x33|y33|z33=>k_is))
  (case KF=>refine' L2.fun_mk ?x35 ?y35 ?z35;(case x35|y35|z35=>k_is))
  (case GD=>refine' L2.fun_mk ?x37 ?y37 ?z37;(case x37|y37|z37=>k_is))
  (case GE=>refine' L2.fun_mk ?x39 ?y39 ?z39;(case x39|y39|z39=>k_is))
  (case Jh=>refine' L2.fun_mk ?x41 ?y41 ?z41;(case x41|y41|z41=>k_is))
  (case De=>refine' L2.fun_mk ?x43 ?y43 ?z43;(case x43|y43|z43=>k_is))
  (case Je=>refine' L2.fun_mk ?x45 ?y45 ?z45;(case x45|y45|z45=>k_is))
  (case Fz=>refine' L2.fun_mk ?x47 ?y47 ?z47;(case x47|y47|z47=>k_is))
  (case Cr=>refine' L2.fun_mk ?x49 ?y49 ?z49;(case x49|y49|z49=>k_is))
  (case BS=>refine' L2.fun_mk ?x51 ?y51 ?z51;(case x51|y51|z51=>k_is))
  (case GH=>refine' L2.fun_mk ?x53 ?y53 ?z53;(case x53|y53|z53=>k_is))
  (case ED=>refine' L2.fun_mk ?x55 ?y55 ?z55;(case x55|y55|z55=>k_is))
  (case Kd=>refine' L2.fun_mk ?x57 ?y57 ?z57;(case x57|y57|z57=>k_is))
  (case Jf=>refine' L2.fun_mk ?x59 ?y59 ?z59;(case x59|y59|z59=>k_is))
  (case Dg=>refine' L2.fun_mk ?x61 ?y61 ?z61;(case x61|y61|z61=>k_is))
  (case EH=>refine' L2.fun_mk ?x63 ?y63 ?z63;(case x63|y63|z63=>k_is))
  (case Hu=>refine' L2.fun_mk ?x65 ?y65 ?z65;(case x65|y65|z65=>k_is))
  (case Jd=>refine' L2.fun_mk ?x67 ?y67 ?z67;(case x67|y67|z67=>k_is))
  (case Fw=>refine' L2.fun_mk ?x69 ?y69 ?z69;(case x69|y69|z69=>k_is))
  (case DH=>refine' L2.fun_mk ?x71 ?y71 ?z71;(case x71|y71|z71=>k_is))
  (case EE=>refine' L2.fun_mk ?x73 ?y73 ?z73;(case x73|y73|z73=>k_is))
  (case EG=>refine' L2.fun_mk ?x75 ?y75 ?z75;(case x75|y75|z75=>k_is))
  (case Jg=>refine' L2.fun_mk ?x77 ?y77 ?z77;(case x77|y77|z77=>k_is))
  (case EI=>refine' L2.fun_mk ?x79 ?y79 ?z79;(case x79|y79|z79=>k_is))
  (case EF=>refine' L2.fun_mk ?x81 ?y81 ?z81;(case x81|y81|z81=>k_is))
  (case Hy=>refine' L2.fun_mk ?x83 ?y83 ?z83;(case x83|y83|z83=>k_is))
  (case An=>refine' L2.fun_mk ?x86 ?y86 ?z86;(case x86|y86|z86=>k_is))
  (case Ah=>refine' L2.fun_mk ?x89 ?y89 ?z89;(case x89|y89|z89=>k_is))
  (case Ar=>refine' L2.fun_mk ?x92 ?y92 ?z92;(case x92|y92|z92=>k_is))
  (case Az=>refine' L2.fun_mk ?x95 ?y95 ?z95;(case x95|y95|z95=>k_is))
  (case AY=>refine' L2.fun_mk ?x98 ?y98 ?z98;(case x98|y98|z98=>k_is))
  (case AX=>refine' L2.fun_mk ?x101 ?y101 ?z101;(case x101|y101|z101=>k_is))
  (case AK=>refine' L2.fun_mk ?x104 ?y104 ?z104;(case x104|y104|z104=>k_is))
  (case Ak=>refine' L2.fun_mk ?x107 ?y107 ?z107;(case x107|y107|z107=>k_is))
  (case At=>refine' L2.fun_mk ?x110 ?y110 ?z110;(case x110|y110|z110=>k_is))
  (case Ai=>refine' L2.fun_mk ?x113 ?y113 ?z113;(case x113|y113|z113=>k_is))
  (case Av=>refine' L2.fun_mk ?x116 ?y116 ?z116;(case x116|y116|z116=>k_is))
  (case Bt=>refine' L2.fun_mk ?x119 ?y119 ?z119;(case x119|y119|z119=>k_is))
  (case EJ=>refine' L2.fun_mk ?x121 ?y121 ?z121;(case x121|y121|z121=>k_is))
  (case DI=>refine' L2.fun_mk ?x123 ?y123 ?z123;(case x123|y123|z123=>k_is))
  (case EK=>refine' L2.fun_mk ?x125 ?y125 ?z125;(case x125|y125|z125=>k_is))
  (case FD=>refine' L2.fun_mk ?x127 ?y127 ?z127;(case x127|y127|z127=>k_is))
  (case Bn=>refine' L2.fun_mk ?x129 ?y129 ?z129;(case x129|y129|z129=>k_is))
  (case EM=>refine' L2.fun_mk ?x131 ?y131 ?z131;(case x131|y131|z131=>k_is))
  (case KK=>refine' L2.fun_mk ?x133 ?y133 ?z133;(case x133|y133|z133=>k_is))
  (case Ha=>kernel_rfl)
  (case DZ=>kernel_rfl)
  (case EU=>kernel_rfl)
  (case ET=>kernel_rfl)
  (case ES=>kernel_rfl)
  (case Io=>kernel_rfl)
  (case G9=>kernel_rfl)
  (case G8=>kernel_rfl)
  (case h_cd=>rfl)
  (case h_hd=>kernel_rfl)

